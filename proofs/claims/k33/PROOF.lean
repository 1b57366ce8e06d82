import PyProof.Rows.All
import Wide.All
import OpenK.AllK
import Wide.FinOn
import Lean
import PyProof.EqAt
import PyProof.EqKinds
import PyProof.TupleCall
import PyProof.ExcBaseAll.ValueError
import PyProof.P3Eq
import PyProof.NeData
import PyProof.DictTable
import KE.KEqDict
import PyProof.EnumFor
import PyProof.EnumMake
import PyProof.EnumStmt
import PyProof.NsDelKeeps
import KE.KListMore
import PyProof.Rows.SortWalk
import PyProof.ListRange
import PyProof.CollectIter
import PyProof.TupleOfStr
import PyProof.P3In
import PySem.Challenge.RW_knockwright_k33_papers_of_crowds
set_option Elab.async false
set_option linter.all false
set_option maxRecDepth 100000
namespace L2
open PySem PySem.Spec PyProof.Rows
noncomputable abbrev Key := Sum Int Str
noncomputable def keyIs : Key → Value → Bool
  | .inl k, v => Value.isInt k v
  | .inr x, v => Value.isStrOf x v
noncomputable def keyH (w : World) : Key → Int
  | .inl k => hashInt k
  | .inr x => hashStr w x
theorem keyIs_shape : ∀ {k : Key} {v : Value}, keyIs k v = true → (∃ i t, k = Sum.inl i ∧ v = Value.int i t) ∨ (∃ x t, k = Sum.inr x ∧ v = Value.str x t)
  | .inl i, v, h => by
    obtain ⟨t, e⟩ := Value.isInt_shape (k := i) (v := v) h
    exact .inl ⟨i, t, rfl, e⟩
  | .inr x, v, h => by
    obtain ⟨t, e⟩ := Value.isStrOf_shape (x := x) (v := v) h
    exact .inr ⟨x, t, rfl, e⟩
theorem key_ll (a b : Int) : decide ((Sum.inl a : Key) = Sum.inl b) = (a == b) := by
  by_cases e : a = b
  · subst e; simp
  · have h : ¬ (Sum.inl a : Key) = Sum.inl b := fun q => e (Sum.inl.inj q)
    rw [decide_eq_false h]
    exact (beq_eq_false_iff_ne.mpr e).symm
theorem key_rr (a b : Str) : decide ((Sum.inr a : Key) = Sum.inr b) = decide (a = b) := by
  by_cases e : a = b
  · subst e; simp
  · have h : ¬ (Sum.inr a : Key) = Sum.inr b := fun q => e (Sum.inr.inj q)
    rw [decide_eq_false h, decide_eq_false e]
theorem key_lr (a : Int) (b : Str) : decide ((Sum.inl a : Key) = Sum.inr b) = false := decide_eq_false (fun q => nomatch q)
theorem key_rl (a : Str) (b : Int) : decide ((Sum.inr a : Key) = Sum.inl b) = false := decide_eq_false (fun q => nomatch q)
noncomputable def mixKind (prog : Program) (w : World) : PySem.KeyKind prog w Key where
  is := keyIs
  hash := keyH w
  inj := fun v a b ha hb => by
    rcases keyIs_shape ha with ⟨i, t, rfl, rfl⟩ | ⟨x, t, rfl, rfl⟩
    · rcases keyIs_shape hb with ⟨j, u, rfl, e⟩ | ⟨y, u, rfl, e⟩
      · injection e with e1 _; rw [e1]
      · exact nomatch e
    · rcases keyIs_shape hb with ⟨j, u, rfl, e⟩ | ⟨y, u, rfl, e⟩
      · exact nomatch e
      · injection e with e1 _; rw [e1]
  byValue := fun k v h => by
    rcases keyIs_shape h with ⟨i, t, rfl, rfl⟩ | ⟨x, t, rfl, rfl⟩ <;> rfl
  pyHash := fun hv h => by
    rcases keyIs_shape hv with ⟨i, t, rfl, rfl⟩ | ⟨x, t, rfl, rfl⟩
    · exact wpAny_pyHash_int h
    · exact wpAny_pyHash_str h
  eqBool := fun hu hv h => by
    rcases keyIs_shape hu with ⟨i, t, rfl, rfl⟩ | ⟨x, t, rfl, rfl⟩
    · rcases keyIs_shape hv with ⟨j, u, rfl, rfl⟩ | ⟨y, u, rfl, rfl⟩
      · rw [key_ll] at h; exact wpAny_eqBool_int h
      · rw [key_lr] at h; exact SeqAt.EqAt.int_str i t y u _ _ _ _ h
    · rcases keyIs_shape hv with ⟨j, u, rfl, rfl⟩ | ⟨y, u, rfl, rfl⟩
      · rw [key_rl] at h; exact SeqAt.EqAt.str_int x t j u _ _ _ _ h
      · rw [key_rr] at h; exact wpAny_eqBool_str h
  «strs» := fun k x t v h => by
    rcases keyIs_shape h with ⟨i, u, rfl, e⟩ | ⟨y, u, rfl, e⟩
    · exact nomatch e
    · injection e with e1 _
      subst e1
      cases v <;> rfl
end L2
namespace L2
open PySem PySem.Spec PyProof.Rows
inductive V where
  | non | bl (b : Bool) | int (i : Int) | str (x : Str) | byt (b : Array UInt8) | flt (b : UInt64) | ref (a : Addr) | ty (n : String)
  deriving DecidableEq
noncomputable def RelV : V → Value → Prop
  | .non, u => u = Value.none
  | .bl b, u => u = Value.bool b
  | .int i, u => ∃ t, u = Value.int i t
  | .str x, u => ∃ t, u = Value.str x t
  | .byt b, u => ∃ t, u = Value.bytes b t
  | .flt b, u => ∃ t, u = Value.float b t
  | .ref a, u => u = Value.ref a
  | .ty n, u => u = Value.type n
noncomputable abbrev Vals : List V → List Value → Prop := Paired RelV
theorem Vals.length {xs : List V} {us : List Value} (r : Vals xs us) : xs.length = us.length := Paired.length r
theorem Vals.get : ∀ {xs : List V} {us : List Value} {i : Nat} {x : V}, Vals xs us → xs[i]? = some x → ∃ u, us[i]? = some u ∧ RelV x u
  | _, _, _, _, .nil, e => by simp at e
  | _, _, 0, _, .cons r _, e => by simp at e; subst e; exact ⟨_, rfl, r⟩
  | _, _, i + 1, x, .cons _ t, e => by
    obtain ⟨u, h1, h2⟩ := Vals.get (i := i) (x := x) t (by simpa using e)
    exact ⟨u, by simpa using h1, h2⟩
theorem Vals.set {x : V} {u : Value} (r : RelV x u) : ∀ {xs : List V} {us : List Value} (i : Nat), Vals xs us → Vals (xs.set i x) (us.set i u)
  | _, _, _, .nil => .nil
  | _, _, 0, .cons _ t => .cons r t
  | _, _, i + 1, .cons q t => .cons q (Vals.set r i t)
theorem Vals.append : ∀ {xs ys : List V} {us ws : List Value}, Vals xs us → Vals ys ws → Vals (xs ++ ys) (us ++ ws)
  | _, _, _, _, .nil, s => s
  | _, _, _, _, .cons r t, s => .cons r (Vals.append t s)
theorem Vals.take : ∀ {xs : List V} {us : List Value} (n : Nat), Vals xs us → Vals (xs.take n) (us.take n)
  | _, _, 0, _ => .nil
  | _, _, _ + 1, .nil => .nil
  | _, _, n + 1, .cons r t => .cons r (Vals.take n t)
theorem Vals.drop : ∀ {xs : List V} {us : List Value} (n : Nat), Vals xs us → Vals (xs.drop n) (us.drop n)
  | _, _, 0, r => r
  | _, _, _ + 1, .nil => .nil
  | _, _, n + 1, .cons _ t => Vals.drop n t
noncomputable def RelO : Option V → Option Value → Prop
  | some v, some u => RelV v u
  | none, none => True
  | _, _ => False
noncomputable def KV {κ : Type} : List (κ × V) → List (κ × Value) → Prop := Paired fun (p : κ × V) (q : κ × Value) => p.1 = q.1 ∧ RelV p.2 q.2
noncomputable def kV : Key → V
  | .inl i => .int i
  | .inr x => .str x
inductive HO where
  | lst (xs : List V)
  | tup (xs : List V)
  | dK (kvs : List (Key × V)) | dT (kvs : List (List Key × V))
  | set (S : Int → Bool) (n : Nat)
  | ins (C dx : Addr) (fs : List (Str × V))
  | own (x : Addr)
  | xd (fs : List (Str × V))
  | met (f x : Addr)
  | rng (lo hi : Int)
  | frz (o : Obj) (u : HO)
  | tbl (ps : Array Value)
  | ext (φ : Heap → Prop)
noncomputable abbrev Hp := Addr → Option HO
noncomputable def upd (H : Hp) (a : Addr) (o : HO) : Hp := fun b => if b = a then some o else H b
theorem upd_same {H : Hp} {a : Addr} {o : HO} : upd H a o a = some o := by unfold upd; rw [if_pos rfl]
theorem upd_ne {H : Hp} {a b : Addr} {o : HO} (h : b ≠ a) : upd H a o b = H b := by unfold upd; rw [if_neg h]
theorem ne_of {H : Hp} {a b : Addr} {o u : HO} (h : H a = some o) (h' : H b = some u) (d : o ≠ u) : a ≠ b := by
  intro e; subst e; rw [h] at h'; exact d (Option.some.inj h')
theorem ne_of_none {H : Hp} {a b : Addr} {o : HO} (h : H a = some o) (h' : H b = none) : a ≠ b := by
  intro e; subst e; rw [h] at h'; cases h'
section
variable (P : Program) (w : World)
noncomputable def ObjOk (H : Hp) (h : Heap) (a : Addr) : HO → Prop
  | .lst xs => xs.length ≤ sizeLine ∧ ∃ (its : List Value) (n : Nat), Vals xs its ∧ h.get? a = some { cls := .type "list", data := .seq its.toArray n }
  | .tup xs => xs.length ≤ sizeLine ∧ ∃ its : List Value, Vals xs its ∧ IsTup h a its.toArray
  | .dK kvs => kvs.length ≤ sizeLine ∧ (a == sysModules) = false ∧ ∃ vs, KV kvs vs ∧ h.DictOf (mixKind P w) a vs
  | .dT kvs => kvs.length ≤ sizeLine ∧ (a == sysModules) = false ∧ ∃ xs : List (List Key × Addr × Value),
      Paired (fun (p : List Key × V) (q : List Key × Addr × Value) => p.1 = q.1 ∧ H q.2.1 = some (.tup (p.1.map kV)) ∧ RelV p.2 q.2.2) kvs xs ∧
      ∃ o es ep, h.get? a = some o ∧ o.ExactDict ∧ o.data = .dict es ep ∧ es.toList = xs.map (entryOfKey (tupleKind (mixKind P w))) ∧ (xs.map (·.1)).Nodup
  | .set S n => h.SetOf (intKind P w) a S n
  | .ins C dx fs => H dx = some (.own a) ∧ fs.length ≤ 1000 ∧ dx ≠ a ∧ h.get? a = some (PySem.W.instObj C dx) ∧
      ∃ mA, h.Ns1 dx mA ∧ (∀ f, RelO (fs.lookup f) (mA f)) ∧ PySem.Within mA (fs.map (·.1))
  | .own _ => ∃ o, h.get? a = some o
  | .xd fs => ∃ mA, h.Ns1 a mA ∧ ∀ f, RelO (fs.lookup f) (mA f)
  | .rng lo hi => ∃ t u v, h.get? a = some { cls := .type "range", data := .fields #[.int lo t, .int hi u, .int 1 v] }
  | .frz o u => h.get? a = some o ∧ ObjOk H h a u
  | .tbl ps => h.get? a = some { cls := .none, data := .fields ps }
  | .met f x => h.get? a = some (PySem.W.methodObj (.ref f) (.ref x))
  | .ext φ => φ h ∧ (∃ o, h.get? a = some o) ∧ ∀ h1 h2 : Heap, φ h1 → (∀ o, h1.get? a = some o → h2.get? a = some o) → φ h2
noncomputable def HOk (H : Hp) (h : Heap) : Prop := ∀ a o, H a = some o → ObjOk P w H h a o
end
section
variable {P : Program} {w : World} {H H' : Hp} {h h' : Heap} {a : Addr} {o : HO}
theorem ObjOk.lt (x : ObjOk P w H h a o) : a < h.objs.size := by
  cases o with
  | lst xs => obtain ⟨_, _, _, _, e⟩ := x; exact Heap.lt_size e
  | tup xs => obtain ⟨_, _, _, p⟩ := x; exact p.lt
  | dK kvs => obtain ⟨_, _, _, _, o, _, _, e, _⟩ := x; exact Heap.lt_size e
  | dT kvs => obtain ⟨_, _, _, _, o, _, _, e, _⟩ := x; exact Heap.lt_size e
  | set S n => obtain ⟨o, _, _, _, e, _⟩ := x; exact Heap.lt_size e
  | ins C dx fs => obtain ⟨_, _, _, e, _⟩ := x; exact Heap.lt_size e
  | own y => obtain ⟨_, e⟩ := x; exact Heap.lt_size e
  | xd fs => obtain ⟨_, ⟨_, _, _, e, _⟩, _⟩ := x; exact Heap.lt_size e
  | rng lo hi => obtain ⟨_, _, _, e⟩ := x; exact Heap.lt_size e
  | frz ob u => obtain ⟨e, _⟩ := x; exact Heap.lt_size e
  | tbl ps => exact Heap.lt_size (show h.get? a = some _ from x)
  | met f y => exact Heap.lt_size (show h.get? a = some _ from x)
  | ext φ => obtain ⟨_, ⟨_, e⟩, _⟩ := x; exact Heap.lt_size e
theorem Paired.mapP {α β : Type} {F G : α → β → Prop} : ∀ {l₁ : List α} {l₂ : List β}, Paired F l₁ l₂ → (∀ a b, F a b → G a b) → Paired G l₁ l₂
  | _, _, .nil, _ => .nil
  | _, _, .cons r t, f => .cons (f _ _ r) (Paired.mapP t f)
theorem ObjOk.stay (x : ObjOk P w H h a o) (k : ∀ b u, (b = a ∨ H b = some (.own a)) → h.get? b = some u → h'.get? b = some u)
    (ho : ∀ b, H b = some (.own a) → H' b = some (.own a)) (ht : ∀ b xs, H b = some (.tup xs) → H' b = some (.tup xs)) : ObjOk P w H' h' a o := by
  induction o with
  | lst xs => obtain ⟨z, its, n, r, e⟩ := x; exact ⟨z, its, n, r, k _ _ (.inl rfl) e⟩
  | tup xs => obtain ⟨z, its, r, ob, e, c⟩ := x; exact ⟨z, its, r, ob, k _ _ (.inl rfl) e, c⟩
  | dK kvs => obtain ⟨z, y, vs, r, ob, es, ep, e, c⟩ := x; exact ⟨z, y, vs, r, ob, es, ep, k _ _ (.inl rfl) e, c⟩
  | dT kvs =>
    obtain ⟨z, y, xs, r, ob, es, ep, e, c⟩ := x
    exact ⟨z, y, xs, Paired.mapP r fun p q z => ⟨z.1, ht _ _ z.2.1, z.2.2⟩, ob, es, ep, k _ _ (.inl rfl) e, c⟩
  | set S n => obtain ⟨ob, es, ep, t, e, c⟩ := x; exact ⟨ob, es, ep, t, k _ _ (.inl rfl) e, c⟩
  | ins C dx fs =>
    obtain ⟨d, z, ne, e, mA, ⟨od, es, ep, e2, c⟩, r⟩ := x
    exact ⟨ho _ d, z, ne, k _ _ (.inl rfl) e, mA, ⟨od, es, ep, k _ _ (.inr d) e2, c⟩, r⟩
  | own y => obtain ⟨ob, e⟩ := x; exact ⟨ob, k _ _ (.inl rfl) e⟩
  | xd fs => obtain ⟨mA, ⟨od, es, ep, e, c⟩, r⟩ := x; exact ⟨mA, ⟨od, es, ep, k _ _ (.inl rfl) e, c⟩, r⟩
  | rng lo hi => obtain ⟨t, u, v, e⟩ := x; exact ⟨t, u, v, k _ _ (.inl rfl) e⟩
  | frz ob u ih => obtain ⟨e, q⟩ := x; exact ⟨k _ _ (.inl rfl) e, ih q⟩
  | tbl ps =>
    have e : h.get? a = some { cls := .none, data := .fields ps } := x
    show h'.get? a = some { cls := .none, data := .fields ps }
    exact k a _ (.inl rfl) e
  | met f y =>
    have e : h.get? a = some (PySem.W.methodObj (.ref f) (.ref y)) := x
    show h'.get? a = some (PySem.W.methodObj (.ref f) (.ref y))
    exact k a _ (.inl rfl) e
  | ext φ => obtain ⟨p, ⟨o, e⟩, st⟩ := x; exact ⟨st _ _ p fun o q => k _ _ (.inl rfl) q, ⟨o, k _ _ (.inl rfl) e⟩, st⟩
theorem HOk.lt (x : HOk P w H h) (e : H a = some o) : a < h.objs.size := (x a o e).lt
theorem HOk.fresh (x : HOk P w H h) (e : h.objs.size ≤ a) : H a = none := by
  cases q : H a with
  | none => rfl
  | some u => exact absurd (Nat.lt_of_lt_of_le (x.lt q) e) (Nat.lt_irrefl _)
theorem HOk.kept (x : HOk P w H h) (k : ∀ b u, h.get? b = some u → h'.get? b = some u) : HOk P w H h' := fun a o e =>
  (x a o e).stay (fun b u _ q => k b u q) (fun _ q => q) fun _ _ q => q
theorem HOk.laid (x : HOk P w H h) (k : ∀ b u, h.get? b = some u → h'.get? b = some u) (hp : h.objs.size ≤ a) (new : ObjOk P w (upd H a o) h' a o) : HOk P w (upd H a o) h' := fun b u e => by
  have hn := x.fresh hp
  by_cases hb : b = a
  · subst hb; rw [upd_same] at e; cases e; exact new
  · rw [upd_ne hb] at e
    exact (x b u e).stay (fun c v _ q => k c v q) (fun c q => by rw [upd_ne (ne_of_none q hn)]; exact q) fun c xs q => by rw [upd_ne (ne_of_none q hn)]; exact q
end
noncomputable def Rd (H : Hp) (a : Addr) (u : HO) : Prop := H a = some u ∨ ∃ o, H a = some (.frz o u)
theorem Rd.ok {P : Program} {w : World} {H : Hp} {h : Heap} {a : Addr} {u : HO} (r : Rd H a u) (x : HOk P w H h) : ObjOk P w H h a u := by
  rcases r with r | ⟨o, r⟩
  · exact x a u r
  · obtain ⟨_, q⟩ := x a _ r
    exact q
noncomputable def Mut : Option HO → Prop
  | some (.lst _) => True
  | some (.dK _) => True
  | some (.dT _) => True
  | some (.set _ _) => True
  | some (.ins _ _ _) => True
  | some (.ext _) => True
  | _ => False
section
variable {P : Program} {w : World} {H : Hp} {h h' : Heap} {x e : Addr} {o' : HO}
theorem HOk.write (ok : HOk P w H h) (mu : Mut (H x)) (he : e = x ∨ H e = some (.own x)) (k : ∀ b u, b ≠ e → h.get? b = some u → h'.get? b = some u) (heo : ∃ u, h'.get? e = some u)
    (new : ObjOk P w (upd H x o') h' x o') : HOk P w (upd H x o') h' := fun b u q => by
  have nown : ∀ c y, H c = some (.own y) → c ≠ x := fun c y r z => by subst z; rw [r] at mu; exact mu
  have ntup : ∀ c xs, H c = some (.tup xs) → c ≠ x := fun c xs r z => by subst z; rw [r] at mu; exact mu
  by_cases hb : b = x
  · subst hb; rw [upd_same] at q; cases q; exact new
  · rw [upd_ne hb] at q
    by_cases hbe : b = e
    · have q' : H b = some (.own x) := by
        rcases he with z | z
        · exact absurd (hbe.trans z) hb
        · rw [hbe]; exact z
      rw [q] at q'; cases q'
      obtain ⟨v, hv⟩ := heo
      exact ⟨v, by rw [hbe]; exact hv⟩
    · refine (ok b u q).stay (fun c v hc r => k c v ?_ r) (fun c r => by rw [upd_ne (nown c b r)]; exact r) fun c xs r => by rw [upd_ne (ntup c xs r)]; exact r
      rcases hc with rfl | hc
      · exact hbe
      · rintro rfl
        rcases he with z | z
        · exact nown c b hc z
        · rw [hc] at z; cases z; exact hb rfl
end
structure Un (fs ex : List Addr) (H H' : Hp) (h h' : Heap) : Prop where
  keep : ∀ b o, h.get? b = some o → H b = none → b ∉ fs → b ∉ ex → h'.get? b = some o
  slot : ∀ b o, h.get? b = some o → H b = none → b ∈ fs → b ∉ ex → ∃ sl, h'.get? b = some { o with slots := sl }
  free : ∀ b o, h.get? b = some o → H b = none → b ∉ ex → H' b = none
  there : ∀ b o, h.get? b = some o → b ∉ ex → ∃ o', h'.get? b = some o'
  tups : ∀ b xs, H b = some (.tup xs) → H' b = some (.tup xs)
  frzs : ∀ b o u, H b = some (.frz o u) → H' b = some (.frz o u)
  tbls : ∀ b ps, H b = some (.tbl ps) → ∃ more, H' b = some (.tbl (ps ++ more))
section
variable {fs fs' ex ex' : List Addr} {H H1 H2 : Hp} {h h1 h2 h' : Heap} {a x e : Addr} {o : HO}
theorem Un.any (u : Un fs ex H H1 h h1) {b : Addr} {ob : Obj} (q : h.get? b = some ob) (n : H b = none) (hx : b ∉ ex) : ∃ sl, h1.get? b = some { ob with slots := sl } := by
  by_cases hb : b ∈ fs
  · exact u.slot b ob q n hb hx
  · exact ⟨ob.slots, u.keep b ob q n hb hx⟩
theorem Un.kept (k : ∀ b u, h.get? b = some u → h'.get? b = some u) : Un fs ex H H h h' :=
  ⟨fun b ob q _ _ _ => k b ob q, fun b ob q _ _ _ => ⟨ob.slots, k b ob q⟩, fun _ _ _ n _ => n, fun b ob q _ => ⟨ob, k b ob q⟩, fun _ _ q => q, fun _ _ _ q => q, fun _ ps q => ⟨#[], by rw [q]; simp⟩⟩
theorem Un.refl : Un fs ex H H h h := Un.kept fun _ _ q => q
theorem Un.laid (k : ∀ b u, h.get? b = some u → h'.get? b = some u) (hp : h.objs.size ≤ a) (hn : H a = none) : Un fs ex H (upd H a o) h h' where
  keep := fun b u q _ _ _ => k b u q
  slot := fun b u q _ _ _ => ⟨u.slots, k b u q⟩
  free := fun b u q n _ => by rw [upd_ne (Nat.ne_of_lt (Nat.lt_of_lt_of_le (Heap.lt_size q) hp))]; exact n
  there := fun b u q _ => ⟨u, k b u q⟩
  tups := fun b xs q => by rw [upd_ne (ne_of_none q hn)]; exact q
  frzs := fun b u xs q => by rw [upd_ne (ne_of_none q hn)]; exact q
  tbls := fun b ps q => ⟨#[], by rw [upd_ne (ne_of_none q hn), q]; simp⟩
theorem Un.write (mu : Mut (H x)) (he : e = x ∨ H e = some (.own x)) (k : ∀ b u, b ≠ e → h.get? b = some u → h'.get? b = some u) (heo : ∃ u, h'.get? e = some u) : Un fs ex H (upd H x o) h h' := by
  have hx : ∀ b, H b = none → b ≠ x := fun b n z => by subst z; rw [n] at mu; exact mu
  have hb : ∀ b, H b = none → b ≠ e := fun b n z => by
    subst z
    rcases he with r | r
    · exact hx b n r
    · rw [n] at r; cases r
  have hm : ∀ b u, H b = some u → ¬ Mut (some u) → b ≠ x := fun b u q nm z => by subst z; rw [q] at mu; exact nm mu
  refine ⟨fun b u q n _ _ => k b u (hb b n) q, fun b u q n _ _ => ⟨u.slots, k b u (hb b n) q⟩, fun b u q n _ => by rw [upd_ne (hx b n)]; exact n, fun b u q _ => ?_,
    fun b xs q => by rw [upd_ne (hm b _ q fun z => z)]; exact q, fun b u xs q => by rw [upd_ne (hm b _ q fun z => z)]; exact q, fun b ps q => ⟨#[], by rw [upd_ne (hm b _ q fun z => z), q]; simp⟩⟩
  by_cases hbe : b = e
  · subst hbe; exact heo
  · exact ⟨u, k b u hbe q⟩
end
noncomputable def trk (h : Heap) (H : Hp) : List Addr := (List.range h.objs.size).filter fun a => (H a).isSome
noncomputable def hidT (h : Heap) (H : Hp) : Heap := PySem.W.hideAll h (trk h H)
theorem hidT_size (h : Heap) (H : Hp) : (hidT h H).objs.size = h.objs.size := PySem.W.hideAll_size _ _
theorem hidT_get {h : Heap} {H : Hp} {b : Addr} {o : Obj} (e : h.get? b = some o) (n : H b = none) : (hidT h H).get? b = some o :=
  PySem.W.hideAll_get _ e fun hm => by
    have q : (H b).isSome = true := (List.mem_filter.mp hm).2
    rw [n] at q; simp at q
theorem of_hidT {h : Heap} {H : Hp} {b : Addr} {o : Obj} (e : (hidT h H).get? b = some o) : h.get? b = some o ∧ H b = none := by
  have e' : h.get? b = some o := PySem.W.of_hideAll (trk h H) e
  refine ⟨e', ?_⟩
  cases q : H b with
  | none => rfl
  | some x =>
    have hm : b ∈ trk h H := List.mem_filter.mpr ⟨List.mem_range.mpr (Heap.lt_size e'), by simp [q]⟩
    have z : (hidT h H).get? b = none := PySem.W.hideAll_none (trk h H) hm
    rw [z] at e; cases e
end L2
namespace L2
open PySem PySem.Spec PyProof.Rows
structure Mod (K : PySem.W.Frag) (mg : Str → Option Value) (base : Heap) : Prop where
  kin : K.In base
  glob : base.Ns mainGlobals mg
  blt : ∃ mb, base.Ns builtinsNs mb ∧ ∀ x : Str, x ≠ "__name__" → mb x = bootBuiltins x
  nolimit : base.NoLimit
structure Cx where
  prog : Program
  w : World
  K : PySem.W.Frag
  mg : Str → Option Value
  base : Heap
  A : Around
  N : List Str
  s₀ : Shared
  H₀ : Hp
  env : Env
  outer : List Env
  stack : List Env
  ex : List Addr
  fn : Str → Bool
  calm : Bool
  pn : List (Addr × Obj)
  xe : Value → Shared → Prop
noncomputable def frs (l : List Env) : List Addr := l.filterMap (·.frame)
noncomputable abbrev Cx.fs (X : Cx) : List Addr := frs X.outer
noncomputable def Vis (sc : Scope) (x : Str) : Prop := sc.names.lookup x = some .local ∨ sc.names.lookup x = some .cell ∨ sc.names.lookup x = some .free
noncomputable def Loc (sc : Scope) (x : Str) : Prop := sc.names.lookup x = some .local ∨ sc.names.lookup x = some .cell
noncomputable def Look (env : Env) (h : Heap) (m : Str → Option Value) (x : Str) (u : Value) : Prop :=
  (env.kindOf x = some .local ∧ m x = some u) ∨ ((env.kindOf x = some .cell ∨ env.kindOf x = some .free) ∧ ∃ c, env.cells.lookup x = some c ∧ h.IsCell c (some u))
structure Cx.Ok (X : Cx) : Prop where
  mod : Mod X.K X.mg X.base
  kind : X.env.scope.kind = .function
  glob : X.env.globals = mainGlobals
  blt : X.env.builtins = builtinsNs
  above : X.s₀.heap.objs.size ≤ X.env.locals
  inj : ∀ x y c, X.env.cells.lookup x = some c → X.env.cells.lookup y = some c → x = y
  has : ∀ x, (X.env.kindOf x = some .cell ∨ X.env.kindOf x = some .free) → ∃ c, X.env.cells.lookup x = some c
  cab : ∀ x c, X.fn x = true → X.env.cells.lookup x = some c → X.s₀.heap.objs.size ≤ c
  hd : X.calm = true → X.A.handled = none
  frames : X.A.frames = some X.stack
  stk : X.stack = X.outer ∨ (X.stack = X.env :: X.outer ∧ X.env.frame = some X.env.locals)
  exf : ∀ b ∈ X.ex, b ≠ X.env.locals ∧ ∀ x c, X.env.cells.lookup x = some c → c ≠ b
  bs : ∀ b o, X.base.get? b = some o → X.s₀.heap.get? b = some o ∧ X.H₀ b = none
  bsz : X.base.objs.size ≤ X.s₀.heap.objs.size
  noex : ∀ b o, X.base.get? b = some o → b ∉ X.ex
  exfs : ∀ b ∈ X.ex, b ∉ X.fs
  funs : X.s₀.heap.FunFrames X.base X.outer
  frf : ∀ b ∈ X.fs, X.H₀ b = none
structure Inv (X : Cx) (pins : List (Addr × Obj)) (σ : List (Option V)) (H : Hp) (s : Shared) : Prop where
  ok : X.Ok
  os : s.os = X.s₀.os
  bare : AllBare s.gens
  base : Un X.fs X.ex X.H₀ H X.s₀.heap s.heap
  loc : ∃ m, s.heap.Ns X.env.locals m ∧ ∀ (i : Nat) (x : Str) (v : V), X.N[i]? = some x → σ[i]? = some (some v) → Vis X.env.scope x → ∃ u, RelV v u ∧ Look X.env s.heap m x u
  cell : ∀ x c, X.env.cells.lookup x = some c → ∃ v, s.heap.IsCell c v
  free : H X.env.locals = none
  freeC : ∀ x c, X.env.cells.lookup x = some c → H c = none
  pin : ∀ p ∈ X.pn ++ pins, s.heap.get? p.1 = some p.2 ∧ H p.1 = none ∧ p.1 ≠ X.env.locals ∧ p.1 ∉ X.fs ∧ ∀ v, p.2.data ≠ .cell v
  hok : HOk X.prog X.w H s.heap
  len : σ.length = X.N.length
section
variable {X : Cx} {pins : List (Addr × Obj)} {σ : List (Option V)} {H H' : Hp} {s : Shared} {h' : Heap}
theorem Cx.Ok.nofr (ok : X.Ok) {b : Addr} {o : Obj} (e : X.base.get? b = some o) : b ∉ X.fs := fun hb => by
  have := (ok.funs.mem hb).1
  rw [e] at this; cases this
theorem Inv.bs (I : Inv X pins σ H s) : ∀ b o, X.base.get? b = some o → s.heap.get? b = some o ∧ H b = none := fun b o e =>
  ⟨I.base.keep b o (I.ok.bs b o e).1 (I.ok.bs b o e).2 (I.ok.nofr e) (I.ok.noex b o e), I.base.free b o (I.ok.bs b o e).1 (I.ok.bs b o e).2 (I.ok.noex b o e)⟩
theorem Inv.bk (I : Inv X pins σ H s) : ∀ b o, X.base.get? b = some o → s.heap.get? b = some o := fun b o e => (I.bs b o e).1
theorem Inv.mod (I : Inv X pins σ H s) : Mod X.K X.mg X.base := I.ok.mod
theorem Inv.kIn (I : Inv X pins σ H s) : X.K.In s.heap := I.ok.mod.kin.keeps I.bk
theorem Inv.lt (I : Inv X pins σ H s) : X.env.locals < s.heap.objs.size := let ⟨_, hn, _⟩ := I.loc; hn.lt
theorem Inv.sz (I : Inv X pins σ H s) : X.s₀.heap.objs.size ≤ s.heap.objs.size := Nat.le_trans I.ok.above (Nat.le_of_lt I.lt)
theorem Inv.nofs (I : Inv X pins σ H s) {a : Addr} (h : s.heap.objs.size ≤ a) : a ∉ X.fs := fun hb => by
  obtain ⟨_, o, ho, _⟩ := I.ok.funs.mem hb
  exact absurd (Nat.lt_of_lt_of_le (Heap.lt_size ho) (Nat.le_trans I.sz h)) (Nat.lt_irrefl _)
theorem Inv.cne (I : Inv X pins σ H s) : ∀ x c, X.env.cells.lookup x = some c → c ≠ X.env.locals := fun x c e z => by
  obtain ⟨v, o, ho, hd⟩ := I.cell x c e
  obtain ⟨m, ⟨o', es, ep, ho', hd', _⟩, _⟩ := I.loc
  rw [z, ho'] at ho; cases ho; rw [hd'] at hd; cases hd
theorem Inv.funs (I : Inv X pins σ H s) : s.heap.FunFrames X.base X.outer := by
  have all : ∀ (l : List Env), (∀ b ∈ frs l, b ∈ X.fs) → X.s₀.heap.FunFrames X.base l → s.heap.FunFrames X.base l := by
    intro l
    induction l with
    | nil => intro _ _; trivial
    | cons env r ih =>
      intro hs hl
      obtain ⟨hk, ⟨L, o, hf, hn, ho, hd⟩, hr⟩ := hl
      have hL : L ∈ X.fs := hs L (by unfold frs; rw [List.filterMap_cons, hf]; exact List.mem_cons_self)
      obtain ⟨sl, e⟩ := I.base.slot L o ho (I.ok.frf L hL) hL fun z => I.ok.exfs L z hL
      exact ⟨hk, ⟨L, _, hf, hn, e, hd⟩, ih (fun b hb => hs b (by unfold frs; rw [List.filterMap_cons, hf]; exact List.mem_cons_of_mem _ hb)) hr⟩
  exact all X.outer (fun _ hb => hb) I.ok.funs
theorem Inv.stack (I : Inv X pins σ H s) : s.heap.FunFrames X.base X.stack := by
  rcases I.ok.stk with e | ⟨e, hf⟩
  · rw [e]; exact I.funs
  · rw [e]
    obtain ⟨m, hn, _⟩ := I.loc
    refine .cons (by rw [I.ok.kind]; decide) hf hn ?_ I.funs
    exact Heap.get?_none_of_le (Nat.le_trans I.ok.bsz I.ok.above)
theorem Inv.stkSub (I : Inv X pins σ H s) : ∀ b ∈ frs X.stack, b ∈ X.env.locals :: X.fs := fun b hb => by
  rcases I.ok.stk with e | ⟨e, hf⟩
  · rw [e] at hb; exact List.mem_cons_of_mem _ hb
  · rw [e] at hb
    unfold frs at hb
    rw [List.filterMap_cons, hf] at hb
    exact hb
theorem Inv.stkFree (I : Inv X pins σ H s) : ∀ b ∈ frs X.stack, H b = none := fun b hb => by
  rcases List.mem_cons.mp (I.stkSub b hb) with e | hb
  · rw [e]; exact I.free
  · obtain ⟨_, o, ho, _⟩ := I.ok.funs.mem hb
    exact I.base.free b o ho (I.ok.frf b hb) fun z => I.ok.exfs b z hb
theorem Inv.step {g' : Array GenState} {t' : Nat} {d' : Drawn} {ch : List Addr} (I : Inv X pins σ H s)
    (hch : ∀ b ∈ ch, (b ∈ X.ex ∨ X.s₀.heap.objs.size ≤ b) ∧ b ≠ X.env.locals ∧ (∀ x c, X.env.cells.lookup x = some c → c ≠ b) ∧ ∀ p ∈ X.pn ++ pins, p.1 ≠ b)
    (keep : ∀ b o, b ≠ X.env.locals → b ∉ X.fs → b ∉ ch → s.heap.get? b = some o → H b = none → h'.get? b = some o)
    (slot : ∀ b o, b ≠ X.env.locals → b ∈ X.fs → b ∉ ch → s.heap.get? b = some o → H b = none → ∃ sl, h'.get? b = some { o with slots := sl }) (free : ∀ b o, b ∉ ch → s.heap.get? b = some o → H b = none → H' b = none)
    (there : ∀ b o, b ∉ ch → s.heap.get? b = some o → ∃ o', h'.get? b = some o')
    (tups : ∀ b xs, H b = some (.tup xs) → H' b = some (.tup xs)) (frzs : ∀ b o u, H b = some (.frz o u) → H' b = some (.frz o u)) (tbls : ∀ b ps, H b = some (.tbl ps) → ∃ more, H' b = some (.tbl (ps ++ more)))
    (ns : ∀ m, s.heap.Ns X.env.locals m → h'.Ns X.env.locals m) (hok : HOk X.prog X.w H' h') (hg : AllBare g') :
    Inv X pins σ H' { s with heap := h', gens := g', drawn := d', toks := t' } := by
  have neL : ∀ b o, X.s₀.heap.get? b = some o → b ≠ X.env.locals := fun b o e => Nat.ne_of_lt (Nat.lt_of_lt_of_le (Heap.lt_size e) I.ok.above)
  have neC : ∀ b o, X.s₀.heap.get? b = some o → b ∉ X.ex → b ∉ ch := fun b o e hx hb => by
    rcases (hch b hb).1 with z | z
    · exact hx z
    · exact absurd (Nat.lt_of_lt_of_le (Heap.lt_size e) z) (Nat.lt_irrefl _)
  have cellK : ∀ x c, X.env.cells.lookup x = some c → ∀ v, s.heap.IsCell c v → h'.IsCell c v := fun x c e v ⟨o, ho, hd⟩ => by
    have nch : c ∉ ch := fun z => (hch c z).2.2.1 x c e rfl
    by_cases hc : c ∈ X.fs
    · obtain ⟨sl, q⟩ := slot c o (I.cne x c e) hc nch ho (I.freeC x c e)
      exact ⟨_, q, hd⟩
    · exact ⟨o, keep c o (I.cne x c e) hc nch ho (I.freeC x c e), hd⟩
  refine ⟨I.ok, I.os, hg, ⟨fun b o e n hb hx => ?_, fun b o e n hb hx => ?_, fun b o e n hx => ?_, fun b o e hx => ?_, fun b xs e => tups b xs (I.base.tups b xs e), fun b o xs e => frzs b o xs (I.base.frzs b o xs e), fun b ps e => ?_⟩, ?_, fun x c e => ?_, ?_, fun x c e => ?_, fun p hp => ?_, hok, I.len⟩
  · exact keep b o (neL b o e) hb (neC b o e hx) (I.base.keep b o e n hb hx) (I.base.free b o e n hx)
  · obtain ⟨sl, e1⟩ := I.base.slot b o e n hb hx
    obtain ⟨sl', e2⟩ := slot b _ (neL b o e) hb (neC b o e hx) e1 (I.base.free b o e n hx)
    exact ⟨sl', e2⟩
  · obtain ⟨o', e1⟩ := I.base.there b o e hx
    exact free b o' (neC b o e hx) e1 (I.base.free b o e n hx)
  · obtain ⟨o', e1⟩ := I.base.there b o e hx
    exact there b o' (neC b o e hx) e1
  · obtain ⟨m1, e1⟩ := I.base.tbls b ps e
    obtain ⟨m2, e2⟩ := tbls b _ e1
    exact ⟨m1 ++ m2, by rw [e2, Array.append_assoc]⟩
  · obtain ⟨m, hn, hl⟩ := I.loc
    refine ⟨m, ns m hn, fun i x v e1 e2 e3 => ?_⟩
    obtain ⟨u, r, l⟩ := hl i x v e1 e2 e3
    refine ⟨u, r, ?_⟩
    rcases l with l | ⟨k, c, e, z⟩
    · exact .inl l
    · exact .inr ⟨k, c, e, cellK x c e _ z⟩
  · obtain ⟨v, z⟩ := I.cell x c e
    exact ⟨v, cellK x c e v z⟩
  · obtain ⟨m, ⟨o, _, _, ho, _⟩, _⟩ := I.loc
    exact free _ o (fun z => (hch _ z).2.1 rfl) ho I.free
  · obtain ⟨v, o, ho, hd⟩ := I.cell x c e
    exact free c o (fun z => (hch c z).2.2.1 x c e rfl) ho (I.freeC x c e)
  · obtain ⟨e, n, ne, nf, d⟩ := I.pin p hp
    have nch : p.1 ∉ ch := fun z => (hch p.1 z).2.2.2 p hp rfl
    exact ⟨keep p.1 p.2 ne nf nch e n, free p.1 p.2 nch e n, ne, nf, d⟩
theorem Inv.un {t' : Nat} (I : Inv X pins σ H s) (u : Un X.fs [] H H' s.heap h') (hok : HOk X.prog X.w H' h') : Inv X pins σ H' { s with heap := h', toks := t' } := by
  obtain ⟨m, ⟨o, es, ep, ho, r⟩, _⟩ := id I.loc
  obtain ⟨sl, hL⟩ := u.any ho I.free (by simp)
  exact I.step (g' := s.gens) (d' := s.drawn) (ch := []) (fun _ z => nomatch z) (fun b o _ hb _ e n => u.keep b o e n hb (by simp)) (fun b o _ hb _ e n => u.slot b o e n hb (by simp)) (fun b o _ e n => u.free b o e n (by simp)) (fun b o _ e => u.there b o e (by simp)) u.tups u.frzs u.tbls (fun m' hm => by
    obtain ⟨o', es', ep', ho', r'⟩ := hm
    rw [ho] at ho'; cases ho'
    exact ⟨_, es', ep', hL, r'⟩) hok I.bare
theorem Inv.call {g' : Array GenState} {t' : Nat} {d' : Drawn} {ch : List Addr} (I : Inv X pins σ H s) (u : Un (frs X.stack) ch H H' s.heap h') (hok : HOk X.prog X.w H' h') (hg : AllBare g')
    (hch : ∀ b ∈ ch, (b ∈ X.ex ∨ X.s₀.heap.objs.size ≤ b) ∧ b ≠ X.env.locals ∧ (∀ x c, X.env.cells.lookup x = some c → c ≠ b) ∧ ∀ p ∈ X.pn ++ pins, p.1 ≠ b) :
    Inv X pins σ H' { s with heap := h', gens := g', drawn := d', toks := t' } := by
  obtain ⟨m, ⟨o, es, ep, ho, r⟩, _⟩ := id I.loc
  obtain ⟨sl, hL⟩ := u.any ho I.free fun z => (hch _ z).2.1 rfl
  exact I.step (ch := ch) hch (fun b o hL hb hc e n => u.keep b o e n (fun z => (List.mem_cons.mp (I.stkSub b z)).elim hL hb) hc) (fun b o _ _ hc e n => u.any e n hc) (fun b o hc e n => u.free b o e n hc) (fun b o hc e => u.there b o e hc) u.tups u.frzs u.tbls (fun m' hm => by
    obtain ⟨o', es', ep', ho', r'⟩ := hm
    rw [ho] at ho'; cases ho'
    exact ⟨_, es', ep', hL, r'⟩) hok hg
theorem Inv.turned {t' : Nat} {it : Addr} (I : Inv X pins σ H s) (k : ∀ b o, b ≠ it → s.heap.get? b = some o → h'.get? b = some o) (hn : H it = none) (hL : it ≠ X.env.locals)
    (h1 : it ∈ X.ex ∨ X.s₀.heap.objs.size ≤ it) (h2 : ∀ x c, X.env.cells.lookup x = some c → c ≠ it) (h3 : ∀ p ∈ X.pn ++ pins, p.1 ≠ it) : Inv X pins σ H { s with heap := h', toks := t' } := by
  have nit : ∀ b u, H b = some u → b ≠ it := fun b u e z => by rw [z, hn] at e; cases e
  refine I.step (g' := s.gens) (d' := s.drawn) (ch := [it]) (fun b hb => ?_) (fun b o _ _ hc e _ => k b o (fun z => hc (by simp [z])) e) (fun b o _ _ hc e _ => ⟨o.slots, k b o (fun z => hc (by simp [z])) e⟩) (fun _ _ _ _ n => n)
    (fun b o hc e => ⟨o, k b o (fun z => hc (by simp [z])) e⟩) (fun _ _ e => e) (fun _ _ _ e => e) (fun b ps e => ⟨#[], by rw [e]; simp⟩) (fun m hm => ?_) (fun b u e => ?_) I.bare
  · have e : b = it := by simpa using hb
    subst e
    exact ⟨h1, hL, h2, h3⟩
  · obtain ⟨o, es, ep, ho, r⟩ := hm
    exact ⟨o, es, ep, k _ o (Ne.symm hL) ho, r⟩
  · refine (I.hok b u e).stay (fun c v hc q => k c v ?_ q) (fun _ q => q) fun _ _ q => q
    rcases hc with z | z
    · rw [z]; exact nit b u e
    · exact nit c _ z
theorem Inv.tok (I : Inv X pins σ H s) (t : Nat) : Inv X pins σ H { s with toks := t } := I.un (h' := s.heap) (t' := t) Un.refl I.hok
theorem Inv.kept {t' : Nat} (I : Inv X pins σ H s) (k : ∀ b u, s.heap.get? b = some u → h'.get? b = some u) : Inv X pins σ H { s with heap := h', toks := t' } := I.un (Un.kept k) (I.hok.kept k)
theorem Inv.laid {a : Addr} {o : HO} {t' : Nat} (I : Inv X pins σ H s) (k : ∀ b u, s.heap.get? b = some u → h'.get? b = some u) (hp : s.heap.objs.size ≤ a) (new : ObjOk X.prog X.w (upd H a o) h' a o) :
    Inv X pins σ (upd H a o) { s with heap := h', toks := t' } := I.un (Un.laid k hp (I.hok.fresh hp)) (I.hok.laid k hp new)
theorem Inv.write {x e : Addr} {o : HO} {t' : Nat} (I : Inv X pins σ H s) (mu : Mut (H x)) (he : e = x ∨ H e = some (.own x)) (k : ∀ b u, b ≠ e → s.heap.get? b = some u → h'.get? b = some u) (heo : ∃ u, h'.get? e = some u)
    (new : ObjOk X.prog X.w (upd H x o) h' x o) : Inv X pins σ (upd H x o) { s with heap := h', toks := t' } := I.un (Un.write mu he k heo) (I.hok.write mu he k heo new)
theorem Inv.pins_of {pins' : List (Addr × Obj)} (I : Inv X pins σ H s) (h : ∀ p ∈ pins', s.heap.get? p.1 = some p.2 ∧ H p.1 = none ∧ p.1 ≠ X.env.locals ∧ p.1 ∉ X.fs ∧ ∀ v, p.2.data ≠ .cell v) : Inv X pins' σ H s :=
  ⟨I.ok, I.os, I.bare, I.base, I.loc, I.cell, I.free, I.freeC, fun p hp => (List.mem_append.mp hp).elim (fun z => I.pin p (List.mem_append_left _ z)) (h p), I.hok, I.len⟩
theorem nodup_ix {N : List Str} (hN : N.Nodup) {i j : Nat} {x : Str} (a : N[i]? = some x) (b : N[j]? = some x) : i = j := by
  obtain ⟨h1, e1⟩ := List.getElem?_eq_some_iff.mp a
  obtain ⟨h2, e2⟩ := List.getElem?_eq_some_iff.mp b
  exact (List.getElem_inj hN).mp (e1.trans e2.symm)
theorem store_ok2 {M : Model} {A : Around} {E : Value → Shared → Prop} {i : Nat} {x : Str} {v : V} {u : Value} {Q : Unit → Shared → Prop} (I : Inv X pins σ H s) (hN : X.N.Nodup) (hi : X.N[i]? = some x) (hx : Loc X.env.scope x) (r : RelV v u)
    (h : ∀ s', Inv X pins (σ.set i (some v)) H s' → (∃ a, Heap.SameBut a s.heap s'.heap ∧ (a = X.env.locals ∨ X.env.cells.lookup x = some a)) → Q () s') (hf : X.fn x = true ∨ X.env.scope.names.lookup x = some .local := by first | exact .inl rfl | exact .inr rfl | assumption) : wpAny M A (storeName X.env x u) Q E s := by
  obtain ⟨m, hn, hl⟩ := id I.loc
  have hcls : (X.env.scope.kind == .class || (X.env.scope.kind == .module && X.env.locals != X.env.globals)) = false := by rw [I.ok.kind]; rfl
  have hiσ : i < σ.length := by rw [I.len]; exact (List.getElem?_eq_some_iff.mp hi).1
  have cne := I.cne
  have tracked : ∀ {a : Addr} {h' : Heap}, (∃ o, s.heap.get? a = some o ∧ H a = none) → Heap.SameBut a s.heap h' → HOk X.prog X.w H h' := fun {a h'} ha hs b ob e => by
    obtain ⟨_, _, hfree⟩ := ha
    refine (I.hok b ob e).stay (fun c w' hc q => (hs.2 c ?_).trans q) (fun _ q => q) fun _ _ q => q
    rintro rfl
    rcases hc with rfl | hc
    · rw [hfree] at e; cases e
    · rw [hfree] at hc; cases hc
  rcases hx with hk | hk
  · refine wpAny_storeName_local hk hn (fun h' hn' hs => ?_) hcls
    obtain ⟨oL, _, _, hoL, _⟩ := id hn
    refine h _ ⟨I.ok, I.os, I.bare, ⟨fun b o e n hb hx => ?_, fun b o e n hb hx => ?_, I.base.free, fun b o e hx => ?_, I.base.tups, I.base.frzs, I.base.tbls⟩, ⟨_, hn', fun j y v' e1 e2 e3 => ?_⟩, fun y c e => ?_, I.free, I.freeC, fun p hp => ?_, tracked ⟨oL, hoL, I.free⟩ hs, by simpa using I.len⟩ ⟨_, hs, .inl rfl⟩
    · exact (hs.2 b (Nat.ne_of_lt (Nat.lt_of_lt_of_le (Heap.lt_size e) I.ok.above))).trans (I.base.keep b o e n hb hx)
    · obtain ⟨sl, e1⟩ := I.base.slot b o e n hb hx
      exact ⟨sl, (hs.2 b (Nat.ne_of_lt (Nat.lt_of_lt_of_le (Heap.lt_size e) I.ok.above))).trans e1⟩
    · obtain ⟨o', e1⟩ := I.base.there b o e hx
      exact ⟨o', (hs.2 b (Nat.ne_of_lt (Nat.lt_of_lt_of_le (Heap.lt_size e) I.ok.above))).trans e1⟩
    · by_cases hj : j = i
      · subst hj
        rw [hi] at e1; cases e1
        rw [List.getElem?_set_self hiσ] at e2
        cases e2
        exact ⟨u, r, .inl ⟨hk, by simp⟩⟩
      · rw [List.getElem?_set_ne (Ne.symm hj)] at e2
        obtain ⟨u', r', q⟩ := hl j y v' e1 e2 e3
        refine ⟨u', r', ?_⟩
        rcases q with ⟨k, e⟩ | ⟨k, c, e, z⟩
        · refine .inl ⟨k, ?_⟩
          have : y ≠ x := fun e => hj (nodup_ix hN e1 (e ▸ hi))
          simp [this, e]
        · exact .inr ⟨k, c, e, z.sameBut hs (cne y c e)⟩
    · obtain ⟨w', z⟩ := I.cell y c e
      exact ⟨w', z.sameBut hs (cne y c e)⟩
    · obtain ⟨e, n, ne, nf, d⟩ := I.pin p hp
      exact ⟨(hs.2 p.1 ne).trans e, n, ne, nf, d⟩
  · have hfn : X.fn x = true := by
      rcases hf with z | z
      · exact z
      · rw [z] at hk; cases hk
    obtain ⟨c, hc⟩ := I.ok.has x (.inl hk)
    obtain ⟨w', z⟩ := I.cell x c hc
    refine wpAny_storeName_cell I.ok.kind hk hc z (fun h' hc' hs => ?_)
    obtain ⟨oc, hoc, hocd⟩ := id z
    refine h { s with heap := h' } ⟨I.ok, I.os, I.bare, ⟨fun b o e n hb hx => ?_, fun b o e n hb hx => ?_, I.base.free, fun b o e hx => ?_, I.base.tups, I.base.frzs, I.base.tbls⟩, ⟨m, hn.sameBut hs (Ne.symm (cne x c hc)), fun j y v' e1 e2 e3 => ?_⟩, fun y c' e => ?_, I.free, I.freeC, fun p hp => ?_, tracked ⟨oc, hoc, I.freeC x c hc⟩ hs, by simpa using I.len⟩ ⟨c, hs, .inr hc⟩
    · exact (hs.2 b (Nat.ne_of_lt (Nat.lt_of_lt_of_le (Heap.lt_size e) (I.ok.cab x c hfn hc)))).trans (I.base.keep b o e n hb hx)
    · obtain ⟨sl, e1⟩ := I.base.slot b o e n hb hx
      exact ⟨sl, (hs.2 b (Nat.ne_of_lt (Nat.lt_of_lt_of_le (Heap.lt_size e) (I.ok.cab x c hfn hc)))).trans e1⟩
    · obtain ⟨o', e1⟩ := I.base.there b o e hx
      exact ⟨o', (hs.2 b (Nat.ne_of_lt (Nat.lt_of_lt_of_le (Heap.lt_size e) (I.ok.cab x c hfn hc)))).trans e1⟩
    · by_cases hj : j = i
      · subst hj
        rw [hi] at e1; cases e1
        rw [List.getElem?_set_self hiσ] at e2
        cases e2
        exact ⟨u, r, .inr ⟨.inl hk, c, hc, hc'⟩⟩
      · rw [List.getElem?_set_ne (Ne.symm hj)] at e2
        obtain ⟨u', r', q⟩ := hl j y v' e1 e2 e3
        refine ⟨u', r', ?_⟩
        rcases q with q | ⟨k, c', e, z'⟩
        · exact .inl q
        · refine .inr ⟨k, c', e, z'.sameBut hs ?_⟩
          rintro rfl
          exact hj (nodup_ix hN e1 (I.ok.inj _ _ _ e hc ▸ hi))
    · by_cases hcc : c' = c
      · subst hcc; exact ⟨_, hc'⟩
      · obtain ⟨w2, z2⟩ := I.cell y c' e
        exact ⟨w2, z2.sameBut hs hcc⟩
    · obtain ⟨e, n, ne, nf, d⟩ := I.pin p hp
      refine ⟨(hs.2 p.1 ?_).trans e, n, ne, nf, d⟩
      intro q
      rw [q, hoc] at e
      have q' : oc = p.2 := Option.some.inj e
      exact d w' (by rw [← q']; exact hocd)
theorem store_ok {M : Model} {A : Around} {E : Value → Shared → Prop} {i : Nat} {x : Str} {v : V} {u : Value} {Q : Unit → Shared → Prop} (I : Inv X pins σ H s) (hN : X.N.Nodup) (hi : X.N[i]? = some x) (hx : Loc X.env.scope x) (r : RelV v u)
    (h : ∀ s', Inv X pins (σ.set i (some v)) H s' → Q () s') (hf : X.fn x = true ∨ X.env.scope.names.lookup x = some .local := by first | exact .inl rfl | exact .inr rfl | assumption) : wpAny M A (storeName X.env x u) Q E s :=
  store_ok2 I hN hi hx r (fun s' I' _ => h s' I') hf
end
noncomputable abbrev XK := Value → Option Addr → Hp → Prop
noncomputable abbrev St := List (Option V)
noncomputable abbrev VK := V → Hp → Prop
noncomputable abbrev TE := St → Hp → VK → Prop
noncomputable abbrev TT := St → Hp → (Bool → Hp → Prop) → Prop
noncomputable abbrev TA := St → Hp → (List V → Hp → Prop) → Prop
structure Ends where
  nx : St → Hp → Prop
  rt : VK
  bk : St → Hp → Prop := fun _ _ => False
  ct : St → Hp → Prop := fun _ _ => False
noncomputable abbrev TS := Ends → St → Hp → Prop
noncomputable def EP (X : Cx) (pins : List (Addr × Obj)) (σ : St) (Q : VK) (u : Value) (s' : Shared) : Prop := ∃ v H', Inv X pins σ H' s' ∧ RelV v u ∧ Q v H'
noncomputable def TP (X : Cx) (pins : List (Addr × Obj)) (σ : St) (Q : Bool → Hp → Prop) (b : Bool) (s' : Shared) : Prop := ∃ H', Inv X pins σ H' s' ∧ Q b H'
noncomputable def AP (X : Cx) (pins : List (Addr × Obj)) (σ : St) (Q : List V → Hp → Prop) (us : List Value) (s' : Shared) : Prop := ∃ vs H', Inv X pins σ H' s' ∧ Vals vs us ∧ Q vs H'
noncomputable def SP (X : Cx) (pins : List (Addr × Obj)) (D : Ends) (f : Flow) (s' : Shared) : Prop :=
  match f with
  | .next => ∃ σ' H', Inv X pins σ' H' s' ∧ D.nx σ' H'
  | .brk => ∃ σ' H', Inv X pins σ' H' s' ∧ D.bk σ' H'
  | .cont => ∃ σ' H', Inv X pins σ' H' s' ∧ D.ct σ' H'
  | .ret u => ∃ v σ' H', Inv X pins σ' H' s' ∧ RelV v u ∧ D.rt v H'
noncomputable def PE (X : Cx) (e : Expr) (t : TE) : Prop :=
  ∀ (pins : List (Addr × Obj)) (s : Shared) (σ : St) (H : Hp) (Q : VK), Inv X pins σ H s → t σ H Q → wpAny (model X.prog X.w) X.A (eval e X.env) (EP X pins σ Q) X.xe s
noncomputable def PT (X : Cx) (e : Expr) (t : TT) : Prop :=
  ∀ (pins : List (Addr × Obj)) (s : Shared) (σ : St) (H : Hp) (Q : Bool → Hp → Prop), Inv X pins σ H s → t σ H Q → wpAny (model X.prog X.w) X.A (isTrue e X.env (eval e X.env)) (TP X pins σ Q) X.xe s
noncomputable def PW (X : Cx) (e : Expr) (t : TT) : Prop :=
  ∀ (whole : Sem Value) (pins : List (Addr × Obj)) (s : Shared) (σ : St) (H : Hp) (Q : Bool → Hp → Prop), Inv X pins σ H s → t σ H Q → wpAny (model X.prog X.w) X.A (isTrue e X.env whole) (TP X pins σ Q) X.xe s
theorem PW.pt {X : Cx} {e : Expr} {t : TT} (h : PW X e t) : PT X e t := h _
noncomputable def PA (X : Cx) (es : List Expr) (t : TA) : Prop :=
  ∀ (pos : Pos) (pins : List (Addr × Obj)) (s : Shared) (σ : St) (H : Hp) (Q : List V → Hp → Prop), Inv X pins σ H s → t σ H Q → wpAny (model X.prog X.w) X.A (spliced (backTo pos (starEach es X.env))) (AP X pins σ Q) X.xe s
noncomputable def PS (X : Cx) (st : Stmt) (t : TS) : Prop :=
  ∀ (pins : List (Addr × Obj)) (s : Shared) (σ : St) (H : Hp) (D : Ends), Inv X pins σ H s → t D σ H → wpAny (model X.prog X.w) X.A (exec st X.env) (SP X pins D) X.xe s
noncomputable def PSs (X : Cx) (st : List Stmt) (t : TS) : Prop :=
  ∀ (pins : List (Addr × Obj)) (s : Shared) (σ : St) (H : Hp) (D : Ends), Inv X pins σ H s → t D σ H → wpAny (model X.prog X.w) X.A (execs st X.env) (SP X pins D) X.xe s
theorem thn {α : Type} {t : Sem α} {Q Q' : α → Shared → Prop} {M : Model} {A : Around} {E : Value → Shared → Prop} {s : Shared} (h : wpAny M A t Q E s) (hQ : ∀ a s, Q a s → Q' a s) : wpAny M A t Q' E s := wpAny_mono h hQ fun _ _ x => x
end L2
namespace L2
open PySem PySem.Spec PyProof.Rows
section
variable {X : Cx}
noncomputable def tVar (i : Nat) : TE := fun σ H Q => ∃ v, σ[i]? = some (some v) ∧ Q v H
noncomputable def tC (v : V) : TE := fun _ H Q => Q v H
theorem pe_var {i : Nat} {x : Str} {pos : Pos} (hN : X.N[i]? = some x) (hv : Vis X.env.scope x) (hd : (x == ("__debug__" : Str)) = false := by decide) (hcd : (x == ("__classdict__" : Str)) = false := by decide) : PE X (.Name x pos) (tVar i) := by
  intro pins s σ H Q I h
  obtain ⟨v, e, h⟩ := h
  obtain ⟨m, hn, hl⟩ := I.loc
  obtain ⟨u, r, l⟩ := hl i x v hN e hv
  have fin : EP X pins σ Q u s := ⟨v, H, I, r, h⟩
  rcases l with ⟨hk, hm⟩ | ⟨hk, c, hc, hcell⟩
  · exact wpAny_Name (wpAny_loadName_local I.ok.kind hk hn hm fin) hd
  · rcases hk with hk | hk
    · exact wpAny_Name (wpAny_loadName_cell I.ok.kind hk hc hcell fin) hd
    · exact wpAny_Name (wpAny_loadName_free I.ok.kind hk hc hcell fin hcd) hd
theorem pe_int {i j pos} : PE X (.Constant (.int i) j pos) (tC (.int i)) := fun _ _ _ H _ I h => wpAny_Constant_int ⟨.int i, H, I.tok _, ⟨_, rfl⟩, h⟩
theorem pe_bl {b j pos} : PE X (.Constant (.bool b) j pos) (tC (.bl b)) := fun _ _ _ H _ I h => Constant_bool ⟨.bl b, H, I, rfl, h⟩
theorem pe_non {j pos} : PE X (.Constant .none j pos) (tC .non) := fun _ _ _ H _ I h => Constant_none ⟨.non, H, I, rfl, h⟩
theorem pe_str {x j pos} : PE X (.Constant (.str x) j pos) (tC (.str x)) := fun _ _ _ H _ I h => Calls.Constant_str ⟨.str x, H, I.tok _, ⟨_, rfl⟩, h⟩
noncomputable def Gl (X : Cx) (x : Str) : Prop := X.env.kindOf x = some .globalImplicit
theorem ld_glob {E : Value → Shared → Prop} {pins : List (Addr × Obj)} {s : Shared} {σ : St} {H : Hp} {x : Str} {u : Value} {pos : Pos} {Q : Value → Shared → Prop} (I : Inv X pins σ H s) (hg : Gl X x) (hm : X.mg x = some u) (h : Q u s)
    (hd : (x == ("__debug__" : Str)) = false := by decide) : wpAny (model X.prog X.w) X.A (eval (.Name x pos) X.env) Q E s :=
  Calls.Name_function_global I.ok.kind hg (Calls.loadGlobal_global (by rw [I.ok.glob]; exact I.mod.glob.keeps I.bk) hm h) hd
theorem ld_blt {E : Value → Shared → Prop} {pins : List (Addr × Obj)} {s : Shared} {σ : St} {H : Hp} {x : Str} {u : Value} {pos : Pos} {Q : Value → Shared → Prop} (I : Inv X pins σ H s) (hg : Gl X x) (hm : X.mg x = none) (hv : bootBuiltins x = some u) (h : Q u s)
    (hn : x ≠ "__name__" := by decide) (hd : (x == ("__debug__" : Str)) = false := by decide) : wpAny (model X.prog X.w) X.A (eval (.Name x pos) X.env) Q E s := by
  obtain ⟨mb, h1, h2⟩ := I.mod.blt
  exact Calls.Name_function_global I.ok.kind hg (Calls.loadGlobal_builtin (by rw [I.ok.glob]; exact I.mod.glob.keeps I.bk) hm (by rw [I.ok.blt]; exact h1.keeps I.bk) ((h2 x hn).trans hv) h) hd
theorem pe_glob {x : Str} {v : V} {u : Value} {pos : Pos} (hg : Gl X x) (hm : X.mg x = some u) (r : RelV v u) (hd : (x == ("__debug__" : Str)) = false := by decide) : PE X (.Name x pos) (tC v) :=
  fun _ _ _ H _ I h => ld_glob I hg hm ⟨v, H, I, r, h⟩ hd
theorem pe_bltn {x : Str} {v : V} {u : Value} {pos : Pos} (hg : Gl X x) (hm : X.mg x = none) (hv : bootBuiltins x = some u) (r : RelV v u) (hn : x ≠ "__name__" := by decide) (hd : (x == ("__debug__" : Str)) = false := by decide) : PE X (.Name x pos) (tC v) :=
  fun _ _ _ H _ I h => ld_blt I hg hm hv ⟨v, H, I, r, h⟩ hn hd
variable {a b : Expr} {ta tb : TE} {pos : Pos}
noncomputable def tB (t : TE) : TT := fun σ H Q => t σ H fun x H1 => ∃ c, x = .bl c ∧ Q c H1
theorem pt_val {e : Expr} {t : TE} (h : PE X e t) (he : ∀ whole, isTrue e X.env whole = (do let v ← whole; standAt e.pos; holding [v] (truthy v)) := by intro _; rfl) : PT X e (tB t) := by
  intro pins s σ H Q I hw
  refine isTrue_plain (thn (h pins s σ H _ I hw) fun v s1 ⟨x, H1, I1, r1, q1⟩ => ?_) (he _)
  obtain ⟨d, rfl, q⟩ := q1
  cases r1
  exact wpAny_truthy_bool ⟨H1, I1, q⟩
variable {tA tB' : TT} {rest : List Expr}
noncomputable def tAnd (t u : TT) : TT := fun σ H Q => t σ H fun c H1 => if c = true then u σ H1 Q else Q false H1
noncomputable def tOr (t u : TT) : TT := fun σ H Q => t σ H fun c H1 => if c = true then Q true H1 else u σ H1 Q
noncomputable def tNot (t : TT) : TT := fun σ H Q => t σ H fun c H1 => Q (!c) H1
theorem pw_and1 (ha : PT X a tA) : PW X (.BoolOp .And [a] pos) tA := by
  intro wh pins s σ H Q I h
  refine isTrue_and (thn (ha pins s σ H Q I h) fun c s1 e => ?_)
  cases c with
  | true => exact isTrue_and_nil e
  | false => exact e
theorem pw_or1 (ha : PT X a tA) : PW X (.BoolOp .Or [a] pos) tA := by
  intro wh pins s σ H Q I h
  refine isTrue_or (thn (ha pins s σ H Q I h) fun c s1 e => ?_)
  cases c with
  | false => exact isTrue_or_nil e
  | true => exact e
theorem pw_and (ha : PT X a tA) (hb : PW X (.BoolOp .And (b :: rest) pos) tB') : PW X (.BoolOp .And (a :: b :: rest) pos) (tAnd tA tB') := by
  intro wh pins s σ H Q I h
  refine isTrue_and (thn (ha pins s σ H _ I h) fun c s1 zz => ?_)
  obtain ⟨H1, I1, q1⟩ := zz
  cases c with
  | true => exact hb wh pins s1 σ H1 Q I1 q1
  | false => exact ⟨H1, I1, q1⟩
theorem pw_or (ha : PT X a tA) (hb : PW X (.BoolOp .Or (b :: rest) pos) tB') : PW X (.BoolOp .Or (a :: b :: rest) pos) (tOr tA tB') := by
  intro wh pins s σ H Q I h
  refine isTrue_or (thn (ha pins s σ H _ I h) fun c s1 zz => ?_)
  obtain ⟨H1, I1, q1⟩ := zz
  cases c with
  | true => exact ⟨H1, I1, q1⟩
  | false => exact hb wh pins s1 σ H1 Q I1 q1
theorem pt_not (ha : PT X a tA) : PT X (.UnaryOp .Not a pos) (tNot tA) := by
  intro pins s σ H Q I h
  exact isTrue_not (ha pins s σ H (fun c H1 => Q (!c) H1) I h)
noncomputable def tAndV (ta tb : TE) : TE := fun σ H Q => ta σ H fun x H1 => ∃ c, x = .bl c ∧ if c = true then tb σ H1 Q else Q (.bl false) H1
noncomputable def tOrV (ta tb : TE) : TE := fun σ H Q => ta σ H fun x H1 => ∃ c, x = .bl c ∧ if c = true then Q (.bl true) H1 else tb σ H1 Q
noncomputable def tNotV (ta : TE) : TE := fun σ H Q => ta σ H fun x H1 => ∃ c, x = .bl c ∧ Q (.bl (!c)) H1
theorem pe_one {op} {t : TE} (h : PE X a t) : PE X (.BoolOp op [a] pos) t := fun pins s σ H Q I hw => BoolOp_one (h pins s σ H Q I hw)
theorem pe_and (ha : PE X a ta) (hb : PE X (.BoolOp .And (b :: rest) pos) tb) : PE X (.BoolOp .And (a :: b :: rest) pos) (tAndV ta tb) := by
  intro pins s σ H Q I h
  refine BoolOp_and (thn (ha pins s σ H _ I h) fun v s1 zz => ?_)
  obtain ⟨x, H1, I1, r1, q1⟩ := zz
  obtain ⟨c, rfl, q1⟩ := q1
  cases r1
  refine wpAny_truthy_bool ?_
  cases c with
  | true => exact hb pins s1 σ H1 Q I1 q1
  | false => exact ⟨.bl false, H1, I1, rfl, q1⟩
theorem pe_or (ha : PE X a ta) (hb : PE X (.BoolOp .Or (b :: rest) pos) tb) : PE X (.BoolOp .Or (a :: b :: rest) pos) (tOrV ta tb) := by
  intro pins s σ H Q I h
  refine BoolOp_or (thn (ha pins s σ H _ I h) fun v s1 zz => ?_)
  obtain ⟨x, H1, I1, r1, q1⟩ := zz
  obtain ⟨c, rfl, q1⟩ := q1
  cases r1
  refine wpAny_truthy_bool ?_
  cases c with
  | false => exact hb pins s1 σ H1 Q I1 q1
  | true => exact ⟨.bl true, H1, I1, rfl, q1⟩
theorem pe_not (ha : PE X a ta) : PE X (.UnaryOp .Not a pos) (tNotV ta) := by
  intro pins s σ H Q I h
  refine UnaryOp_ (thn (ha pins s σ H _ I h) fun v s1 zz => ?_)
  obtain ⟨x, H1, I1, r1, q1⟩ := zz
  obtain ⟨c, rfl, q1⟩ := q1
  cases r1
  exact not_of (wpAny_truthy_bool ⟨.bl (!c), H1, I1, rfl, q1⟩)
noncomputable def tIf (t : TT) (ta tb : TE) : TE := fun σ H Q => t σ H fun c H1 => if c = true then ta σ H1 Q else tb σ H1 Q
theorem pe_ifExp {c : Expr} (hc : PT X c tA) (ha : PE X a ta) (hb : PE X b tb) : PE X (.IfExp c a b pos) (tIf tA ta tb) := by
  intro pins s σ H Q I h
  refine wpAny_IfExp (thn (hc pins s σ H _ I h) fun d s1 zz => ?_)
  obtain ⟨H1, I1, q1⟩ := zz
  cases d with
  | true => exact ha pins s1 σ H1 Q I1 q1
  | false => exact hb pins s1 σ H1 Q I1 q1
end
end L2
namespace L2
open PySem PySem.Spec PyProof.Rows
noncomputable def SqL (K : PySem.W.Frag) (H : Hp) (a : Addr) (xs : List V) : Prop :=
  Rd H a (.lst xs) ∨
    ∃ (o : Obj) (its : Array Value) (n : Nat), K.lookup a = some o ∧ o.cls = .type "list" ∧ o.dict = none ∧ o.data = .seq its n ∧ its.size ≤ sizeLine ∧ Vals xs its.toList
noncomputable def SqT (K : PySem.W.Frag) (H : Hp) (a : Addr) (xs : List V) : Prop :=
  Rd H a (.tup xs) ∨
    ∃ (o : Obj) (its : Array Value) (n : Nat), K.lookup a = some o ∧ o.cls = .type "tuple" ∧ o.data = .seq its n ∧ its.size ≤ sizeLine ∧ Vals xs its.toList
noncomputable def absV : Value → Option V
  | .none => some .non
  | .bool b => some (.bl b)
  | .int i _ => some (.int i)
  | .str x _ => some (.str x)
  | .bytes b _ => some (.byt b)
  | .float b _ => some (.flt b)
  | .ref a => some (.ref a)
  | .type n => some (.ty n)
  | _ => none
theorem RelV.abs {x : V} {u : Value} (r : RelV x u) : absV u = some x := by
  cases x with
  | non => cases r; rfl
  | bl _ => cases r; rfl
  | int _ => obtain ⟨t, rfl⟩ := r; rfl
  | str _ => obtain ⟨t, rfl⟩ := r; rfl
  | byt _ => obtain ⟨t, rfl⟩ := r; rfl
  | flt _ => obtain ⟨t, rfl⟩ := r; rfl
  | ref _ => cases r; rfl
  | ty _ => cases r; rfl
theorem RelV.inj {x y : V} {u : Value} (r : RelV x u) (q : RelV y u) : x = y := Option.some.inj (r.abs.symm.trans q.abs)
theorem Vals.inj : ∀ {xs ys : List V} {us : List Value}, Vals xs us → Vals ys us → xs = ys
  | _, _, _, .nil, .nil => rfl
  | _, _, _, .cons r t, .cons r' t' => by rw [r.inj r', Vals.inj t t']
section
variable {X : Cx} {pins : List (Addr × Obj)} {σ : St} {H : Hp} {s : Shared} {a : Addr} {xs ys : List V}
theorem SqL.of {K : PySem.W.Frag} (h : H a = some (.lst xs)) : SqL K H a xs := .inl (.inl h)
theorem SqT.of {K : PySem.W.Frag} (h : H a = some (.tup xs)) : SqT K H a xs := .inl (.inl h)
theorem Inv.list (I : Inv X pins σ H s) (h : SqL X.K H a xs) : ∃ its : List Value, Vals xs its ∧ PlainL s.heap a its.toArray ∧ xs.length ≤ sizeLine := by
  rcases h with h | ⟨o, its, n, hk, hc, hd, hs, hz, r⟩
  · obtain ⟨z, its, n, r, e⟩ := h.ok I.hok
    exact ⟨its, r, ⟨_, n, e, rfl, rfl, rfl⟩, z⟩
  · refine ⟨its.toList, r, ⟨o, n, I.kIn a o hk, hc, hd, by simpa using hs⟩, ?_⟩
    have e := r.length
    simp only [Array.length_toList] at e
    omega
theorem Inv.tuple (I : Inv X pins σ H s) (h : SqT X.K H a xs) : ∃ its : List Value, Vals xs its ∧ IsTup s.heap a its.toArray ∧ xs.length ≤ sizeLine := by
  rcases h with h | ⟨o, its, n, hk, hc, hs, hz, r⟩
  · obtain ⟨z, its, r, p⟩ := h.ok I.hok
    exact ⟨its, r, p, z⟩
  · refine ⟨its.toList, r, ⟨o, I.kIn a o hk, hc, n, by simpa using hs⟩, ?_⟩
    have e := r.length
    simp only [Array.length_toList] at e
    omega
theorem Inv.list_inj (I : Inv X pins σ H s) (h : SqL X.K H a xs) (h' : SqL X.K H a ys) : xs = ys := by
  obtain ⟨its, r, ⟨o, n, e, _, _, d⟩, _⟩ := I.list h
  obtain ⟨its', r', ⟨o', n', e', _, _, d'⟩, _⟩ := I.list h'
  rw [e] at e'; cases e'
  rw [d] at d'
  injection d' with d1 _
  have : its = its' := by simpa using congrArg Array.toList d1
  subst this
  exact r.inj r'
end
noncomputable abbrev Cx.wish (X : Cx) (E : Value → Shared → Prop) : Cx := { X with xe := E }
noncomputable abbrev Cx.nox (X : Cx) : Cx := X.wish fun _ _ => False
theorem Cx.Ok.wish {X : Cx} (ok : X.Ok) (E : Value → Shared → Prop) : (X.wish E).Ok :=
  ⟨ok.mod, ok.kind, ok.glob, ok.blt, ok.above, ok.inj, ok.has, ok.cab, ok.hd, ok.frames, ok.stk, ok.exf, ok.bs, ok.bsz, ok.noex, ok.exfs, ok.funs, ok.frf⟩
theorem Cx.Ok.unwish {X : Cx} {E : Value → Shared → Prop} (ok : (X.wish E).Ok) : X.Ok :=
  ⟨ok.mod, ok.kind, ok.glob, ok.blt, ok.above, ok.inj, ok.has, ok.cab, ok.hd, ok.frames, ok.stk, ok.exf, ok.bs, ok.bsz, ok.noex, ok.exfs, ok.funs, ok.frf⟩
section
variable {X : Cx} {pins : List (Addr × Obj)} {σ : St} {H : Hp} {s : Shared} {E : Value → Shared → Prop}
theorem Inv.wish (I : Inv X pins σ H s) (E : Value → Shared → Prop) : Inv (X.wish E) pins σ H s := ⟨I.ok.wish E, I.os, I.bare, I.base, I.loc, I.cell, I.free, I.freeC, I.pin, I.hok, I.len⟩
theorem Inv.unwish (I : Inv (X.wish E) pins σ H s) : Inv X pins σ H s := ⟨I.ok.unwish, I.os, I.bare, I.base, I.loc, I.cell, I.free, I.freeC, I.pin, I.hok, I.len⟩
theorem SP.unwish {D : Ends} {f : Flow} {s' : Shared} (h : SP (X.wish E) pins D f s') : SP X pins D f s' := by
  cases f with
  | next => obtain ⟨σ', H', I, q⟩ := h; exact ⟨σ', H', I.unwish, q⟩
  | brk => obtain ⟨σ', H', I, q⟩ := h; exact ⟨σ', H', I.unwish, q⟩
  | cont => obtain ⟨σ', H', I, q⟩ := h; exact ⟨σ', H', I.unwish, q⟩
  | ret u => obtain ⟨v, σ', H', I, r, q⟩ := h; exact ⟨v, σ', H', I.unwish, r, q⟩
theorem PSs.nox {st : List Stmt} {t : TS} (h : PSs X.nox st t) : PSs X st t := fun pins s σ H D I hw =>
  wpAny_mono (h pins s σ H D (I.wish _) hw) (fun _ _ q => q.unwish) fun _ _ z => False.elim z
end
section
variable {X : Cx} {st : Stmt} {rest : List Stmt} {t u : TS} {e : Expr} {te : TE} {pos : Pos}
noncomputable def tNext : TS := fun D σ H => D.nx σ H
noncomputable def tSeq (t u : TS) : TS := fun D σ H => t { D with nx := u D } σ H
theorem pss_nil : PSs X [] tNext := fun _ _ σ H _ I h => wpAny_execs_nil ⟨σ, H, I, h⟩
theorem pss_cons (h1 : PS X st t) (h2 : PSs X rest u) : PSs X (st :: rest) (tSeq t u) := by
  intro pins s σ H D I h
  refine wpAny_execs_cons (thn (h1 pins s σ H { D with nx := u D } I h) fun f s1 q => ?_)
  cases f with
  | next =>
    obtain ⟨σ', H', I', q⟩ := q
    exact h2 pins s1 σ' H' D I' q
  | ret v => exact q
  | brk => exact q
  | cont => exact q
theorem pss_one (h1 : PS X st t) : PSs X [st] t := by
  intro pins s σ H D I h
  refine wpAny_execs_cons (thn (h1 pins s σ H D I h) fun f s1 q => ?_)
  cases f with
  | next => exact wpAny_execs_nil q
  | ret v => exact q
  | brk => exact q
  | cont => exact q
noncomputable def tBreak : TS := fun D σ H => D.bk σ H
theorem ps_break : PS X (.Break pos) tBreak := fun _ _ σ H _ I h => wpAny_Break ⟨σ, H, I, h⟩
theorem Inv.quiet {pins : List (Addr × Obj)} {σ : St} {H : Hp} {s : Shared} (I : Inv X pins σ H s) : interactive X.env = false := by simp [interactive, I.ok.kind]
noncomputable def tDrop (te : TE) : TS := fun D σ H => te σ H fun _ H1 => D.nx σ H1
theorem ps_expr (he : PE X e te) (hs : swapsWith e none pos.line X.env = pure false := by rfl) : PS X (.Expr e pos) (tDrop te) := by
  intro pins s σ H D I h
  exact wpAny_Expr_any (thn (he pins s σ H _ I h) fun v s1 ⟨x, H1, I1, r1, q1⟩ => ⟨σ, H1, I1, q1⟩) I.quiet hs
noncomputable def tRet (te : TE) : TS := fun D σ H => te σ H D.rt
theorem ps_ret (he : PE X e te) : PS X (.Return (some e) pos) (tRet te) := by
  intro pins s σ H D I h
  exact wpAny_Return_some (thn (he pins s σ H _ I h) fun v s1 ⟨x, H1, I1, r1, q1⟩ => ⟨x, σ, H1, I1, r1, q1⟩)
noncomputable def tIfS (c : TT) (t u : TS) : TS := fun D σ H => c σ H fun b H1 => if b = true then t D σ H1 else u D σ H1
theorem ps_if {c : Expr} {a b : List Stmt} {tc : TT} (hc : PT X c tc) (ha : PSs X a t) (hb : PSs X b u) : PS X (.If c a b pos) (tIfS tc t u) := by
  intro pins s σ H D I h
  refine wpAny_If (thn (hc pins s σ H _ I h) fun d s1 zz => ?_)
  obtain ⟨H1, I1, q1⟩ := zz
  cases d with
  | true => exact ha pins s1 σ H1 D I1 q1
  | false => exact hb pins s1 σ H1 D I1 q1
noncomputable def tNever : TS := fun _ _ _ => False
theorem ps_never : PS X st tNever := fun _ _ _ _ _ _ h => h.elim
theorem pss_never {sts : List Stmt} : PSs X sts tNever := fun _ _ _ _ _ _ h => h.elim
end
noncomputable abbrev TG := V → St → Hp → (St → Hp → Prop) → Prop
noncomputable abbrev TGs := List V → St → Hp → (St → Hp → Prop) → Prop
noncomputable def PG (X : Cx) (target : Expr) (t : TG) : Prop :=
  ∀ (pins : List (Addr × Obj)) (s : Shared) (σ : St) (H : Hp) (v : V) (u : Value) (Q : St → Hp → Prop), Inv X pins σ H s → RelV v u → t v σ H Q →
    wpAny (model X.prog X.w) X.A (assign target X.env u) (fun _ s' => ∃ σ' H', Inv X pins σ' H' s' ∧ Q σ' H') X.xe s
noncomputable def PGs (X : Cx) (ts : List Expr) (t : TGs) : Prop :=
  ∀ (pins : List (Addr × Obj)) (s : Shared) (σ : St) (H : Hp) (vs : List V) (us : List Value) (Q : St → Hp → Prop), Inv X pins σ H s → Vals vs us → t vs σ H Q →
    wpAny (model X.prog X.w) X.A (assignInOrder ((assignEach ts X.env).map (·.2)) us) (fun _ s' => ∃ σ' H', Inv X pins σ' H' s' ∧ Q σ' H') X.xe s
noncomputable abbrev TSet := V → V → V → Hp → (Hp → Prop) → Prop
noncomputable def PSet (X : Cx) (t : TSet) : Prop :=
  ∀ (pins : List (Addr × Obj)) (s : Shared) (σ : St) (H : Hp) (o i v : V) (ov iv u : Value) (Q : Hp → Prop), Inv X pins σ H s → RelV o ov → RelV i iv → RelV v u → t o i v H Q →
    wpAny (model X.prog X.w) X.A (setItem ov iv u) (fun _ s' => ∃ H', Inv X pins σ H' s' ∧ Q H') X.xe s
noncomputable abbrev TIp := V → V → Hp → VK → Prop
noncomputable def PIp (X : Cx) (op : Operator) (t : TIp) : Prop :=
  ∀ (pins : List (Addr × Obj)) (s : Shared) (σ : St) (H : Hp) (x y : V) (v u : Value) (Q : VK), Inv X pins σ H s → RelV x v → RelV y u → t x y H Q →
    wpAny (model X.prog X.w) X.A (inplaceOp op v u) (EP X pins σ Q) X.xe s
section
variable {X : Cx} {pos : Pos}
noncomputable def gName (i : Nat) : TG := fun v σ H Q => Q (σ.set i (some v)) H
theorem pg_name {i : Nat} {x : Str} (hN : X.N.Nodup) (hi : X.N[i]? = some x) (hx : Loc X.env.scope x) (hf : X.fn x = true ∨ X.env.scope.names.lookup x = some .local := by first | exact .inl rfl | exact .inr rfl | assumption) : PG X (.Name x pos) (gName i) := by
  intro pins s σ H v u Q I r h
  exact wpAny_assign_Name (store_ok I hN hi hx r (fun s' I' => ⟨_, H, I', h⟩) hf)
noncomputable def gNil : TGs := fun vs σ H Q => vs = [] ∧ Q σ H
noncomputable def gCons (t : TG) (u : TGs) : TGs := fun vs σ H Q => ∃ v r, vs = v :: r ∧ t v σ H fun σ' H' => u r σ' H' Q
theorem pgs_nil : PGs X [] gNil := by
  intro pins s σ H vs us Q I r h
  obtain ⟨e, h⟩ := h
  subst e
  cases r
  exact assignInOrder_nil ⟨σ, H, I, h⟩
theorem pgs_cons {e : Expr} {es : List Expr} {t : TG} {u : TGs} (h1 : PG X e t) (h2 : PGs X es u)
    (hs : (assignEach (e :: es) X.env).map (·.2) = assign e X.env :: (assignEach es X.env).map (·.2) := by rfl) : PGs X (e :: es) (gCons t u) := by
  intro pins s σ H vs us Q I r h
  obtain ⟨v, vr, e1, h⟩ := h
  subst e1
  cases r with
  | cons r rr =>
    rw [hs]
    refine assignInOrder_cons (thn (h1 pins s σ H _ _ _ I r h) fun _ s1 zz => ?_)
    obtain ⟨σ1, H1, I1, q1⟩ := zz
    exact h2 pins s1 σ1 H1 _ _ Q I1 rr q1
noncomputable def gTup (K : PySem.W.Frag) (n : Nat) (t : TGs) : TG := fun v σ H Q => ∃ a xs, v = .ref a ∧ SqT K H a xs ∧ xs.length = n ∧ t xs σ H Q
theorem pg_tup {es : List Expr} {k : Nat} {t : TGs} {n : Nat} (hc : X.calm = true) (h : PGs X es t)
    (hn : (assignEach es X.env).length = n := by rfl) (hst : (assignEach es X.env).findIdx? (·.1) = none := by rfl) : PG X (.Tuple es k pos) (gTup X.K n t) := by
  intro pins s σ H v u Q I r hw
  obtain ⟨a, xs, e1, hq, hl, hw⟩ := hw
  subst e1
  cases r
  obtain ⟨its, rv, ht, hz⟩ := I.tuple hq
  refine assign_Tuple_tuple (I.ok.hd hc) ht (by simp [hn, ← hl, rv.length]) hst fun h' hx => ?_
  have I1 : Inv X pins σ H { s with heap := h' } := I.kept (t' := s.toks) fun b o e => hx b o (Nat.ne_of_lt (Heap.lt_size e)) e
  exact h pins _ σ H xs _ Q I1 (by simpa using rv) hw
noncomputable def gSub (to ti : TE) (t : TSet) : TG := fun v σ H Q => to σ H fun o H1 => ti σ H1 fun i H2 => t o i v H2 fun H3 => Q σ H3
theorem pg_sub {o i : Expr} {to ti : TE} {t : TSet} (ho : PE X o to) (hi : PE X i ti) (hs : PSet X t)
    (ha : ∀ v, assign (.Subscript o i pos) X.env v = (do
      let ov ← holding [v] (eval o X.env)
      let iv ← holding [v, ov] (eval i X.env)
      standAt pos
      holding [v, ov, iv] (setItem ov iv v)
      release [v, ov, iv] []) := by intro _; rfl) : PG X (.Subscript o i pos) (gSub to ti t) := by
  intro pins s σ H v u Q I r h
  rw [ha]
  refine wpAny_bind (wpAny_holding (thn (ho pins s σ H _ I h) fun ov s1 zz => ?_))
  obtain ⟨x, H1, I1, r1, q1⟩ := zz
  refine wpAny_bind (wpAny_holding (thn (hi pins s1 σ H1 _ I1 q1) fun iv s2 zz => ?_))
  obtain ⟨y, H2, I2, r2, q2⟩ := zz
  refine wpAny_bind (wpAny_standAt (wpAny_bind (wpAny_holding (thn (hs pins s2 σ H2 x y v ov iv u _ I2 r1 r2 r q2) fun _ s3 zz => ?_))))
  obtain ⟨H3, I3, q3⟩ := zz
  exact wpAny_release ⟨σ, H3, I3, q3⟩
noncomputable def tAsg (te : TE) (g : TG) : TS := fun D σ H => te σ H fun x H1 => g x σ H1 D.nx
theorem ps_asg {tg e : Expr} {te : TE} {g : TG} (he : PE X e te) (hg : PG X tg g) (hs : swapsWithSole [tg] e pos.line X.env = pure false := by rfl) (hw : swappedStores [tg] e X.env = pure none := by rfl)
    (h1 : (assignEach [tg] X.env).map (·.2) = [assign tg X.env] := by rfl) : PS X (.Assign [tg] e pos) (tAsg te g) := by
  intro pins s σ H D I h
  refine wpAny_Assign_stores (thn (he pins s σ H _ I h) fun v s1 ⟨x, H1, I1, r1, q1⟩ => ?_) hs hw
  rw [h1]
  exact thn (hg pins s1 σ H1 x v _ I1 r1 q1) fun _ s2 q => q
theorem ps_set {i : Nat} {x : Str} {e : Expr} {te : TE} {pos' : Pos} (hN : X.N.Nodup) (hi : X.N[i]? = some x) (hx : Loc X.env.scope x) (he : PE X e te) (hs : swapsWith e (some (.Name x pos')) pos.line X.env = pure false := by rfl) (hf : X.fn x = true ∨ X.env.scope.names.lookup x = some .local := by first | exact .inl rfl | exact .inr rfl | assumption) :
    PS X (.Assign [.Name x pos'] e pos) (tAsg te (gName i)) := by
  intro pins s σ H D I h
  refine wpAny_Assign_Name (thn (he pins s σ H _ I h) fun v s1 ⟨y, H1, I1, r1, q1⟩ => ?_) hs
  exact store_ok I1 hN hi hx r1 (fun s2 I2 => ⟨_, H1, I2, q1⟩) hf
noncomputable def tPar (i j : Nat) (ta : TA) : TS := fun D σ H => ta σ H fun vs H1 => ∃ v w, vs = [v, w] ∧ D.nx ((σ.set i (some v)).set j (some w)) H1
theorem ps_par {i j : Nat} {x y : Str} {a b : Expr} {ta : TA} {px py pt : Pos} {kt k2 pt2} (hc : X.calm = true) (hN : X.N.Nodup) (hi : X.N[i]? = some x) (hj : X.N[j]? = some y) (hij : i ≠ j)
    (hx : X.env.scope.names.lookup x = some .local) (hy : X.env.scope.names.lookup y = some .local) (ha : PA X [a, b] ta)
    (hw : swappedStores [.Tuple [.Name x px, .Name y py] kt pt] (.Tuple [a, b] k2 pt2) X.env = pure (some [x, y]))
    (hs : swapsWithSole [.Tuple [.Name x px, .Name y py] kt pt] (.Tuple [a, b] k2 pt2) pos.line X.env = pure false := by rfl) :
    PS X (.Assign [.Tuple [.Name x px, .Name y py] kt pt] (.Tuple [a, b] k2 pt2) pos) (tPar i j ta) := by
  intro pins s σ H D I h
  rw [exec_Assign_arm]
  refine wpAny_bind (wpAny_standAt ?_)
  rw [hs]
  refine wpAny_bind (wpAny_pure ?_)
  rw [if_neg (by decide)]
  refine wpAny_bind (Tuple_ (thn (ha _ pins s σ H _ I h) fun us s1 zz => ?_))
  obtain ⟨vs, H1, I1, r1, q1⟩ := zz
  obtain ⟨v, w, e1, q1⟩ := q1
  subst e1
  obtain ⟨u1, u2, rfl, rv, rw'⟩ : ∃ u1 u2, us = [u1, u2] ∧ RelV v u1 ∧ RelV w u2 := by
    cases r1 with
    | cons p q =>
      cases q with
      | cons p' q' =>
        cases q'
        exact ⟨_, _, rfl, p, p'⟩
  refine wpAny_newObj_type ?_ (by show 2 ≤ sizeLine; decide)
  have I2 : Inv X pins σ H1 { s1 with heap := s1.heap.push { cls := .type "tuple", data := .seq [u1, u2].toArray } } := I1.kept (t' := s1.toks) fun b o e => Heap.get?_push_of_some _ e
  rw [hw]
  refine wpAny_bind (wpAny_pure ?_)
  show wpAny (model X.prog X.w) X.A (do rule "assign.swapped-stores"; let items ← unpackItems (.ref s1.heap.objs.size) 2 none; assignInOrder [fun v => bindName X.env y v, fun v => bindName X.env x v] items.reverse; pure Flow.next) _ _ _
  refine wpAny_bind (wpAny_rule (wpAny_bind (unpackItems_tuple (items := #[u1, u2]) (I.ok.hd hc) (IsTup.new s1.heap _) fun h' hx' => ?_)))
  have I3 := I2.kept (h' := h') (t' := s1.toks) fun b o e => hx' b o (Nat.ne_of_lt (Heap.lt_size e)) e
  show wpAny _ _ (assignInOrder [fun v => bindName X.env y v, fun v => bindName X.env x v] [u2, u1] >>= fun _ => pure Flow.next) _ _ _
  refine wpAny_bind (assignInOrder_cons (wpAny_bindName (store_ok I3 hN hj (.inl hy) rw' (fun s2 I4 => ?_) (.inr hy))))
  refine assignInOrder_cons (wpAny_bindName (store_ok I4 hN hi (.inl hx) rv (fun s3 I5 => assignInOrder_nil (wpAny_pure ?_)) (.inr hx)))
  rw [List.set_comm _ _ (Ne.symm hij)] at I5
  exact ⟨_, H1, I5, q1⟩
noncomputable def tAug (i : Nat) (te : TE) (ti : TIp) : TS := fun D σ H => ∃ x, σ[i]? = some (some x) ∧ te σ H fun y H1 => ti x y H1 fun z H2 => D.nx (σ.set i (some z)) H2
theorem ps_aug {i : Nat} {x : Str} {e : Expr} {te : TE} {op : Operator} {ti : TIp} {pos' : Pos} (hN : X.N.Nodup) (hi : X.N[i]? = some x) (hx : Loc X.env.scope x) (he : PE X e te) (ho : PIp X op ti) (hf : X.fn x = true ∨ X.env.scope.names.lookup x = some .local := by first | exact .inl rfl | exact .inr rfl | assumption) :
    PS X (.AugAssign (.Name x pos') op e pos) (tAug i te ti) := by
  intro pins s σ H D I h
  obtain ⟨v, e1, h⟩ := h
  obtain ⟨m, hn, hl⟩ := I.loc
  have vis : Vis X.env.scope x := by rcases hx with k | k; exact .inl k; exact .inr (.inl k)
  obtain ⟨u, r, l⟩ := hl i x v hi e1 vis
  refine wpAny_AugAssign_Name ?_
  have go : wpAny (model X.prog X.w) X.A (eval e X.env) (fun w s₂ => wpAny (model X.prog X.w) X.A (inplaceOp op u w) (fun r s₃ => wpAny (model X.prog X.w) X.A (storeName X.env x r) (fun _ => SP X pins D .next) X.xe s₃) X.xe s₂) X.xe s := by
    refine thn (he pins s σ H _ I h) fun w s1 zz => ?_
    obtain ⟨y, H1, I1, r1, q1⟩ := zz
    refine thn (ho pins s1 σ H1 v y u w _ I1 r r1 q1) fun z s2 zz => ?_
    obtain ⟨zv, H2, I2, r2, q2⟩ := zz
    exact store_ok I2 hN hi hx r2 (fun s3 I3 => ⟨_, H2, I3, q2⟩) hf
  rcases l with ⟨hk, hm⟩ | ⟨hk, c, hc, hcell⟩
  · exact wpAny_loadName_local I.ok.kind hk hn hm go
  · rcases hk with hk | hk
    · exact wpAny_loadName_cell I.ok.kind hk hc hcell go
    · rcases hx with k | k
      · have : X.env.scope.names.lookup x = some .free := hk
        rw [k] at this; cases this
      · have : X.env.scope.names.lookup x = some .free := hk
        rw [k] at this; cases this
noncomputable def ipI (f : Int → Int → Int) : TIp := fun x y H Q => ∃ i j, x = .int i ∧ y = .int j ∧ Q (.int (f i j)) H
theorem ip_add : PIp X .Add (ipI fun i j => i + j) := by
  intro pins s σ H x y v u Q I r1 r2 h
  obtain ⟨i, j, e1, e2, q⟩ := h
  subst e1; subst e2
  obtain ⟨t, rfl⟩ := r1
  obtain ⟨t', rfl⟩ := r2
  exact iadd_int ⟨.int _, H, I.tok _, ⟨_, rfl⟩, q⟩
theorem ip_sub : PIp X .Sub (ipI fun i j => i - j) := by
  intro pins s σ H x y v u Q I r1 r2 h
  obtain ⟨i, j, e1, e2, q⟩ := h
  subst e1; subst e2
  obtain ⟨t, rfl⟩ := r1
  obtain ⟨t', rfl⟩ := r2
  exact isub_int ⟨.int _, H, I.tok _, ⟨_, rfl⟩, q⟩
end
section
variable {X : Cx} {pos : Pos}
noncomputable def tWhile (c : TT) (tb : TS) : TS := fun D σ H => ∃ W : Nat → St → Hp → Prop, (∃ m, W m σ H) ∧ ∀ m σ H, W m σ H →
  c σ H fun b H1 => if b = true then ∃ N : St → Hp → Prop, (∀ σ' H', N σ' H' → ∃ m', m' < m ∧ W m' σ' H') ∧ tb { D with nx := N, ct := N, bk := D.nx } σ H1 else D.nx σ H1
theorem ps_while {c : Expr} {body : List Stmt} {tc : TT} {tb : TS} (hp : PassesOwn (model X.prog X.w) X.A X.env X.xe) (hc : PT X c tc) (hb : PSs X body tb) : PS X (.While c body [] pos) (tWhile tc tb) := by
  intro pins s σ H D I h
  obtain ⟨W, ⟨m0, w0⟩, turn⟩ := h
  refine wpAny_While (codeAny_whileLoop (fun n s' => ∃ σ' H', Inv X pins σ' H' s' ∧ W n σ' H') ?_ m0 ⟨σ, H, I, w0⟩)
  rintro n s1 ⟨σ1, H1, I1, w1⟩
  refine wpAny_passesOwn hp (thn (hc pins s1 σ1 H1 _ I1 (turn n σ1 H1 w1)) fun b s2 zz => ?_)
  obtain ⟨H2, I2, q2⟩ := zz
  cases b with
  | true =>
    obtain ⟨N, hN, q2⟩ := q2
    rw [if_pos rfl]
    refine wpAny_passesOwn hp (thn (hb pins s2 σ1 H2 _ I2 q2) fun f s3 q3 => ?_)
    cases f with
    | next =>
      obtain ⟨σ3, H3, I3, n3⟩ := q3
      obtain ⟨m', hm, w3⟩ := hN σ3 H3 n3
      exact ⟨m', hm, σ3, H3, I3, w3⟩
    | cont =>
      obtain ⟨σ3, H3, I3, n3⟩ := q3
      obtain ⟨m', hm, w3⟩ := hN σ3 H3 n3
      exact ⟨m', hm, σ3, H3, I3, w3⟩
    | brk => exact q3
    | ret v => exact q3
  | false =>
    rw [if_neg Bool.false_ne_true]
    exact wpAny_execs_nil ⟨σ1, H2, I2, q2⟩
end
structure It where
  go : Nat → Hp → Prop
  yld : Nat → Hp → V → Hp → Prop
  stop : Nat → Hp → Prop
noncomputable def FpOk (X : Cx) (pins : List (Addr × Obj)) (H : Hp) (b : Addr) : Prop :=
  H b = none ∧ b ≠ X.env.locals ∧ b ∉ X.fs ∧ (b ∈ X.ex ∨ X.s₀.heap.objs.size ≤ b) ∧ (∀ x c, X.env.cells.lookup x = some c → c ≠ b) ∧ ∀ p ∈ X.pn ++ pins, p.1 ≠ b
theorem Inv.fpOk {X : Cx} {pins : List (Addr × Obj)} {σ : St} {H H' : Hp} {s : Shared} {b : Addr} (I : Inv X pins σ H s) (hb : s.heap.objs.size ≤ b) (hn : H' b = none) : FpOk X pins H' b := by
  refine ⟨hn, Nat.ne_of_gt (Nat.lt_of_lt_of_le I.lt hb), I.nofs hb, .inr (Nat.le_trans I.sz hb), fun x c e z => ?_, fun p hp z => ?_⟩
  · obtain ⟨v, q⟩ := I.cell x c e
    exact absurd (Nat.lt_of_lt_of_le q.lt (by rw [z]; exact hb)) (Nat.lt_irrefl _)
  · exact absurd (Nat.lt_of_lt_of_le (Heap.lt_size (I.pin p hp).1) (by rw [z]; exact hb)) (Nat.lt_irrefl _)
structure Turn (P : Program) (w : World) (K : PySem.W.Frag) (tg : Expr) (J : It) (fp : List Addr) (it : Addr) (tn : Nat → Heap → Prop) : Prop where
  mem : it ∈ fp
  obj : ∀ i h, tn i h → ∀ b ∈ fp, ∃ o, h.get? b = some o ∧ ∀ v, o.data ≠ .cell v
  keep : ∀ i h h', tn i h → (∀ b ∈ fp, ∀ o, h.get? b = some o → h'.get? b = some o) → tn i h'
  item : ∀ (X : Cx), X.prog = P → X.w = w → X.K = K → X.calm = true → ∀ (i : Nat) (pins : List (Addr × Obj)) (s : Shared) (σ : St) (H : Hp) (E : Value → Shared → Prop), Inv X pins σ H s → (∀ b ∈ fp, FpOk X pins H b) → tn i s.heap → J.go i H →
    wpAny (model P w) X.A (pyNext (.ref it)) (fun r s1 => ∃ u, r = some u ∧
      wpAny (model P w) X.A (letOwnedTupleGo tg (.ref it) u) (fun _ s2 => ∃ x H', Inv X pins σ H' s2 ∧ RelV x u ∧ J.yld i H x H' ∧ tn (i + 1) s2.heap ∧ ∀ b ∈ fp, H' b = none) E s1) E s
  done : ∀ (X : Cx), X.prog = P → X.w = w → X.K = K → X.calm = true → ∀ (i : Nat) (pins : List (Addr × Obj)) (s : Shared) (σ : St) (H : Hp) (E : Value → Shared → Prop), Inv X pins σ H s → (∀ b ∈ fp, FpOk X pins H b) → tn i s.heap → J.stop i H →
    wpAny (model P w) X.A (pyNext (.ref it)) (fun r s1 => r = none ∧ Inv X pins σ H s1) E s
  self : ∀ (A : Around) (i : Nat) (s : Shared) (Q : Value → Shared → Prop) (E : Value → Shared → Prop), tn i s.heap → Q (.ref it) s → wpAny (model P w) A (pyIter (.ref it)) Q E s
noncomputable abbrev TI := St → Hp → (It → Hp → Prop) → Prop
noncomputable def PIE (X : Cx) (pins : List (Addr × Obj)) (σ : St) (tg : Expr) (R : It → Hp → Prop) (itv : Value) (s2 : Shared) : Prop :=
  ∃ (it : Addr) (fp : List Addr) (tn : Nat → Heap → Prop) (J : It) (H' : Hp), itv = .ref it ∧ Inv X pins σ H' s2 ∧ Turn X.prog X.w X.K tg J fp it tn ∧ tn 0 s2.heap ∧ (∀ b ∈ fp, FpOk X pins H' b) ∧ R J H'
noncomputable def PI (X : Cx) (tg iter : Expr) (wi : TI) : Prop :=
  ∀ (pins : List (Addr × Obj)) (s : Shared) (σ : St) (H : Hp) (R : It → Hp → Prop), Inv X pins σ H s → wi σ H R →
    wpAny (model X.prog X.w) X.A (eval iter X.env) (fun v s1 => wpAny (model X.prog X.w) X.A (pyIter v) (PIE X pins σ tg R) X.xe s1) X.xe s
theorem go_of {M : Model} {A : Around} {E : Value → Shared → Prop} {s : Shared} {tg : Expr} {it : Addr} {u : Value} {o : Obj} {n : String} {vs : Array Value} {Q : Unit → Shared → Prop} (ho : s.heap.get? it = some o) (hc : o.cls = .type n) (hd : o.data = .fields vs)
    (hn : ["enumerate", "zip", "dict_itemiterator", "dict_reverseitemiterator", "odict_iterator", "itertools.zip_longest", "itertools.pairwise"].contains n = false) (hQ : Q () s) : wpAny M A (letOwnedTupleGo tg (.ref it) u) Q E s := by
  unfold letOwnedTupleGo
  cases tg <;> first
    | exact wpAny_pure hQ
    | (cases u <;> first
        | exact wpAny_pure hQ
        | (refine wpAny_bind (wpAny_load ho ?_)
           rw [hc, hd]
           show wpAny M A (if (["enumerate", "zip", "dict_itemiterator", "dict_reverseitemiterator", "odict_iterator", "itertools.zip_longest", "itertools.pairwise"].contains n && vs[0]? == some (rawInt _)) = true then _ else _) Q E s
           rw [if_neg (by intro h; rw [hn, Bool.false_and] at h; cases h)]
           exact wpAny_pure hQ))
noncomputable def Itl (K : PySem.W.Frag) (a : Addr) : It :=
  ⟨fun i H => ∃ xs x, SqL K H a xs ∧ xs[i]? = some x, fun i H x H' => H' = H ∧ ∀ xs, SqL K H a xs → xs[i]? = some x, fun i H => ∃ xs, SqL K H a xs ∧ xs.length ≤ i⟩
noncomputable def Itr (lo : Int) (n : Nat) : It := ⟨fun i _ => i < n, fun i H x H' => H' = H ∧ x = .int (lo + i), fun i _ => n ≤ i⟩
theorem turn_list {P : Program} {w : World} {K : PySem.W.Frag} {tg : Expr} (a it : Addr) : Turn P w K tg (Itl K a) [it] it (fun i h => h.IsListIter it a i) where
  mem := by simp
  obj := fun i h st b hb => by
    have e : b = it := by simpa using hb
    subst e
    obtain ⟨o, e, c, d⟩ := st
    exact ⟨o, e, fun v z => by rw [d] at z; cases z⟩
  keep := fun i h h' st k => st.at fun o e => k it (by simp) o e
  item := by
    intro X hP hw hK hc i pins s σ H E I hf st hg
    subst hP hw hK
    obtain ⟨xs, x, hq, hx⟩ := hg
    obtain ⟨its, rv, p, hz⟩ := I.list hq
    obtain ⟨u, hu, ru⟩ := rv.get hx
    obtain ⟨f0, f1, f2, f3, f4, f5⟩ := hf it (by simp)
    refine wpAny_pyNext_list_item st p.isList (x := u) (by simpa using hu) fun h' st' sb => ?_
    have I1 : Inv X pins σ H { s with heap := h' } := I.turned (t' := s.toks) (fun b o hb e => (sb.2 b hb).trans e) f0 f1 f3 f4 f5
    obtain ⟨o, e, c, d⟩ := id st'
    exact ⟨u, rfl, go_of (s := { s with heap := h' }) e c d (by decide) ⟨x, H, I1, ru, ⟨rfl, fun ys hy => by rw [I.list_inj hy hq]; exact hx⟩, st', fun b hb => (hf b hb).1⟩⟩
  done := by
    intro X hP hw hK hc i pins s σ H E I hf st hg
    subst hP hw hK
    obtain ⟨xs, hq, hx⟩ := hg
    obtain ⟨its, rv, p, hz⟩ := I.list hq
    obtain ⟨f0, f1, f2, f3, f4, f5⟩ := hf it (by simp)
    have hl := rv.length
    exact wpAny_pyNext_list_end (I.ok.hd hc) st p.isList (by simp; omega) fun h' eb => ⟨rfl, I.turned (t' := s.toks) (fun b o hb e => eb b o hb e) f0 f1 f3 f4 f5⟩
  self := fun _ _ _ _ _ st h => wpAny_pyIter_listiter st h
theorem turn_range {P : Program} {w : World} {K : PySem.W.Frag} {tg : Expr} (it : Addr) (lo : Int) (n : Nat) : Turn P w K tg (Itr lo n) [it] it (fun i h => IsRangeIter h it (lo + (i : Nat) * 1) ((n : Int) - (i : Nat)) 1) where
  mem := by simp
  obj := fun i h st b hb => by
    have e : b = it := by simpa using hb
    subst e
    exact ⟨_, st, fun v z => by
      have z' : Data.fields _ = Data.cell v := z
      cases z'⟩
  keep := fun i h h' st k => k it (by simp) _ st
  item := by
    intro X hP hw hK hc i pins s σ H E I hf st hg
    subst hP hw hK
    obtain ⟨f0, f1, f2, f3, f4, f5⟩ := hf it (by simp)
    have W := Walks.range (prog := X.prog) (w := X.w) (I.ok.hd hc) it lo 1 n
    refine W.item i s _ _ hg st fun v h' tk hv st' kk => ?_
    obtain ⟨t, rfl⟩ := hv
    have I1 : Inv X pins σ H { s with heap := h', toks := tk } := I.turned (fun b o hb e => kk b o (by simpa using hb) e) f0 f1 f3 f4 f5
    refine ⟨_, rfl, go_of (s := { s with heap := h', toks := tk }) (n := "range_iterator") st' rfl rfl (by decide) ⟨.int (lo + i), H, I1, ⟨t, ?_⟩, ⟨rfl, rfl⟩, st', fun b hb => (hf b hb).1⟩⟩
    rw [Int.mul_one]
  done := by
    intro X hP hw hK hc i pins s σ H E I hf st hg
    subst hP hw hK
    obtain ⟨f0, f1, f2, f3, f4, f5⟩ := hf it (by simp)
    exact wpAny_pyNext_range_end (I.ok.hd hc) st (by have : n ≤ i := hg; omega) fun h' eb => ⟨rfl, I.turned (t' := s.toks) (fun b o hb e => eb b o hb e) f0 f1 f3 f4 f5⟩
  self := fun _ _ _ _ _ st h => wpAny_pyIter_rangeiter st h
end L2
namespace L2
open PySem PySem.Spec PyProof.Rows
section
variable {X : Cx} {tg : Expr}
noncomputable def iList (K : PySem.W.Frag) (tl : TE) : TI := fun σ H R => tl σ H fun x H1 => ∃ a, x = .ref a ∧ (∃ xs, SqL K H1 a xs) ∧ R (Itl K a) H1
theorem pi_list {l : Expr} {tl : TE} (hl : PE X l tl) : PI X tg l (iList X.K tl) := by
  intro pins s σ H R I h
  refine thn (hl pins s σ H _ I h) fun v s1 zz => ?_
  obtain ⟨x, H1, I1, r1, q1⟩ := zz
  obtain ⟨a, e, ⟨xs, hq⟩, q⟩ := q1
  subst e
  cases r1
  obtain ⟨its, rv, p, hz⟩ := I1.list hq
  refine wpAny_pyIter_list p.isList ?_
  refine ⟨s1.heap.objs.size, [s1.heap.objs.size], _, _, H1, rfl, I1.kept (t' := s1.toks) fun b o e => Heap.get?_push_of_some _ e, turn_list a _, ⟨_, Heap.get?_push_size _ rfl, rfl, rfl⟩, fun b hb => ?_, q⟩
  have e : b = s1.heap.objs.size := by simpa using hb
  subst e
  exact I1.fpOk (Nat.le_refl _) (I1.hok.fresh (Nat.le_refl _))
theorem range_it {pins : List (Addr × Obj)} {σ : St} {H : Hp} {s : Shared} {R : It → Hp → Prop} {E : Value → Shared → Prop} {lo hi : Int} {t u v : Tok} {tk : Nat} (I : Inv X pins σ H s) (h1 : -(2 ^ 62) ≤ lo) (h2 : lo < 2 ^ 62) (h3 : -(2 ^ 62) ≤ hi) (h4 : hi < 2 ^ 62)
    (q : R (Itr lo (hi - lo).toNat) H) : wpAny (model X.prog X.w) X.A (pyIter (.ref s.heap.objs.size)) (PIE X pins σ tg R) E { s with heap := s.heap.push { cls := .type "range", data := .fields #[.int lo t, .int hi u, .int 1 v] }, toks := tk } := by
  refine wpAny_pyIter_range (IsRange.new ..) (small_one h1 h2 h3 h4) ?_
  have I1 : Inv X pins σ H { s with heap := s.heap.push { cls := .type "range", data := .fields #[.int lo t, .int hi u, .int 1 v] }, toks := tk } := I.kept fun b o e => Heap.get?_push_of_some _ e
  refine ⟨(s.heap.push { cls := .type "range", data := .fields #[.int lo t, .int hi u, .int 1 v] }).objs.size, [(s.heap.push { cls := .type "range", data := .fields #[.int lo t, .int hi u, .int 1 v] }).objs.size], _, _, H, rfl,
    I1.kept (t' := tk) fun b o e => Heap.get?_push_of_some _ e, turn_range _ lo (hi - lo).toNat, ?_, fun b hb => ?_, q⟩
  · have e1 : lo + ((0 : Nat) : Int) * 1 = lo := by simp
    have e2 : (((hi - lo).toNat : Nat) : Int) - ((0 : Nat) : Int) = Builtin.Range.rangeSize lo hi 1 := by rw [rangeSize_one]; split <;> omega
    show IsRangeIter _ _ (lo + ((0 : Nat) : Int) * 1) ((((hi - lo).toNat : Nat) : Int) - ((0 : Nat) : Int)) 1
    rw [e1, e2]
    exact Heap.get?_push_size _ rfl
  · have e : b = (s.heap.push { cls := .type "range", data := .fields #[.int lo t, .int hi u, .int 1 v] }).objs.size := by simpa using hb
    subst e
    exact I1.fpOk (Nat.le_refl _) (I1.hok.fresh (Nat.le_refl _))
noncomputable def iRng1 (ta : TA) : TI := fun σ H R => ta σ H fun vs H1 => ∃ j : Int, vs = [.int j] ∧ -(2 ^ 62) ≤ j ∧ j < 2 ^ 62 ∧ R (Itr 0 j.toNat) H1
noncomputable def iRng2 (ta : TA) : TI := fun σ H R => ta σ H fun vs H1 => ∃ i j : Int, vs = [.int i, .int j] ∧ (-(2 ^ 62) ≤ i ∧ i < 2 ^ 62 ∧ -(2 ^ 62) ≤ j ∧ j < 2 ^ 62) ∧ R (Itr i (j - i).toNat) H1
theorem pi_range1 {a : Expr} {ta : TA} {p pos : Pos} (hg : Gl X "range") (hm : X.mg "range" = none) (ha : PA X [a] ta) (hs : starEach [a] X.env = [(false, eval a X.env)] := by rfl) : PI X tg (.Call (.Name "range" p) [a] [] pos) (iRng1 ta) := by
  intro pins s σ H R I h
  refine Call_ (ld_blt I hg hm boot_range (PyProof.Rows.callWith_type1 (thn (ha pos pins s σ H _ I h) fun us s1 ⟨vs, H1, I1, r1, q1⟩ => ?_) hs rfl))
  obtain ⟨j, e, q1, q2, q⟩ := q1
  subst e
  cases r1 with
  | cons r rr =>
    cases rr
    obtain ⟨t, rfl⟩ := r
    exact call_range_1 (range_it I1 (by omega) (by omega) q1 q2 (by simpa using q))
theorem pi_range2 {a b : Expr} {ta : TA} {p pos : Pos} (hg : Gl X "range") (hm : X.mg "range" = none) (ha : PA X [a, b] ta) (hs : starEach [a, b] X.env = [(false, eval a X.env), (false, eval b X.env)] := by rfl) (hs2 : starEach [b] X.env = [(false, eval b X.env)] := by rfl) :
    PI X tg (.Call (.Name "range" p) [a, b] [] pos) (iRng2 ta) := by
  intro pins s σ H R I h
  refine Call_ (ld_blt I hg hm boot_range (PyProof.Rows.callWith_type1 (thn (ha pos pins s σ H _ I h) fun us s1 ⟨vs, H1, I1, r1, q1⟩ => ?_) (by rw [hs, hs2]) (by rw [hs2]; rfl)))
  obtain ⟨i, j, e, ⟨q1, q2, q3, q4⟩, q⟩ := q1
  subst e
  cases r1 with
  | cons r rr =>
    cases rr with
    | cons r' rr =>
      cases rr
      obtain ⟨t, rfl⟩ := r
      obtain ⟨t', rfl⟩ := r'
      exact call_range_2 (range_it I1 q1 q2 q3 q4 q)
noncomputable def tFor (wi : TI) (g : TG) (tb : TS) : TS := fun D σ H => wi σ H fun J H1 => ∃ W : Nat → Nat → St → Hp → Prop, (∃ m, W 0 m σ H1) ∧ ∀ i m σ H, W i m σ H →
  (J.stop i H ∧ D.nx σ H) ∨ (J.go i H ∧ ∃ N : St → Hp → Prop, (∀ σ' H', N σ' H' → ∃ m', m' < m ∧ W (i + 1) m' σ' H') ∧ ∀ x H', J.yld i H x H' → g x σ H' fun σ2 H2 => tb { D with nx := N, ct := N, bk := D.nx } σ2 H2)
noncomputable def pinsAt (fp : List Addr) (h : Heap) : List (Addr × Obj) := fp.filterMap fun b => (h.get? b).map fun o => (b, o)
theorem mem_pinsAt {fp : List Addr} {h : Heap} {b : Addr} {o : Obj} (hb : b ∈ fp) (e : h.get? b = some o) : (b, o) ∈ pinsAt fp h := List.mem_filterMap.mpr ⟨b, hb, by rw [e]; rfl⟩
theorem of_pinsAt {fp : List Addr} {h : Heap} {p : Addr × Obj} (hp : p ∈ pinsAt fp h) : p.1 ∈ fp ∧ h.get? p.1 = some p.2 := by
  obtain ⟨b, hb, e⟩ := List.mem_filterMap.mp hp
  cases q : h.get? b with
  | none => rw [q] at e; cases e
  | some o =>
    rw [q] at e
    have e' : (b, o) = p := Option.some.inj e
    subst e'
    exact ⟨hb, q⟩
theorem Inv.pinned {pins : List (Addr × Obj)} {σ : St} {H : Hp} {s : Shared} {fp : List Addr} (I : Inv X pins σ H s) (hf : ∀ b ∈ fp, FpOk X pins H b) (ho : ∀ b ∈ fp, ∃ o, s.heap.get? b = some o ∧ ∀ v, o.data ≠ .cell v) : Inv X (pins ++ pinsAt fp s.heap) σ H s :=
  I.pins_of fun p hp => (List.mem_append.mp hp).elim (fun z => I.pin p (List.mem_append_right _ z)) fun z => by
    obtain ⟨hb, e⟩ := of_pinsAt z
    obtain ⟨f0, f1, f2, _⟩ := hf p.1 hb
    obtain ⟨o, e', d⟩ := ho p.1 hb
    rw [e] at e'; cases e'
    exact ⟨e, f0, f1, f2, d⟩
theorem Inv.unpinned {pins pl : List (Addr × Obj)} {σ : St} {H : Hp} {s : Shared} (I : Inv X (pins ++ pl) σ H s) : Inv X pins σ H s := I.pins_of fun p hp => I.pin p (List.mem_append_right _ (List.mem_append_left _ hp))
theorem ps_for {iter : Expr} {body : List Stmt} {wi : TI} {g : TG} {tb : TS} {pos : Pos} (hp : PassesOwn (model X.prog X.w) X.A X.env X.xe) (hc : X.calm = true) (hi : PI X tg iter wi) (hg : PG X tg g) (hb : PSs X body tb)
    (hs : ∀ x, foldedSetIterable iter X.env x = pure x := by intro _; rfl) : PS X (.For tg iter body [] pos) (tFor wi g tb) := by
  intro pins s σ H D I h
  refine wpAny_For (thn (hi pins s σ H _ I h) fun v s1 h1 => thn h1 fun itv s2 h2 => ?_) hs
  obtain ⟨it, fp, tn, J, H2, e, I2, T, st2, f2, W, ⟨m0, w0⟩, turn⟩ := h2
  subst e
  have stat : ∀ {H' : Hp}, (∀ b ∈ fp, H' b = none) → ∀ b ∈ fp, FpOk X pins H' b := fun hn b hb => ⟨hn b hb, (f2 b hb).2⟩
  refine codeAny_forLoop_any (fun n s' => ∃ i σ' H', Inv X pins σ' H' s' ∧ tn i s'.heap ∧ (∀ b ∈ fp, H' b = none) ∧ W i n σ' H') ?_ m0 ⟨0, σ, H2, I2, st2, fun b hb => (f2 b hb).1, w0⟩
  rintro n s3 ⟨i, σ3, H3, I3, st3, fr3, w3⟩
  rcases turn i n σ3 H3 w3 with ⟨stop, qn⟩ | ⟨go, N, hN, step⟩
  · refine wpAny_passesOwn hp (thn (T.done X rfl rfl rfl hc i pins s3 σ3 H3 X.xe I3 (stat fr3) st3 stop) fun r s4 zz => ?_)
    obtain ⟨hr, I4⟩ := zz
    subst hr
    exact wpAny_execs_nil ⟨σ3, H3, I4, qn⟩
  · refine wpAny_passesOwn hp (thn (T.item X rfl rfl rfl hc i pins s3 σ3 H3 X.xe I3 (stat fr3) st3 go) fun r s4 zz => ?_)
    obtain ⟨u, hr, h4⟩ := zz
    subst hr
    refine wpAny_passesOwn hp (thn h4 fun _ s5 zz => ?_)
    obtain ⟨x, H5, I5, r5, y5, st5, fr5⟩ := zz
    have I5' := I5.pinned (stat fr5) (T.obj _ _ st5)
    refine wpAny_passesOwn hp (thn (hg _ s5 σ3 H5 x u _ I5' r5 (step x H5 y5)) fun _ s6 zz => ?_)
    obtain ⟨σ6, H6, I6, q6⟩ := zz
    refine wpAny_passesOwn hp (thn (hb _ s6 σ6 H6 _ I6 q6) fun f s7 q7 => ?_)
    have again : ∀ {σ7 : St} {H7 : Hp}, Inv X (pins ++ pinsAt fp s5.heap) σ7 H7 s7 → N σ7 H7 → ∃ m, m < n ∧ ∃ i σ' H', Inv X pins σ' H' s7 ∧ tn i s7.heap ∧ (∀ b ∈ fp, H' b = none) ∧ W i m σ' H' := fun {σ7 H7} I7 n7 => by
      obtain ⟨m', hm, w7⟩ := hN σ7 H7 n7
      refine ⟨m', hm, i + 1, σ7, H7, I7.unpinned, T.keep _ _ _ st5 fun b hb o e => (I7.pin (b, o) (List.mem_append_right _ (List.mem_append_right _ (mem_pinsAt hb e)))).1, fun b hb => ?_, w7⟩
      obtain ⟨o, e, d⟩ := T.obj _ _ st5 b hb
      exact (I7.pin (b, o) (List.mem_append_right _ (List.mem_append_right _ (mem_pinsAt hb e)))).2.1
    cases f with
    | next => obtain ⟨σ7, H7, I7, n7⟩ := q7; exact again I7 n7
    | cont => obtain ⟨σ7, H7, I7, n7⟩ := q7; exact again I7 n7
    | brk => obtain ⟨σ7, H7, I7, q7⟩ := q7; exact ⟨σ7, H7, I7.unpinned, q7⟩
    | ret v => obtain ⟨x7, σ7, H7, I7, r7, q7⟩ := q7; exact ⟨x7, σ7, H7, I7.unpinned, r7, q7⟩
end
theorem for_list {K : PySem.W.Frag} {a : Addr} {xs : List V} {g : TG} {tb : TS} {D : Ends} {σ : St} {H : Hp} (Pv : Nat → St → Hp → Prop) (h0 : Pv 0 σ H) (hl : ∀ i σ H, i ≤ xs.length → Pv i σ H → SqL K H a xs)
    (hs : ∀ i x σ H, xs[i]? = some x → Pv i σ H → g x σ H fun σ2 H2 => tb { D with nx := Pv (i + 1), ct := Pv (i + 1), bk := D.nx } σ2 H2) (hd : ∀ σ H, Pv xs.length σ H → D.nx σ H) :
    ∃ W : Nat → Nat → St → Hp → Prop, (∃ m, W 0 m σ H) ∧ ∀ i m σ H, W i m σ H →
      ((Itl K a).stop i H ∧ D.nx σ H) ∨ ((Itl K a).go i H ∧ ∃ N : St → Hp → Prop, (∀ σ' H', N σ' H' → ∃ m', m' < m ∧ W (i + 1) m' σ' H') ∧ ∀ x H', (Itl K a).yld i H x H' → g x σ H' fun σ2 H2 => tb { D with nx := N, ct := N, bk := D.nx } σ2 H2) := by
  refine ⟨fun i m σ H => m = xs.length - i ∧ i ≤ xs.length ∧ Pv i σ H, ⟨xs.length, by simp, Nat.zero_le _, h0⟩, ?_⟩
  rintro i m σ H ⟨rfl, hi, p⟩
  have q := hl i σ H hi p
  by_cases hlt : i < xs.length
  · refine .inr ⟨⟨xs, xs[i], q, by simp [hlt]⟩, Pv (i + 1), fun σ' H' p' => ⟨xs.length - (i + 1), by omega, rfl, hlt, p'⟩, fun x H' y => ?_⟩
    obtain ⟨e, y⟩ := y
    subst e
    exact hs i x σ _ (y xs q) p
  · have e : i = xs.length := by omega
    subst e
    exact .inl ⟨⟨xs, q, Nat.le_refl _⟩, hd σ H p⟩
theorem for_range {lo : Int} {n : Nat} {g : TG} {tb : TS} {D : Ends} {σ : St} {H : Hp} (Pv : Nat → St → Hp → Prop) (h0 : Pv 0 σ H)
    (hs : ∀ i σ H, i < n → Pv i σ H → g (.int (lo + i)) σ H fun σ2 H2 => tb { D with nx := Pv (i + 1), ct := Pv (i + 1), bk := D.nx } σ2 H2) (hd : ∀ σ H, Pv n σ H → D.nx σ H) :
    ∃ W : Nat → Nat → St → Hp → Prop, (∃ m, W 0 m σ H) ∧ ∀ i m σ H, W i m σ H →
      ((Itr lo n).stop i H ∧ D.nx σ H) ∨ ((Itr lo n).go i H ∧ ∃ N : St → Hp → Prop, (∀ σ' H', N σ' H' → ∃ m', m' < m ∧ W (i + 1) m' σ' H') ∧ ∀ x H', (Itr lo n).yld i H x H' → g x σ H' fun σ2 H2 => tb { D with nx := N, ct := N, bk := D.nx } σ2 H2) := by
  refine ⟨fun i m σ H => m = n - i ∧ i ≤ n ∧ Pv i σ H, ⟨n, by simp, Nat.zero_le _, h0⟩, ?_⟩
  rintro i m σ H ⟨rfl, hi, p⟩
  by_cases hlt : i < n
  · refine .inr ⟨hlt, Pv (i + 1), fun σ' H' p' => ⟨n - (i + 1), by omega, rfl, hlt, p'⟩, fun x H' y => ?_⟩
    obtain ⟨e, y⟩ := y
    subst e y
    exact hs i σ _ hlt p
  · have e : i = n := by omega
    subst e
    exact .inl ⟨Nat.le_refl _, hd σ H p⟩
end L2
namespace L2
open PySem PySem.Spec PyProof.Rows
noncomputable abbrev R2 := V → V → Hp → VK → Prop
noncomputable def OpR (X : Cx) (f : Value → Value → Sem Value) (r : R2) : Prop :=
  ∀ (pins : List (Addr × Obj)) (s : Shared) (σ : St) (H : Hp) (x y : V) (v u : Value) (Q : VK), Inv X pins σ H s → RelV x v → RelV y u → r x y H Q →
    wpAny (model X.prog X.w) X.A (f v u) (EP X pins σ Q) X.xe s
noncomputable def UnR (X : Cx) (f : Value → Sem Value) (r : V → Hp → VK → Prop) : Prop :=
  ∀ (pins : List (Addr × Obj)) (s : Shared) (σ : St) (H : Hp) (x : V) (v : Value) (Q : VK), Inv X pins σ H s → RelV x v → r x H Q →
    wpAny (model X.prog X.w) X.A (f v) (EP X pins σ Q) X.xe s
noncomputable def CallR (X : Cx) (f : Value) (r : List V → Hp → VK → Prop) : Prop :=
  ∀ (pins : List (Addr × Obj)) (s : Shared) (σ : St) (H : Hp) (xs : List V) (us : List Value) (Q : VK), Inv X pins σ H s → Vals xs us → r xs H Q →
    wpAny (model X.prog X.w) X.A (call f us) (EP X pins σ Q) X.xe s
noncomputable def tOp (r : R2) (ta tb : TE) : TE := fun σ H Q => ta σ H fun x H1 => tb σ H1 fun y H2 => r x y H2 Q
noncomputable def tUn (r : V → Hp → VK → Prop) (ta : TE) : TE := fun σ H Q => ta σ H fun x H1 => r x H1 Q
noncomputable def rI (C : Int → Int → Prop) (g : Int → Int → V) : R2 := fun x y H Q => ∃ i j, x = .int i ∧ y = .int j ∧ C i j ∧ Q (g i j) H
noncomputable def rI0 (g : Int → Int → V) : R2 := fun x y H Q => ∃ i j, x = .int i ∧ y = .int j ∧ Q (g i j) H
noncomputable def rU (g : Int → V) : V → Hp → VK → Prop := fun x H Q => ∃ i, x = .int i ∧ Q (g i) H
section
variable {X : Cx} {a b c : Expr} {ta tb tc : TE} {pos : Pos}
theorem binT (ha : PE X a ta) (hb : PE X b tb) {pins : List (Addr × Obj)} {s : Shared} {σ : St} {H : Hp} {R : V → V → Hp → Prop} (I : Inv X pins σ H s)
    (h : ta σ H fun x H1 => tb σ H1 fun y H2 => R x y H2) {Q : Value → Shared → Prop} {f : Value → Value → Sem Value}
    (hf : ∀ v u s2 x y H2, Inv X pins σ H2 s2 → RelV x v → RelV y u → R x y H2 → wpAny (model X.prog X.w) X.A (f v u) Q X.xe s2) :
    wpAny (model X.prog X.w) X.A (eval a X.env) (fun v s₁ => wpAny (model X.prog X.w) X.A (eval b X.env) (fun u s₂ => wpAny (model X.prog X.w) X.A (f v u) Q X.xe s₂) X.xe s₁) X.xe s := by
  refine thn (ha pins s σ H _ I h) fun v s1 zz => ?_
  obtain ⟨x, H1, I1, r1, q1⟩ := zz
  refine thn (hb pins s1 σ H1 _ I1 q1) fun u s2 zz => ?_
  obtain ⟨y, H2, I2, r2, q2⟩ := zz
  exact hf v u s2 x y H2 I2 r1 r2 q2
theorem pe_op {op : Operator} {r : R2} (ho : OpR X (binaryOp op) r) (ha : PE X a ta) (hb : PE X b tb) : PE X (.BinOp a op b pos) (tOp r ta tb) := by
  intro pins s σ H Q I h
  exact wpAny_BinOp (binT ha hb I h fun v u s2 x y H2 I2 rx ry q => ho pins s2 σ H2 x y v u Q I2 rx ry q)
theorem pe_un {op : UnaryOp} {r : V → Hp → VK → Prop} (ho : UnR X (unaryOp op) r) (ha : PE X a ta) : PE X (.UnaryOp op a pos) (tUn r ta) := by
  intro pins s σ H Q I h
  exact UnaryOp_ (thn (ha pins s σ H _ I h) fun v s1 ⟨x, H1, I1, r1, q1⟩ => ho pins s1 σ H1 x v Q I1 r1 q1)
theorem opI {f : Value → Value → Sem Value} {C : Int → Int → Prop} {g : Int → Int → Int}
    (rule : ∀ (i j : Int) (t u : Tok) (s : Shared) (Q : Value → Shared → Prop) (E : Value → Shared → Prop), C i j → Q (.int (g i j) s.toks) { s with toks := s.toks + 1 } → wpAny (model X.prog X.w) X.A (f (.int i t) (.int j u)) Q E s) :
    OpR X f (rI C fun i j => .int (g i j)) := by
  intro pins s σ H x y v u Q I rx ry h
  obtain ⟨i, j, rfl, rfl, hc, q⟩ := h
  obtain ⟨t, rfl⟩ := rx
  obtain ⟨t', rfl⟩ := ry
  exact rule i j t t' s _ _ hc ⟨.int (g i j), H, I.tok _, ⟨_, rfl⟩, q⟩
theorem opI0 {f : Value → Value → Sem Value} {g : Int → Int → Int}
    (rule : ∀ (i j : Int) (t u : Tok) (s : Shared) (Q : Value → Shared → Prop) (E : Value → Shared → Prop), Q (.int (g i j) s.toks) { s with toks := s.toks + 1 } → wpAny (model X.prog X.w) X.A (f (.int i t) (.int j u)) Q E s) :
    OpR X f (rI0 fun i j => .int (g i j)) := by
  intro pins s σ H x y v u Q I rx ry h
  obtain ⟨i, j, rfl, rfl, q⟩ := h
  obtain ⟨t, rfl⟩ := rx
  obtain ⟨t', rfl⟩ := ry
  exact rule i j t t' s _ _ ⟨.int (g i j), H, I.tok _, ⟨_, rfl⟩, q⟩
theorem opB0 {f : Value → Value → Sem Value} {g : Int → Int → Bool}
    (rule : ∀ (i j : Int) (t u : Tok) (s : Shared) (Q : Value → Shared → Prop) (E : Value → Shared → Prop), Q (.bool (g i j)) s → wpAny (model X.prog X.w) X.A (f (.int i t) (.int j u)) Q E s) :
    OpR X f (rI0 fun i j => .bl (g i j)) := by
  intro pins s σ H x y v u Q I rx ry h
  obtain ⟨i, j, rfl, rfl, q⟩ := h
  obtain ⟨t, rfl⟩ := rx
  obtain ⟨t', rfl⟩ := ry
  exact rule i j t t' s _ _ ⟨.bl (g i j), H, I, rfl, q⟩
theorem op_add : OpR X (binaryOp .Add) (rI0 fun i j => .int (i + j)) := opI0 fun _ _ _ _ _ _ _ q => add_int q
theorem op_sub : OpR X (binaryOp .Sub) (rI0 fun i j => .int (i - j)) := opI0 fun _ _ _ _ _ _ _ q => sub_int q
theorem op_mod : OpR X (binaryOp .Mod) (rI (fun _ j => 0 < j) fun i j => .int (i % j)) := opI fun i j _ _ _ _ _ hc q => by
  have h1 : (0 : Int) < j := hc
  exact mod_int' (by omega) (by rw [Int.fmod_eq_emod_of_nonneg i (by omega)]; exact q)
theorem unI {f : Value → Sem Value} {g : Int → Int}
    (rule : ∀ (i : Int) (t : Tok) (s : Shared) (Q : Value → Shared → Prop) (E : Value → Shared → Prop), Q (.int (g i) s.toks) { s with toks := s.toks + 1 } → wpAny (model X.prog X.w) X.A (f (.int i t)) Q E s) :
    UnR X f (rU fun i => .int (g i)) := by
  intro pins s σ H x v Q I rx h
  obtain ⟨i, rfl, q⟩ := h
  obtain ⟨t, rfl⟩ := rx
  exact rule i t s _ _ ⟨.int (g i), H, I.tok _, ⟨_, rfl⟩, q⟩
theorem un_neg : UnR X (unaryOp .USub) (rU fun i => .int (-i)) := unI fun _ _ _ _ _ q => neg_int q
end
noncomputable def scal : V → V → Bool
  | .non, .non => true | .non, .int _ => true | .int _, .non => true | .non, .bl _ => true | .bl _, .non => true | .non, .str _ => true | .str _, .non => true
  | .int _, .int _ => true | .bl _, .bl _ => true | .str _, .str _ => true | .byt _, .byt _ => true
  | .int _, .str _ => true | .str _, .int _ => true | .bl _, .str _ => true | .str _, .bl _ => true
  | _, _ => false
noncomputable def rEq : R2 := fun x y H Q => scal x y = true ∧ Q (.bl (decide (x = y))) H
noncomputable def rNe : R2 := fun x y H Q => scal x y = true ∧ Q (.bl (!decide (x = y))) H
theorem dec_int {i j : Int} : decide (V.int i = V.int j) = (i == j) := by
  rw [Bool.eq_iff_iff]
  simp
theorem dec_bl {i j : Bool} : decide (V.bl i = V.bl j) = (i == j) := by
  rw [Bool.eq_iff_iff]
  simp
theorem dec_str {i j : Str} : decide (V.str i = V.str j) = (i == j) := by
  rw [Bool.eq_iff_iff]
  simp
theorem dec_byt {i j : Array UInt8} : decide (V.byt i = V.byt j) = (i.toList == j.toList) := by
  rw [Bool.eq_iff_iff]
  cases i
  cases j
  simp
section
variable {X : Cx} {a b c : Expr} {ta tb tc : TE} {pos : Pos}
theorem fin_bl {pins : List (Addr × Obj)} {σ : St} {H : Hp} {s : Shared} {Q : VK} {k k' : Bool} (I : Inv X pins σ H s) (q : Q (.bl k) H) (e : k = k') : EP X pins σ Q (.bool k') s := by
  subst e
  exact ⟨.bl k, H, I, rfl, q⟩
theorem op_eq : OpR X (compareOp .Eq) rEq := by
  intro pins s σ H x y v u Q I rx ry h
  obtain ⟨hs, q⟩ := h
  cases x with
  | non =>
    cases rx
    cases y with
    | non => cases ry; exact PySem.EqNone.eq_none_none (fin_bl I q (by simp))
    | bl j => cases ry; exact PySem.EqNone.eq_none_bool (fin_bl I q (by simp))
    | int j => obtain ⟨t', rfl⟩ := ry; exact PySem.EqNone.eq_none_int (fin_bl I q (by simp))
    | str j => obtain ⟨t', rfl⟩ := ry; exact PySem.EqNone.eq_none_str (fin_bl I q (by simp))
    | _ => exact absurd (show false = true from hs) Bool.false_ne_true
  | bl i =>
    cases rx
    cases y with
    | non => cases ry; exact PySem.EqNone.eq_bool_none (fin_bl I q (by simp))
    | bl j => cases ry; exact eq_bool (fin_bl I q dec_bl)
    | str j => obtain ⟨t', rfl⟩ := ry; exact PySem.EqMixed.eq_bool_str (fin_bl I q (by simp))
    | _ => exact absurd (show false = true from hs) Bool.false_ne_true
  | int i =>
    obtain ⟨t, rfl⟩ := rx
    cases y with
    | non => cases ry; exact PySem.EqNone.eq_int_none (fin_bl I q (by simp))
    | int j => obtain ⟨t', rfl⟩ := ry; exact eq_int (fin_bl I q dec_int)
    | str j => obtain ⟨t', rfl⟩ := ry; exact PySem.EqMixed.eq_int_str (fin_bl I q (by simp))
    | _ => exact absurd (show false = true from hs) Bool.false_ne_true
  | str i =>
    obtain ⟨t, rfl⟩ := rx
    cases y with
    | non => cases ry; exact PySem.EqNone.eq_str_none (fin_bl I q (by simp))
    | bl j => cases ry; exact PySem.EqMixed.eq_str_bool (fin_bl I q (by simp))
    | int j => obtain ⟨t', rfl⟩ := ry; exact PySem.EqMixed.eq_str_int (fin_bl I q (by simp))
    | str j => obtain ⟨t', rfl⟩ := ry; exact eq_str (fin_bl I q dec_str)
    | _ => exact absurd (show false = true from hs) Bool.false_ne_true
  | byt i =>
    obtain ⟨t, rfl⟩ := rx
    cases y with
    | byt j => obtain ⟨t', rfl⟩ := ry; exact PySem.W.eq_bytes (fin_bl I q dec_byt)
    | _ => exact absurd (show false = true from hs) Bool.false_ne_true
  | _ => cases y <;> exact absurd (show false = true from hs) Bool.false_ne_true
theorem op_ne : OpR X (compareOp .NotEq) rNe := by
  intro pins s σ H x y v u Q I rx ry h
  obtain ⟨hs, q⟩ := h
  cases x with
  | non =>
    cases rx
    cases y with
    | non => cases ry; exact PySem.EqNone.ne_none_none (fin_bl I q (by simp))
    | bl j => cases ry; exact PySem.EqNone.ne_none_bool (fin_bl I q (by simp))
    | int j => obtain ⟨t', rfl⟩ := ry; exact PySem.EqNone.ne_none_int (fin_bl I q (by simp))
    | str j => obtain ⟨t', rfl⟩ := ry; exact PySem.EqNone.ne_none_str (fin_bl I q (by simp))
    | _ => exact absurd (show false = true from hs) Bool.false_ne_true
  | bl i =>
    cases rx
    cases y with
    | non => cases ry; exact PySem.EqNone.ne_bool_none (fin_bl I q (by simp))
    | bl j => cases ry; exact ne_bool (fin_bl I q (congrArg not dec_bl))
    | str j => obtain ⟨t', rfl⟩ := ry; exact PySem.EqMixed.ne_bool_str (fin_bl I q (by simp))
    | _ => exact absurd (show false = true from hs) Bool.false_ne_true
  | int i =>
    obtain ⟨t, rfl⟩ := rx
    cases y with
    | non => cases ry; exact PySem.EqNone.ne_int_none (fin_bl I q (by simp))
    | int j => obtain ⟨t', rfl⟩ := ry; exact ne_int (fin_bl I q (congrArg not dec_int))
    | str j => obtain ⟨t', rfl⟩ := ry; exact PySem.EqMixed.ne_int_str (fin_bl I q (by simp))
    | _ => exact absurd (show false = true from hs) Bool.false_ne_true
  | str i =>
    obtain ⟨t, rfl⟩ := rx
    cases y with
    | non => cases ry; exact PySem.EqNone.ne_str_none (fin_bl I q (by simp))
    | bl j => cases ry; exact PySem.EqMixed.ne_str_bool (fin_bl I q (by simp))
    | int j => obtain ⟨t', rfl⟩ := ry; exact PySem.EqMixed.ne_str_int (fin_bl I q (by simp))
    | str j => obtain ⟨t', rfl⟩ := ry; exact ne_str (fin_bl I q (congrArg not dec_str))
    | _ => exact absurd (show false = true from hs) Bool.false_ne_true
  | byt i =>
    obtain ⟨t, rfl⟩ := rx
    cases y with
    | byt j => obtain ⟨t', rfl⟩ := ry; exact PySem.W.ne_bytes (fin_bl I q (congrArg not dec_byt))
    | _ => exact absurd (show false = true from hs) Bool.false_ne_true
  | _ => cases y <;> exact absurd (show false = true from hs) Bool.false_ne_true
theorem op_lt : OpR X (compareOp .Lt) (rI0 fun i j => .bl (decide (i < j))) := opB0 fun _ _ _ _ _ _ _ q => lt_int q
theorem op_le : OpR X (compareOp .LtE) (rI0 fun i j => .bl (decide (i ≤ j))) := opB0 fun _ _ _ _ _ _ _ q => le_int q
theorem op_gt : OpR X (compareOp .Gt) (rI0 fun i j => .bl (decide (j < i))) := opB0 fun _ _ _ _ _ _ _ q => gt_int q
theorem op_ge : OpR X (compareOp .GtE) (rI0 fun i j => .bl (decide (j ≤ i))) := opB0 fun _ _ _ _ _ _ _ q => ge_int q
theorem op_isN : OpR X (compareOp .Is) (fun x y H Q => y = .non ∧ Q (.bl (decide (x = .non))) H) := by
  intro pins s σ H x y v u Q I rx ry h
  obtain ⟨rfl, q⟩ := h
  cases ry
  refine is_none_gen (fin_bl I q ?_)
  cases x <;> first
    | (cases rx; rfl)
    | (obtain ⟨t, rfl⟩ := rx; rfl)
theorem op_notN : OpR X (compareOp .IsNot) (fun x y H Q => y = .non ∧ Q (.bl (!decide (x = .non))) H) := by
  intro pins s σ H x y v u Q I rx ry h
  obtain ⟨rfl, q⟩ := h
  cases ry
  refine isnot_none_gen (fin_bl I q ?_)
  cases x <;> first
    | (cases rx; rfl)
    | (obtain ⟨t, rfl⟩ := rx; rfl)
theorem nomark (b : Expr) {op : CmpOp} (h : op ≠ .In := by decide) (h2 : op ≠ .NotIn := by decide) : behindInMarks op b = false := by
  have e1 : (op == CmpOp.In) = false := by cases op <;> first | rfl | exact absurd rfl h
  have e2 : (op == CmpOp.NotIn) = false := by cases op <;> first | rfl | exact absurd rfl h2
  cases b <;> simp [behindInMarks, e1, e2]
theorem pe_cmpR {op : CmpOp} {r : R2} (ho : OpR X (compareOp op) r) (ha : PE X a ta) (hb : PE X b tb) (hm : behindInMarks op b = false) : PE X (.Compare a [op] [b] pos) (tOp r ta tb) := by
  intro pins s σ H Q I h
  exact wpAny_Compare1 (binT ha hb I h fun v u s2 x y H2 I2 rx ry q => ho pins s2 σ H2 x y v u Q I2 rx ry q) hm
noncomputable def tTest (t : TE) : TT := fun σ H Q => t σ H fun x H' => ∃ k, x = .bl k ∧ Q k H'
theorem pt_cmpR {op : CmpOp} {r : R2} (ho : OpR X (compareOp op) r) (ha : PE X a ta) (hb : PE X b tb) (hm : behindInMarks op b = false) : PT X (.Compare a [op] [b] pos) (tTest (tOp r ta tb)) := by
  intro pins s σ H Q I h
  refine wpAny_isTrue_Compare1 (thn (ha pins s σ H _ I h) fun v s1 ⟨x, H1, I1, r1, q1⟩ => thn (hb pins s1 σ H1 _ I1 q1) fun u s2 ⟨y, H2, I2, r2, q2⟩ =>
    thn (ho pins s2 σ H2 x y v u _ I2 r1 r2 q2) fun c s3 ⟨z, H3, I3, r3, k, e, q3⟩ => ?_) hm
  subst e
  cases r3
  exact wpAny_truthy_bool ⟨H3, I3, q3⟩
noncomputable def tChain (r r' : R2) (ta tb tc : TE) : TE := fun σ H Q => ta σ H fun x H1 => tb σ H1 fun y H2 => r x y H2 fun z H3 => ∃ k, z = .bl k ∧
  (if k = true then tc σ H3 fun w' H4 => r' y w' H4 Q else Q (.bl false) H3)
theorem pt_chain {op op' : CmpOp} {r r' : R2} (ho : OpR X (compareOp op) r) (ho' : OpR X (compareOp op') r') (ha : PE X a ta) (hb : PE X b tb) (hc : PE X c tc)
    (hm : lastMarks [op, op'] [b, c] = false := by with_unfolding_all rfl) : PT X (.Compare a [op, op'] [b, c] pos) (tTest (tChain r r' ta tb tc)) := by
  intro pins s σ H Q I h
  refine isTrue_chain (thn (ha pins s σ H _ I h) fun v s1 ⟨x, H1, I1, r1, q1⟩ => test_link (thn (hb pins s1 σ H1 _ I1 q1) fun u s2 ⟨y, H2, I2, r2, q2⟩ =>
    thn (ho pins s2 σ H2 x y v u _ I2 r1 r2 q2) fun d s3 ⟨z, H3, I3, r3, k, e, q3⟩ => ?_)) hm
  subst e
  cases r3
  refine wpAny_truthy_bool ?_
  cases k with
  | false =>
    obtain ⟨k', e', q'⟩ := q3
    cases e'
    exact ite_ff ⟨H3, I3, q'⟩
  | true =>
    refine ite_tt (test_last (thn (hc pins s3 σ H3 _ I3 q3) fun w' s4 ⟨z', H4, I4, r4, q4⟩ => thn (ho' pins s4 σ H4 y z' u w' _ I4 r2 r4 q4) fun d' s5 zz => ?_))
    obtain ⟨z2, H5, I5, r5, k2, e2, q5⟩ := zz
    subst e2
    cases r5
    exact wpAny_truthy_bool ⟨H5, I5, q5⟩
theorem line63 : (sizeLine : Nat) < 2 ^ 63 := by rw [sizeLine_eq]; decide
theorem vals1 {x : V} {us : List Value} (r : Vals [x] us) : ∃ u, us = [u] ∧ RelV x u := by
  cases r with
  | cons r1 r2 => cases r2; exact ⟨_, rfl, r1⟩
theorem vals2 {x y : V} {us : List Value} (r : Vals [x, y] us) : ∃ u w', us = [u, w'] ∧ RelV x u ∧ RelV y w' := by
  cases r with
  | cons r1 r2 =>
    cases r2 with
    | cons r3 r4 => cases r4; exact ⟨_, _, rfl, r1, r3⟩
theorem call_abs : CallR X (.builtin "abs") (fun xs H Q => ∃ i, xs = [.int i] ∧ Q (.int (if i < 0 then -i else i)) H) := by
  intro pins s σ H xs us Q I r h
  obtain ⟨i, rfl, q⟩ := h
  obtain ⟨u, rfl, t, rfl⟩ := vals1 r
  exact call_abs_int fun u tk => ⟨.int (if i < 0 then -i else i), H, I.tok _, ⟨_, rfl⟩, q⟩
theorem call_max2 (hc : X.calm = true) : CallR X (.builtin "max") (fun xs H Q => ∃ i j, xs = [.int i, .int j] ∧ Q (.int (if j > i then j else i)) H) := by
  intro pins s σ H xs us Q I r h
  obtain ⟨i, j, rfl, q⟩ := h
  obtain ⟨u, w', rfl, ⟨t, rfl⟩, ⟨t', rfl⟩⟩ := vals2 r
  refine max_two_ints (I.ok.hd hc) fun h' tk k => ⟨_, H, I.kept k, ?_, q⟩
  by_cases hj : j > i
  · rw [if_pos hj, if_pos hj]; exact ⟨_, rfl⟩
  · rw [if_neg hj, if_neg hj]; exact ⟨_, rfl⟩
theorem call_min2 (hc : X.calm = true) : CallR X (.builtin "min") (fun xs H Q => ∃ i j, xs = [.int i, .int j] ∧ Q (.int (if j < i then j else i)) H) := by
  intro pins s σ H xs us Q I r h
  obtain ⟨i, j, rfl, q⟩ := h
  obtain ⟨u, w', rfl, ⟨t, rfl⟩, ⟨t', rfl⟩⟩ := vals2 r
  refine min_two_ints (I.ok.hd hc) fun h' tk k => ⟨_, H, I.kept k, ?_, q⟩
  by_cases hj : j < i
  · rw [if_pos hj, if_pos hj]; exact ⟨_, rfl⟩
  · rw [if_neg hj, if_neg hj]; exact ⟨_, rfl⟩
theorem call_int1 : CallR X (.type "int") (fun xs H Q => (∃ i, xs = [.int i] ∧ Q (.int i) H) ∨ ∃ k, xs = [.bl k] ∧ Q (.int (if k then 1 else 0)) H) := by
  intro pins s σ H xs us Q I r h
  rcases h with ⟨i, rfl, q⟩ | ⟨k, rfl, q⟩
  · obtain ⟨u, rfl, t, rfl⟩ := vals1 r
    exact call_int_int ⟨.int i, H, I, ⟨_, rfl⟩, q⟩
  · obtain ⟨u, rfl, r1⟩ := vals1 r
    cases r1
    exact call_int_bool ⟨.int (if k then 1 else 0), H, I.tok _, ⟨_, rfl⟩, q⟩
noncomputable def LenV (K : PySem.W.Frag) (x : V) (H : Hp) (n : Nat) : Prop :=
  match x with
  | .str y => y.length ≤ sizeLine ∧ n = y.length
  | .byt y => y.size ≤ sizeLine ∧ n = y.size
  | .ref p => (∃ xs, SqL K H p xs ∧ n = xs.length) ∨ ∃ xs, SqT K H p xs ∧ n = xs.length
  | _ => False
theorem call_len : CallR X (.builtin "len") (fun xs H Q => ∃ x n, xs = [x] ∧ LenV X.K x H n ∧ Q (.int n) H) := by
  intro pins s σ H xs us Q I r h
  obtain ⟨x, n, rfl, e, q⟩ := h
  obtain ⟨u, rfl, rx⟩ := vals1 r
  have hl := line63
  have hs : sizeLine = 16777216 := sizeLine_eq
  cases x with
  | str y =>
    obtain ⟨t, rfl⟩ := rx
    obtain ⟨hy, e'⟩ : y.length ≤ sizeLine ∧ n = y.length := e
    subst e'
    exact len_str (by omega) ⟨.int _, H, I.tok _, ⟨_, rfl⟩, q⟩
  | byt y =>
    obtain ⟨t, rfl⟩ := rx
    obtain ⟨hy, e'⟩ : y.size ≤ sizeLine ∧ n = y.size := e
    subst e'
    exact PySem.W.len_bytes (by omega) ⟨.int _, H, I.tok _, ⟨_, rfl⟩, q⟩
  | ref p =>
    cases rx
    have e' : (∃ xs, SqL X.K H p xs ∧ n = xs.length) ∨ ∃ xs, SqT X.K H p xs ∧ n = xs.length := e
    rcases e' with ⟨xs, hx, e'⟩ | ⟨xs, hx, e'⟩
    · subst e'
      obtain ⟨its, r', pl, hz⟩ := I.list hx
      have hlen := r'.length
      exact Calls.call_len_list pl.isList (by simp only [List.size_toArray]; omega) ⟨.int xs.length, H, I.tok _, ⟨_, by simp only [List.size_toArray]; rw [hlen]⟩, q⟩
    · subst e'
      obtain ⟨its, r', pl, hz⟩ := I.tuple hx
      have hlen := r'.length
      exact len_tuple pl (by simp only [List.size_toArray]; omega) ⟨.int xs.length, H, I.tok _, ⟨_, by simp only [List.size_toArray]; rw [hlen]⟩, q⟩
  | _ => exact (show False from e).elim
end
end L2
namespace L2
open PySem PySem.Spec PyProof.Rows
structure ObjM (h : Heap) (x dx C : Addr) (mA : Str → Option Value) : Prop where
  obj : h.get? x = some (PySem.W.instObj C dx)
  ns : h.Ns1 dx mA
  ne : dx ≠ x
theorem lookIn_ns {h : Heap} {dx : Addr} {mA : Str → Option Value} (n : h.Ns1 dx mA) : ∃ od, h.get? dx = some od ∧ ∀ name, PySem.W.lookIn name od = some (mA name) := by
  obtain ⟨o, es, ep, ho, hd, hk, _, hm⟩ := n
  refine ⟨o, ho, fun name => ?_⟩
  have e := hm name
  unfold nsFind findBy at e
  rw [← Array.find?_toList] at e
  unfold PySem.W.lookIn
  rw [hd]
  dsimp only
  split
  · rename_i y q
    rw [q] at e
    exact congrArg some e
  · rename_i q
    rw [q] at e
    have a : es.toList.any (·.refKey) = false := by
      rw [List.any_eq_false]
      intro y hy
      obtain ⟨z, t, hkey⟩ := hk y (Array.mem_toList_iff.mp hy)
      simp [DictEntry.refKey, hkey]
    have a' : ¬ es.toList.any (·.refKey) = true := by rw [a]; exact Bool.false_ne_true
    rw [if_neg a']
    exact congrArg some e
theorem ObjM.look {h : Heap} {x dx C : Addr} {mA : Str → Option Value} (I : ObjM h x dx C mA) : ∃ od, PySem.W.InstAt h x (PySem.W.instObj C dx) C (some od) ∧ ∀ name, PySem.W.lookIn name od = some (mA name) :=
  let ⟨od, ho, hl⟩ := lookIn_ns I.ns
  ⟨od, ⟨I.obj, rfl, rfl, ho⟩, hl⟩
section
variable {prog : Program} {w : World} {A : Around} {E : Value → Shared → Prop} {s : Shared} {K : PySem.W.Frag} {x dx C f : Addr} {mA : Str → Option Value} {name : Str} {v : Value}
theorem get_map {expr : Bool} {Q : Value → Shared → Prop} (X : K.In s.heap) (I : ObjM s.heap x dx C mA) (hg : PySem.W.plainGet K C name = true) (hh : PySem.W.hasDictIn K C = true)
    (ha : PySem.W.findIn K (.ref C) name = some none) (hv : mA name = some v) (hv' : PySem.W.handedIn v = true) (h : Q v { s with toks := s.toks + 1 }) :
    wpAny (model prog w) A (getAttr (.ref x) name expr) Q E s := by
  obtain ⟨od, J, hl⟩ := I.look
  exact PySem.W.get_value X J (PySem.W.plainGet_of hg).1 (PySem.W.findObj_own hh ha rfl (by rw [hl, hv])) hv' h
theorem get_meth {pl : Sem Bool} {Q : Value × List Value → Shared → Prop} (X : K.In s.heap) (I : ObjM s.heap x dx C mA) (hg : PySem.W.plainGet K C name = true)
    (hf : PySem.W.findIn K (.ref C) name = some (some (.ref f))) (ht : PySem.W.isFn K (.ref f) = true) (hv : mA name = none) (h : Q (.ref f, [.ref x]) s) :
    wpAny (model prog w) A (getMethod (.ref x) name pl) Q E s := by
  obtain ⟨od, J, hl⟩ := I.look
  exact PySem.W.method_fn X J (PySem.W.plainGet_of hg).1 (PySem.W.plainGet_of hg).2 hf (beq_iff_eq.mp ht) (by show (PySem.W.lookIn name od).map (·.isSome) = some false; rw [hl, hv]; rfl) h
theorem set_map {ns : List Str} {Q : Unit → Shared → Prop} (X : K.In s.heap) (I : ObjM s.heap x dx C mA)
    (hs : PySem.W.findIn K (.ref C) "__setattr__" = some (some (.builtin "object.__setattr__"))) (hp : PySem.W.plainOver K C = true) (ht : PySem.W.takerIn K C name = some none) (hh : PySem.W.hasDictIn K C = true)
    (hw : PySem.Within mA ns) (hsz : ns.length ≤ sizeLine)
    (h : ∀ h', ObjM h' x dx C (fun y => if y = name then some v else mA y) → Heap.SameBut dx s.heap h' → Q () { s with heap := h', toks := s.toks + 2 }) :
    wpAny (model prog w) A (setAttr (.ref x) name v) Q E s := by
  obtain ⟨od, J, hl⟩ := I.look
  refine PySem.W.set_plain X J hs (PySem.W.osa_open (s := { s with toks := s.toks + 1 }) (r := none) X J hp ht fun b => ?_)
  obtain ⟨cd, hc, hd'⟩ := PySem.W.any_some hh
  have hx : s.heap.get? x = some ⟨.ref C, some dx, .plain, #[]⟩ := I.obj
  refine wpAny_bind (wpAny_pure (wpAny_bind (wpAny_bind (wpAny_loadPart hx (wpAny_bind (PySem.W.Looks.here (s := { s with toks := s.toks + 1 }) (PySem.W.looks_clsIn X hc) ?_))))))
  rw [hd']
  refine wpAny_pure (a := some dx) (wpAny_bind (wpAny_pure (wpAny_bind ?_)))
  refine wpAny_nsSet1 (s := { s with toks := s.toks + 1 }) I.ns fun h' hn2 hs2 => ?_
  obtain ⟨oD, esD, epD, hoD, hdD, hcD⟩ := hn2.count (PySem.Within.cons name v hw)
  refine wpAny_bind (wpAny_lookBehind hoD (by rw [hdD]; exact pastItsLine_dict (Nat.le_trans hcD (by rw [List.length_cons]; omega))) ?_)
  exact wpAny_pure (h _ ⟨(hs2.2 _ (Ne.symm I.ne)).trans I.obj, hn2, I.ne⟩ hs2)
theorem make_map {R : Result → Shared → Prop} {vs : List Value} {kw : List (Str × Value)} (X : K.In s.heap) (hm : PySem.W.makesIn K C = true)
    (hi : PySem.W.findIn K (.ref C) "__init__" = some (some (.ref f))) (hf : PySem.W.typeIn K (.ref f) = some (.type "function"))
    (h : codeAny (model prog w) (A.under (.builtin "type.__call__" ⟨.ref C :: vs, kw⟩)) (.call (.ref f) ⟨.ref (s.heap.objs.size + 1) :: vs, kw⟩) (PySem.W.InitBack (s.heap.objs.size + 1) R)
      { s with heap := (s.heap.push PySem.W.emptyDict).push (PySem.W.instObj C s.heap.objs.size) }) :
    codeAny (model prog w) A (.call (.ref C) ⟨vs, kw⟩) R s := by
  obtain ⟨hh, g, d, t, os⟩ := s
  exact PySem.W.make_core (PySem.W.makes_of X hm) (PySem.W.looks_findIn X hi) (fun self => PySem.W.bind_fn X self hf) (.inl rfl) h
end
noncomputable def putF (f : Str) (v : V) : List (Str × V) → List (Str × V)
  | [] => [(f, v)]
  | (g, x) :: r => if g = f then (g, v) :: r else (g, x) :: putF f v r
theorem lookup_putF (f g : Str) (v : V) : ∀ fs : List (Str × V), (putF f v fs).lookup g = if g = f then some v else fs.lookup g
  | [] => by
    show List.lookup g [(f, v)] = _
    by_cases h : g = f
    · have hb : (g == f) = true := beq_iff_eq.mpr h
      simp only [List.lookup, hb, if_pos h]
    · have hb : (g == f) = false := beq_eq_false_iff_ne.mpr h
      simp only [List.lookup, hb, if_neg h]
  | (k, x) :: r => by
    have ih := lookup_putF f g v r
    rw [show putF f v ((k, x) :: r) = (if k = f then (k, v) :: r else (k, x) :: putF f v r) from rfl]
    by_cases hk : k = f
    · rw [if_pos hk]
      by_cases h : g = k
      · have hb : (g == k) = true := beq_iff_eq.mpr h
        simp only [List.lookup, hb, if_pos (h.trans hk)]
      · have hb : (g == k) = false := beq_eq_false_iff_ne.mpr h
        simp only [List.lookup, hb, if_neg (fun e : g = f => h (e.trans hk.symm))]
    · rw [if_neg hk]
      by_cases h : g = k
      · have hb : (g == k) = true := beq_iff_eq.mpr h
        simp only [List.lookup, hb, if_neg (fun e : g = f => hk (h.symm.trans e))]
      · have hb : (g == k) = false := beq_eq_false_iff_ne.mpr h
        simp only [List.lookup, hb]
        exact ih
theorem keys_putF (f : Str) (v : V) : ∀ fs : List (Str × V), f ∈ (putF f v fs).map (·.1) ∧ ∀ g, g ∈ fs.map (·.1) → g ∈ (putF f v fs).map (·.1)
  | [] => ⟨by simp [putF], fun g h => by simp at h⟩
  | (k, x) :: r => by
    obtain ⟨i1, i2⟩ := keys_putF f v r
    rw [show putF f v ((k, x) :: r) = (if k = f then (k, v) :: r else (k, x) :: putF f v r) from rfl]
    by_cases hk : k = f
    · rw [if_pos hk]
      subst hk
      exact ⟨by simp, fun g h => by simpa using h⟩
    · rw [if_neg hk]
      refine ⟨?_, fun g h => ?_⟩
      · rw [List.map_cons]
        exact List.mem_cons_of_mem _ i1
      · rw [List.map_cons] at h ⊢
        rcases List.mem_cons.mp h with e | e
        · exact List.mem_cons.mpr (.inl e)
        · exact List.mem_cons_of_mem _ (i2 g e)
theorem length_putF (f : Str) (v : V) : ∀ fs : List (Str × V), (putF f v fs).length ≤ fs.length + 1
  | [] => by simp [putF]
  | (k, x) :: r => by
    have ih := length_putF f v r
    rw [show putF f v ((k, x) :: r) = (if k = f then (k, v) :: r else (k, x) :: putF f v r) from rfl]
    by_cases hk : k = f
    · rw [if_pos hk, List.length_cons, List.length_cons]; omega
    · rw [if_neg hk, List.length_cons, List.length_cons]; omega
theorem RelO.some_of {v : V} {o : Option Value} (r : RelO (some v) o) : ∃ u, o = some u ∧ RelV v u := by
  cases o with
  | none => exact (show False from r).elim
  | some u => exact ⟨u, rfl, r⟩
theorem RelO.none_of {o : Option Value} (r : RelO none o) : o = none := by
  cases o with
  | none => rfl
  | some u => exact (show False from r).elim
theorem handed_of {v : V} {u : Value} (r : RelV v u) : PySem.W.handedIn u = true := by
  cases v with
  | non => cases (show u = Value.none from r); rfl
  | bl b => cases (show u = Value.bool b from r); rfl
  | int i => obtain ⟨t, e⟩ := (show ∃ t, u = Value.int i t from r); cases e; rfl
  | str x => obtain ⟨t, e⟩ := (show ∃ t, u = Value.str x t from r); cases e; rfl
  | byt b => obtain ⟨t, e⟩ := (show ∃ t, u = Value.bytes b t from r); cases e; rfl
  | flt b => obtain ⟨t, e⟩ := (show ∃ t, u = Value.float b t from r); cases e; rfl
  | ref a => cases (show u = Value.ref a from r); rfl
  | ty n => cases (show u = Value.type n from r); rfl
section
variable {P : Program} {w : World} {H H' : Hp} {h h' : Heap} {a C dx : Addr} {fs fs' : List (Str × V)}
theorem ins_get (hok : HOk P w H h) (e : H a = some (.ins C dx fs)) : ∃ mA, ObjM h a dx C mA ∧ (∀ f, RelO (fs.lookup f) (mA f)) ∧ PySem.Within mA (fs.map (·.1)) ∧ fs.length ≤ 1000 ∧ H dx = some (.own a) := by
  obtain ⟨d, z, ne, ob, mA, n, r, q⟩ := (show ObjOk P w H h a (.ins C dx fs) from hok a _ e)
  exact ⟨mA, ⟨ob, n, ne⟩, r, q, z, d⟩
end
structure Cls (K : PySem.W.Frag) (C : Addr) : Prop where
  pg : PySem.W.plainGet K C Str.empty = true
  hd : PySem.W.hasDictIn K C = true
  po : PySem.W.plainOver K C = true
  sa : PySem.W.findIn K (.ref C) "__setattr__" = some (some (.builtin "object.__setattr__"))
theorem Cls.get {K : PySem.W.Frag} {C : Addr} (c : Cls K C) (f : Str) : PySem.W.plainGet K C f = true := c.pg
noncomputable def NoAttr (K : PySem.W.Frag) (C : Addr) (f : Str) : Prop := PySem.W.findIn K (.ref C) f = some none
theorem NoAttr.taker {K : PySem.W.Frag} {C : Addr} {f : Str} (n : NoAttr K C f) : PySem.W.takerIn K C f = some none := by
  unfold PySem.W.takerIn
  rw [show PySem.W.findIn K (.ref C) f = some none from n]
  rfl
structure Meth (K : PySem.W.Frag) (C : Addr) (m : Str) (f : Addr) : Prop where
  at_ : PySem.W.findIn K (.ref C) m = some (some (.ref f))
  fn : PySem.W.isFn K (.ref f) = true
  kp : PySem.W.keepIn K (.ref f) = true
section
variable {X : Cx} {pins : List (Addr × Obj)} {σ : St} {H : Hp} {s : Shared} {a C dx : Addr} {fs : List (Str × V)} {f : Str} {v : V} {A : Around} {E : Value → Shared → Prop}
theorem getattr_ok {b : Bool} {Q : Value → Shared → Prop} (I : Inv X pins σ H s) (e : H a = some (.ins C dx fs)) (c : Cls X.K C) (n : NoAttr X.K C f) (l : fs.lookup f = some v)
    (h : ∀ u s', Inv X pins σ H s' → RelV v u → Q u s') : wpAny (model X.prog X.w) A (getAttr (.ref a) f b) Q E s := by
  obtain ⟨mA, O, r, _, _, _⟩ := ins_get I.hok e
  obtain ⟨u, hu, ru⟩ := RelO.some_of (v := v) (o := mA f) (by rw [← l]; exact r f)
  exact get_map I.kIn O (c.get f) c.hd n hu (handed_of ru) (h u _ (I.tok _) ru)
theorem getmeth_ok {m : Str} {g : Addr} {pl : Sem Bool} {Q : Value × List Value → Shared → Prop} (I : Inv X pins σ H s) (e : H a = some (.ins C dx fs)) (c : Cls X.K C) (k : Meth X.K C m g) (l : fs.lookup m = none)
    (h : Q (.ref g, [.ref a]) s) : wpAny (model X.prog X.w) A (getMethod (.ref a) m pl) Q E s := by
  obtain ⟨mA, O, r, _, _, _⟩ := ins_get I.hok e
  have hn : mA m = none := RelO.none_of (by rw [← l]; exact r m)
  exact get_meth I.kIn O (c.get m) k.at_ k.fn hn h
theorem setattr_ok {y : V} {u : Value} {Q : Unit → Shared → Prop} (I : Inv X pins σ H s) (e : H a = some (.ins C dx fs)) (c : Cls X.K C) (n : NoAttr X.K C f) (hl : fs.length < 1000) (ry : RelV y u)
    (h : ∀ s', Inv X pins σ (upd H a (.ins C dx (putF f y fs))) s' → Q () s') : wpAny (model X.prog X.w) A (setAttr (.ref a) f u) Q E s := by
  obtain ⟨mA, O, r, wi, _, ho⟩ := ins_get I.hok e
  have hz : (fs.map (·.1)).length ≤ sizeLine := by rw [List.length_map, sizeLine_eq]; omega
  refine set_map I.kIn O c.sa c.po n.taker c.hd wi hz fun h' O' sb => h _ ?_
  have hd : ∃ o, h'.get? dx = some o := let ⟨o, _, _, e', _⟩ := O'.ns; ⟨o, e'⟩
  refine I.write (x := a) (e := dx) (by rw [e]; exact True.intro) (.inr ho) (fun b q hb z => (sb.2 b hb).trans z) hd ?_
  refine ⟨by rw [upd_ne O.ne]; exact ho, ?_, O.ne, O'.obj, _, O'.ns, fun g => ?_, fun g hg => ?_⟩
  · have := length_putF f y fs; omega
  · show RelO ((putF f y fs).lookup g) (if g = f then some u else mA g)
    rw [lookup_putF]
    by_cases q : g = f
    · rw [if_pos q, if_pos q]; exact ry
    · rw [if_neg q, if_neg q]; exact r g
  · by_cases q : g = f
    · rw [q]; exact (keys_putF f y fs).1
    · refine (keys_putF f y fs).2 g (wi g fun z => hg ?_)
      show (if g = f then some u else mA g) = none
      rw [if_neg q]; exact z
theorem Inv.made (I : Inv X pins σ H s) : Inv X pins σ (upd (upd H s.heap.objs.size (.own (s.heap.objs.size + 1))) (s.heap.objs.size + 1) (.ins C s.heap.objs.size []))
    { s with heap := (s.heap.push PySem.W.emptyDict).push (PySem.W.instObj C s.heap.objs.size) } := by
  have e1 : (s.heap.push PySem.W.emptyDict).get? s.heap.objs.size = some PySem.W.emptyDict := Heap.get?_push_size s.heap rfl
  have e2 : ((s.heap.push PySem.W.emptyDict).push (PySem.W.instObj C s.heap.objs.size)).get? (s.heap.objs.size + 1) = some (PySem.W.instObj C s.heap.objs.size) := by
    have := Heap.get?_push_size (s.heap.push PySem.W.emptyDict) (o := PySem.W.instObj C s.heap.objs.size) rfl
    rwa [Heap.size_push] at this
  have e3 : (s.heap.push PySem.W.emptyDict).Ns s.heap.objs.size (fun _ => none) := ⟨PySem.W.emptyDict, #[], _, e1, rfl, (fun e he => absurd he (by simp)), fun _ => rfl⟩
  have I1 := I.laid (a := s.heap.objs.size) (o := .own (s.heap.objs.size + 1)) (h' := s.heap.push PySem.W.emptyDict) (t' := s.toks) (fun b u q => Heap.get?_push_of_some _ q) (Nat.le_refl _) ⟨_, e1⟩
  refine I1.laid (a := s.heap.objs.size + 1) (o := .ins C s.heap.objs.size []) (t' := s.toks) (fun b u q => Heap.get?_push_of_some _ q) (Nat.le_of_eq (Heap.size_push _ _)) ?_
  have ne : s.heap.objs.size ≠ s.heap.objs.size + 1 := Nat.ne_of_lt (Nat.lt_succ_self _)
  refine ⟨by rw [upd_ne ne, upd_same], Nat.zero_le _, ne, e2, fun _ => none, (Heap.Ns1.of_empty e3).at fun o q => Heap.get?_push_of_some _ q, fun _ => True.intro, fun y hy => absurd rfl hy⟩
theorem attr_of {prog : Program} {w : World} {env : Env} {e : Expr} {f : Str} {pos : Pos} {s : Shared} {Q : Value → Shared → Prop} (hb : attributeBase e f env (eval e env) = eval e env)
    (h : wpAny (model prog w) A (eval e env) (fun o s₁ => wpAny (model prog w) A (getAttr o f true) Q E s₁) E s) : wpAny (model prog w) A (eval (.Attribute e f pos) env) Q E s :=
  Attribute_any_ h (by rw [arm_eval_Attribute, hb])
end
noncomputable def InOp (X : Cx) (op : Operator) (rd : V → V → Hp → VK → Prop) : Prop :=
  ∀ (pins : List (Addr × Obj)) (s : Shared) (σ : St) (H : Hp) (x y : V) (u v : Value) (Q : VK), Inv X pins σ H s → RelV x u → RelV y v → rd x y H Q → wpAny (model X.prog X.w) X.A (inplaceOp op u v) (EP X pins σ Q) X.xe s
section
variable {X : Cx} {o e value : Expr} {f : Str} {pos pos' tpos : Pos} {ta tv : TE}
noncomputable def rAdd : V → V → Hp → VK → Prop := fun x y H Q => ∃ i j, x = .int i ∧ y = .int j ∧ Q (.int (i + j)) H
theorem in_add : InOp X .Add rAdd := by
  rintro pins s σ H x y u v Q I rx ry ⟨i, j, rfl, rfl, q⟩
  obtain ⟨t, rfl⟩ := (show ∃ t, u = Value.int i t from rx)
  obtain ⟨t', rfl⟩ := (show ∃ t', v = Value.int j t' from ry)
  exact PyProof.Rows.iadd_int ⟨.int (i + j), H, I.tok _, ⟨_, rfl⟩, q⟩
end
section
variable {X : Cx} {pins : List (Addr × Obj)} {σ : St} {H : Hp} {s : Shared} {A : Around} {E : Value → Shared → Prop} {Q : Value → Shared → Prop} {c : Value} {b : Bool}
inductive TyOf (K : PySem.W.Frag) (H : Hp) : V → Value → Prop where
  | non : TyOf K H .non (.type "NoneType")
  | bl (x : Bool) : TyOf K H (.bl x) (.type "bool")
  | int (i : Int) : TyOf K H (.int i) (.type "int")
  | str (x : Str) : TyOf K H (.str x) (.type "str")
  | flt (x : UInt64) : TyOf K H (.flt x) (.type "float")
  | lst {a : Addr} {xs : List V} (e : H a = some (.lst xs)) : TyOf K H (.ref a) (.type "list")
  | frz {a : Addr} {o : Obj} {xs : List V} (e : H a = some (.frz o (.lst xs))) : TyOf K H (.ref a) (.type "list")
  | tup {a : Addr} {xs : List V} (e : H a = some (.tup xs)) : TyOf K H (.ref a) (.type "tuple")
  | dK {a : Addr} {kvs : List (Key × V)} (e : H a = some (.dK kvs)) : TyOf K H (.ref a) (.type "dict")
  | dT {a : Addr} {kvs : List (List Key × V)} (e : H a = some (.dT kvs)) : TyOf K H (.ref a) (.type "dict")
  | ins {a C dx : Addr} {fs : List (Str × V)} (e : H a = some (.ins C dx fs)) (cl : Cls K C) (ha : PySem.W.findIn K (.ref C) "__class__" = some (some (.builtin "object.__class__")))
      (hn : PySem.W.specialIn K (.builtin "object.__class__") "__get__" = some (some (.builtin "getset_descriptor.__get__"))) (htk : PySem.W.takesIn K (.builtin "object.__class__") = some true)
      (hm : PySem.W.mroIn K C (.type "object") = some true) : TyOf K H (.ref a) (.ref C)
theorem isinst_ok {x : V} {u t : Value} (I : Inv X pins σ H s) (rx : RelV x u) (ty : TyOf X.K H x t) (e : PySem.W.kitOne X.K t c = some b) (h : ∀ tk, Q (.bool b) { s with toks := tk }) :
    wpAny (model X.prog X.w) A (call (.builtin "isinstance") [u, c]) Q E s := by
  cases ty with
  | non => cases (show u = Value.none from rx); exact PySem.W.kia_one PySem.W.kitx_none I.kIn True.intro e (fun z => nomatch z) h
  | bl y => cases (show u = Value.bool y from rx); exact PySem.W.kia_one PySem.W.kitx_bool I.kIn True.intro e (fun z => nomatch z) h
  | int i => obtain ⟨t, q⟩ := (show ∃ t, u = Value.int i t from rx); cases q; exact PySem.W.kia_one PySem.W.kitx_int I.kIn True.intro e (fun z => nomatch z) h
  | str y => obtain ⟨t, q⟩ := (show ∃ t, u = Value.str y t from rx); cases q; exact PySem.W.kia_one PySem.W.kitx_str I.kIn True.intro e (fun z => nomatch z) h
  | flt y => obtain ⟨t, q⟩ := (show ∃ t, u = Value.float y t from rx); cases q; exact PySem.W.kia_one PySem.W.kitx_float I.kIn True.intro e (fun z => nomatch z) h
  | @lst a xs ea =>
    cases (show u = Value.ref a from rx)
    obtain ⟨_, _, n, _, h1⟩ := (show ObjOk X.prog X.w H s.heap a (.lst xs) from I.hok a _ ea)
    exact PySem.W.kia_one PySem.W.kitx_list I.kIn ⟨_, h1, rfl⟩ e (fun z => nomatch z) h
  | @frz a ob xs ea =>
    cases (show u = Value.ref a from rx)
    obtain ⟨_, _, _, n, _, h1⟩ := (show ObjOk X.prog X.w H s.heap a (.frz ob (.lst xs)) from I.hok a _ ea)
    exact PySem.W.kia_one PySem.W.kitx_list I.kIn ⟨_, h1, rfl⟩ e (fun z => nomatch z) h
  | @tup a xs ea =>
    cases (show u = Value.ref a from rx)
    obtain ⟨_, _, _, p⟩ := (show ObjOk X.prog X.w H s.heap a (.tup xs) from I.hok a _ ea)
    obtain ⟨o, h1, h2, _⟩ := p
    exact PySem.W.kia_one PySem.W.kitx_tuple I.kIn ⟨o, h1, h2⟩ e (fun z => nomatch z) h
  | @dK a kvs ea =>
    cases (show u = Value.ref a from rx)
    obtain ⟨_, _, vs, _, p⟩ := (show ObjOk X.prog X.w H s.heap a (.dK kvs) from I.hok a _ ea)
    obtain ⟨o, es, ep, h1, h2, _⟩ := p
    exact PySem.W.kia_one PySem.W.kitx_dict I.kIn ⟨o, h1, h2.1⟩ e (fun z => nomatch z) h
  | @dT a kvs ea =>
    cases (show u = Value.ref a from rx)
    obtain ⟨_, _, xs, _, o, es, ep, h1, h2, _⟩ := (show ObjOk X.prog X.w H s.heap a (.dT kvs) from I.hok a _ ea)
    exact PySem.W.kia_one PySem.W.kitx_dict I.kIn ⟨o, h1, h2.1⟩ e (fun z => nomatch z) h
  | @ins a C dx fs ea cl ha hn htk hm =>
    cases (show u = Value.ref a from rx)
    obtain ⟨mA, O, _⟩ := ins_get I.hok ea
    obtain ⟨od, J, _⟩ := O.look
    exact PySem.W.kia_one (PySem.W.kitx_own (cl.get _) cl.hd ha hn htk hm) I.kIn J e (fun z => nomatch z) h
end
end L2
namespace L2
open PySem PySem.Spec PyProof.Rows
structure Room (k : Nat) (A : Around) : Prop where
  hd : A.handled = none
  dp : A.depth + 3 * k + 5 < recursionLimit
  un : A.units + 16 * k + 200 < cLine
theorem Room.mono {j k : Nat} {A : Around} (r : Room k A) (h : j ≤ k) : Room j A := ⟨r.hd, by have := r.dp; omega, by have := r.un; omega⟩
theorem Room.deeper {k : Nat} {A : Around} (r : Room (k + 1) A) (env : Env) : Room k (A.deeper env) :=
  ⟨r.hd, by have := r.dp; show A.depth + 1 + 3 * k + 5 < _; omega, by have := r.un; show A.units + 3 + 16 * k + 200 < _; omega⟩
theorem make_depth {A : Around} {C : Addr} {us : List Value} {kw : List (Str × Value)} : (A.under (.builtin "type.__call__" ⟨.ref C :: us, kw⟩)).depth = A.depth + 1 := by
  first | rfl | simp [Around.under, Code.weight, Code.isCreation, Code.isGuard, Code.isCaller, Code.frames, Code.isFrame, guardIds]
theorem make_units {A : Around} {C : Addr} {us : List Value} {kw : List (Str × Value)} : (A.under (.builtin "type.__call__" ⟨.ref C :: us, kw⟩)).units = A.units + 1 := by
  first | rfl | simp [Around.under, Code.cUnits, Code.frames, Code.isFrame]
theorem Room.make {k : Nat} {A : Around} (r : Room (k + 1) A) (C : Addr) (us : List Value) (kw : List (Str × Value)) : Room k (A.under (.builtin "type.__call__" ⟨.ref C :: us, kw⟩)) :=
  ⟨r.hd, by have := r.dp; rw [make_depth]; omega, by have := r.un; rw [make_units]; omega⟩
theorem Room.depth {k : Nat} {A : Around} (r : Room k A) : A.depth < recursionLimit := by have := r.dp; omega
theorem Room.units0 {k : Nat} {A : Around} (r : Room k A) : A.units < cLine := by have := r.un; omega
noncomputable def tNil : TA := fun _ H Q => Q [] H
noncomputable def tCons (ta : TE) (tr : TA) : TA := fun σ H Q => ta σ H fun x H1 => tr σ H1 fun xs H2 => Q (x :: xs) H2
section
variable {X : Cx} {e : Expr} {es : List Expr} {te : TE} {t : TA} {pos : Pos}
theorem pa_nil : PA X [] tNil := fun _ _ _ _ H Q I h => Calls.spliced_nil ⟨[], H, I, .nil, h⟩
theorem pa_cons (ha : PE X e te) (hr : PA X es t) (hs : starEach (e :: es) X.env = (false, eval e X.env) :: starEach es X.env := by rfl) : PA X (e :: es) (tCons te t) := by
  intro pos pins s σ H Q I h
  rw [hs]
  show wpAny _ _ (spliced ((false, eval e X.env) :: backTo pos (starEach es X.env))) _ _ s
  refine Calls.spliced_cons (thn (ha pins s σ H _ I h) fun u s1 zz => ?_)
  obtain ⟨x, H1, I1, r1, q1⟩ := zz
  exact thn (hr pos pins s1 σ H1 _ I1 q1) fun us s2 ⟨xs, H2, I2, r2, q2⟩ => ⟨x :: xs, H2, I2, .cons r1 r2, q2⟩
noncomputable def tTup (t : TA) : TE := fun σ H Q => t σ H fun xs H1 => xs.length ≤ sizeLine ∧ ∀ p, H1 p = none → Q (.ref p) (upd H1 p (.tup xs))
noncomputable def tLst (t : TA) : TE := fun σ H Q => t σ H fun xs H1 => xs.length ≤ sizeLine ∧ ∀ p, H1 p = none → Q (.ref p) (upd H1 p (.lst xs))
theorem pe_tup {x1} (h : PA X es t) : PE X (.Tuple es x1 pos) (tTup t) := by
  intro pins s σ H Q I hq
  refine wpAny_Tuple_spliced (thn (h pos pins s σ H _ I hq) fun us s1 ⟨xs, H1, I1, r, z, q⟩ => ⟨by rw [← r.length]; exact z, ?_⟩)
  have hf : H1 s1.heap.objs.size = none := I1.hok.fresh (Nat.le_refl _)
  refine ⟨.ref s1.heap.objs.size, upd H1 s1.heap.objs.size (.tup xs), I1.laid (t' := s1.toks) (fun b u e => Heap.get?_push_of_some _ e) (Nat.le_refl _) ?_, rfl, q _ hf⟩
  exact ⟨z, us, r, ⟨_, Heap.get?_push_size _ rfl, rfl, _, rfl⟩⟩
theorem pe_lst (h : PA X es t) : PE X (.List es pos) (tLst t) := by
  intro pins s σ H Q I hq
  refine wpAny_List_spliced (thn (h pos pins s σ H _ I hq) fun us s1 ⟨xs, H1, I1, r, z, q⟩ => ⟨by rw [← r.length]; exact z, ?_⟩)
  have hf : H1 s1.heap.objs.size = none := I1.hok.fresh (Nat.le_refl _)
  refine ⟨.ref s1.heap.objs.size, upd H1 s1.heap.objs.size (.lst xs), I1.laid (t' := s1.toks) (fun b u e => Heap.get?_push_of_some _ e) (Nat.le_refl _) ?_, rfl, q _ hf⟩
  exact ⟨z, us, 0, r, Heap.get?_push_size _ rfl⟩
end
noncomputable abbrev Sp := List V → Hp → VK → XK → Prop
noncomputable abbrev CXT := List Env → Hp → Shared → XK → Value → Shared → Prop
structure Env0 (P : Program) (w : World) (K : PySem.W.Frag) (mg : Str → Option Value) (base : Heap) (A : Around) (outer : List Env) (s : Shared) (H : Hp) : Prop where
  frames : A.frames = some outer
  mod : Mod K mg base
  bs : ∀ b o, base.get? b = some o → s.heap.get? b = some o ∧ H b = none
  bsz : base.objs.size ≤ s.heap.objs.size
  funs : s.heap.FunFrames base outer
  frf : ∀ b ∈ frs outer, H b = none
  hok : HOk P w H s.heap
  bare : AllBare s.gens
noncomputable def CE (outer : List Env) (P : Program) (w : World) (H : Hp) (s : Shared) (Q : VK) (u : Value) (s' : Shared) : Prop :=
  ∃ v H', s'.os = s.os ∧ AllBare s'.gens ∧ Un (frs outer) [] H H' s.heap s'.heap ∧ HOk P w H' s'.heap ∧ RelV v u ∧ Q v H'
noncomputable def CR (CX : CXT) (outer : List Env) (P : Program) (w : World) (H : Hp) (s : Shared) (Q : VK) (E : XK) (r : Result) (s' : Shared) : Prop :=
  match r with
  | .ok (.ret u) => CE outer P w H s Q u s'
  | .ok _ => False
  | .error e => CX outer H s E e s'
structure FnOk (P : Program) (w : World) (K : PySem.W.Frag) (mg : Str → Option Value) (base : Heap) (CX : CXT) (k : Nat) (f : Addr) (fd : FuncData) (ps : List Str) (sp : Sp) : Prop where
  len : ∀ vs H Q E, sp vs H Q E → vs.length = ps.length
  run : ∀ (A : Around) (outer : List Env) (s : Shared) (H : Hp) (args : Args) (us : List Value) (vs : List V) (Q : VK) (E : XK), Room k A → Env0 P w K mg base A outer s H → BindsTo s fd args (ps.zip us) → Vals vs us → sp vs H Q E →
    codeAny (model P w) A (.call (.ref f) args) (CR CX outer P w H s Q E) s
theorem FnOk.imp {P : Program} {w : World} {K : PySem.W.Frag} {mg : Str → Option Value} {base : Heap} {CX : CXT} {k : Nat} {f : Addr} {fd : FuncData} {ps : List Str} {sp sp' : Sp} (F : FnOk P w K mg base CX k f fd ps sp)
    (h : ∀ vs H Q E, sp' vs H Q E → sp vs H Q E) : FnOk P w K mg base CX k f fd ps sp' :=
  ⟨fun vs H Q E q => F.len vs H Q E (h _ _ _ _ q), fun A outer s H args us vs Q E hr he hb hv hs => F.run A outer s H args us vs Q E hr he hb hv (h _ _ _ _ hs)⟩
theorem Env0.make {P : Program} {w : World} {K : PySem.W.Frag} {mg : Str → Option Value} {base : Heap} {A : Around} {outer : List Env} {s : Shared} {H : Hp} (e : Env0 P w K mg base A outer s H) (C : Addr) (us : List Value) (kw : List (Str × Value)) :
    Env0 P w K mg base (A.under (.builtin "type.__call__" ⟨.ref C :: us, kw⟩)) outer s H := ⟨by first | exact e.frames | (simpa [Around.under, Code.envs, Code.isFrame, pushEnvs] using e.frames), e.mod, e.bs, e.bsz, e.funs, e.frf, e.hok, e.bare⟩
section
variable {X : Cx} {pins : List (Addr × Obj)} {σ : St} {H : Hp} {s s' : Shared}
theorem Inv.env0 (I : Inv X pins σ H s) : Env0 X.prog X.w X.K X.mg X.base X.A X.stack s H :=
  ⟨I.ok.frames, I.ok.mod, I.bs, Nat.le_trans I.ok.bsz I.sz, I.stack, I.stkFree, I.hok, I.bare⟩
theorem Inv.after {Q : VK} {u : Value} (I : Inv X pins σ H s) (h : CE X.stack X.prog X.w H s Q u s') : EP X pins σ Q u s' := by
  obtain ⟨v, H', os, bare, un, hok, r, q⟩ := h
  obtain ⟨hh, g, d, t, os'⟩ := s'
  obtain rfl : os' = s.os := os
  exact ⟨v, H', I.call (h' := hh) (g' := g) (d' := d) (t' := t) (ch := []) un hok bare (fun b z => absurd z (by simp)), r, q⟩
end
noncomputable def tCall (sp : Sp) (dvs : List V) (E : XK) (t : TA) : TE := fun σ H Q => t σ H fun vs H1 => sp (vs ++ dvs) H1 Q E
noncomputable def tMeth (C : Addr) (m : Str) (sp : Sp) (dvs : List V) (E : XK) (ta : TE) (t : TA) : TE := fun σ H Q => ta σ H fun x H1 => ∃ a dx fs, x = .ref a ∧ H1 a = some (.ins C dx fs) ∧ fs.lookup m = none ∧
  t σ H1 fun vs H2 => sp (x :: (vs ++ dvs)) H2 Q E
noncomputable def tMake (C : Addr) (sp : Sp) (dvs : List V) (E : XK) (t : TA) : TE := fun σ H Q => t σ H fun vs H1 => ∀ x dx, H1 x = none → H1 dx = none → dx ≠ x →
  sp (.ref x :: (vs ++ dvs)) (upd (upd H1 dx (.own x)) x (.ins C dx [])) (fun v H2 => v = .non ∧ Q (.ref x) H2) E
noncomputable def Binds (K : PySem.W.Frag) (fd : FuncData) (ps : List Str) (ds : List Value) : Prop :=
  ∀ (s : Shared) (us : List Value), K.In s.heap → (us ++ ds).length = ps.length → BindsTo s fd ⟨us, []⟩ (ps.zip (us ++ ds))
theorem Binds.all {K : PySem.W.Frag} {fd : FuncData} {ps : List Str} (h : ∀ us : List Value, us.length = ps.length → bindArgs fd ⟨us, []⟩ = pure (ps.zip us)) : Binds K fd ps [] := fun s us _ hl => by
  rw [List.append_nil] at hl ⊢
  exact .of_eq (h us hl)
noncomputable def Passes (CX : CXT) (X : Cx) (E : XK) : Prop := ∀ (pins : List (Addr × Obj)) (σ : St) (H : Hp) (s : Shared) (e : Value) (s' : Shared), Inv X pins σ H s → CX X.stack H s E e s' → X.xe e s'
section
variable {X : Cx} {CX : CXT} {k : Nat} {f C : Addr} {fd : FuncData} {ps : List Str} {sp : Sp} {dvs : List V} {ds : List Value} {E : XK} {x m : Str} {p pos apos : Pos} {e o : Expr} {es : List Expr} {ta : TE} {t : TA}
theorem run_fn {pins : List (Addr × Obj)} {σ : St} {H : Hp} {s : Shared} {Q : VK} {us : List Value} {vs : List V} (F : FnOk X.prog X.w X.K X.mg X.base CX k f fd ps sp) (hr : Room k X.A) (hb : Binds X.K fd ps ds) (hd : Vals dvs ds) (hx : Passes CX X E)
    (I : Inv X pins σ H s) (r : Vals vs us) (h : sp (vs ++ dvs) H Q E) : wpAny (model X.prog X.w) X.A (call (.ref f) us) (EP X pins σ Q) X.xe s := by
  have r2 : Vals (vs ++ dvs) (us ++ ds) := r.append hd
  have hl : (us ++ ds).length = ps.length := by rw [← r2.length]; exact F.len _ _ _ _ h
  refine wpAny_call (codeAny_mono (F.run X.A X.stack s H ⟨us, []⟩ (us ++ ds) (vs ++ dvs) Q E hr I.env0 (hb s us I.kIn hl) r2 h) fun r s' hq => ?_)
  cases r with
  | error e => exact hx pins σ H s e s' I hq
  | ok fl =>
    cases fl with
    | ret u => exact I.after hq
    | next => exact False.elim hq
    | brk => exact False.elim hq
    | cont => exact False.elim hq
theorem pe_call (F : FnOk X.prog X.w X.K X.mg X.base CX k f fd ps sp) (hr : Room k X.A) (hg : Gl X x) (hm : X.mg x = some (.ref f)) (hk : PySem.W.keepIn X.K (.ref f) = true) (hb : Binds X.K fd ps ds) (hd : Vals dvs ds) (hx : Passes CX X E)
    (ha : PA X (e :: es) t) (hdb : (x == ("__debug__" : Str)) = false := by decide) (he : starEach (e :: es) X.env = (false, eval e X.env) :: starEach es X.env := by rfl) (hpl : (backTo pos (starEach es X.env)).any (·.1) = false := by rfl) :
    PE X (.Call (.Name x p) (e :: es) [] pos) (tCall sp dvs E t) := by
  intro pins s σ H Q I h
  refine wpAny_Call_Name_kw (ld_glob I hg hm ?_ hdb)
  refine PySem.W.callWith_K (h₀ := X.base) I.ok.mod.kin hk (thn (ha pos pins s σ H _ I h) fun us s1 ⟨vs, H1, I1, r, q⟩ => ⟨I1.kIn, ?_⟩) he hpl
  exact run_fn F hr hb hd hx I1 r q
theorem pe_meth {pl : Sem Bool} (he : PE X o ta) (c : Cls X.K C) (hm : Meth X.K C m f) (F : FnOk X.prog X.w X.K X.mg X.base CX k f fd ps sp) (hr : Room k X.A) (hb : Binds X.K fd ps ds) (hd : Vals dvs ds) (hx : Passes CX X E) (ha : PA X (e :: es) t)
    (hst : starEach (e :: es) X.env = (false, eval e X.env) :: starEach es X.env := by rfl) (hpl : (backTo pos (starEach es X.env)).any (·.1) = false := by rfl)
    (ht : eval (.Call (.Attribute o m apos) (e :: es) [] pos) X.env = (do
      let ov ← eval o X.env
      standAt apos.atName
      let (f, first) ← holding [ov] (getMethod ov m pl)
      callWith pos f first (backTo pos (starEach (e :: es) X.env)) (backToKw pos (keywordEach [] X.env))) := by rfl) :
    PE X (.Call (.Attribute o m apos) (e :: es) [] pos) (tMeth C m sp dvs E ta t) := by
  intro pins s σ H Q I h
  refine PySem.W.methodCall_KW (pl := pl) (thn (he pins s σ H _ I h) fun u s1 ⟨x, H1, I1, rx, a, dx, fs, ex, ea, l, q⟩ => ?_) ht
  subst ex
  obtain rfl : u = Value.ref a := rx
  refine getmeth_ok I1 ea c hm l ?_
  refine PySem.W.callWith_K (first := [.ref a]) (h₀ := X.base) I.ok.mod.kin hm.kp (thn (ha pos pins s1 σ H1 _ I1 q) fun us s2 ⟨vs, H2, I2, r, q2⟩ => ⟨I2.kIn, ?_⟩) hst hpl
  exact run_fn (us := .ref a :: us) (vs := .ref a :: vs) F hr hb hd hx I2 (.cons rfl r) q2
theorem pe_meth0 {pl : Sem Bool} (he : PE X o ta) (c : Cls X.K C) (hm : Meth X.K C m f) (F : FnOk X.prog X.w X.K X.mg X.base CX k f fd ps sp) (hr : Room k X.A) (hb : Binds X.K fd ps ds) (hd : Vals dvs ds) (hx : Passes CX X E)
    (ht : eval (.Call (.Attribute o m apos) [] [] pos) X.env = (do
      let ov ← eval o X.env
      standAt apos.atName
      let (f, first) ← holding [ov] (getMethod ov m pl)
      callWith pos f first (backTo pos (starEach [] X.env)) (backToKw pos (keywordEach [] X.env))) := by rfl) :
    PE X (.Call (.Attribute o m apos) [] [] pos) (tMeth C m sp dvs E ta tNil) := by
  intro pins s σ H Q I h
  refine PySem.W.methodCall_KW (pl := pl) (thn (he pins s σ H _ I h) fun u s1 ⟨x, H1, I1, rx, a, dx, fs, ex, ea, l, q⟩ => ?_) ht
  subst ex
  obtain rfl : u = Value.ref a := rx
  refine getmeth_ok I1 ea c hm l ?_
  exact PySem.W.callWith_K0 (first := [.ref a]) I1.kIn hm.kp (run_fn (us := [.ref a]) (vs := [.ref a]) F hr hb hd hx I1 (.cons rfl .nil) q)
structure Mk (K : PySem.W.Frag) (C f : Addr) : Prop where
  makes : PySem.W.makesIn K C = true
  init : PySem.W.findIn K (.ref C) "__init__" = some (some (.ref f))
  fn : PySem.W.isFn K (.ref f) = true
  kp : PySem.W.keepIn K (.ref C) = true
theorem run_make {pins : List (Addr × Obj)} {σ : St} {H : Hp} {s : Shared} {Q : VK} {us : List Value} {vs : List V} (M : Mk X.K C f) (F : FnOk X.prog X.w X.K X.mg X.base CX k f fd ps sp) (hr : Room (k + 1) X.A) (hb : Binds X.K fd ps ds) (hd : Vals dvs ds)
    (hx : Passes CX X E) (I : Inv X pins σ H s) (r : Vals vs us)
    (h : ∀ x dx, H x = none → H dx = none → dx ≠ x → sp (.ref x :: (vs ++ dvs)) (upd (upd H dx (.own x)) x (.ins C dx [])) (fun v H2 => v = .non ∧ Q (.ref x) H2) E) :
    wpAny (model X.prog X.w) X.A (call (.ref C) us) (EP X pins σ Q) X.xe s := by
  have hq := h (s.heap.objs.size + 1) s.heap.objs.size (I.hok.fresh (Nat.le_succ _)) (I.hok.fresh (Nat.le_refl _)) (Nat.ne_of_lt (Nat.lt_succ_self _))
  have I2 := Inv.made (C := C) I
  have r2 : Vals (V.ref (s.heap.objs.size + 1) :: (vs ++ dvs)) (Value.ref (s.heap.objs.size + 1) :: (us ++ ds)) := .cons rfl (r.append hd)
  have hl : (Value.ref (s.heap.objs.size + 1) :: us ++ ds).length = ps.length := by
    have e := r2.length
    rw [F.len _ _ _ _ hq] at e
    exact e.symm
  refine wpAny_call (make_map (f := f) I.kIn M.makes M.init (beq_iff_eq.mp M.fn) (codeAny_mono (F.run _ X.stack _ _ ⟨Value.ref (s.heap.objs.size + 1) :: us, []⟩ (Value.ref (s.heap.objs.size + 1) :: (us ++ ds)) _ _ E (hr.make C us [])
    (I2.env0.make C us []) (hb _ (Value.ref (s.heap.objs.size + 1) :: us) I2.kIn hl) r2 hq) fun r s' hq' => ?_))
  cases r with
  | error e => exact hx pins σ _ _ e s' I2 hq'
  | ok fl =>
    cases fl with
    | ret u =>
      obtain ⟨v, H', I3, rv, ev, q3⟩ := I2.after hq'
      subst ev
      exact ⟨rv, ⟨V.ref (s.heap.objs.size + 1), H', I3, rfl, q3⟩⟩
    | next => exact False.elim hq'
    | brk => exact False.elim hq'
    | cont => exact False.elim hq'
theorem pe_make (M : Mk X.K C f) (F : FnOk X.prog X.w X.K X.mg X.base CX k f fd ps sp) (hr : Room (k + 1) X.A) (hg : Gl X x) (hm : X.mg x = some (.ref C)) (hb : Binds X.K fd ps ds) (hd : Vals dvs ds) (hx : Passes CX X E)
    (ha : PA X (e :: es) t) (hdb : (x == ("__debug__" : Str)) = false := by decide) (he : starEach (e :: es) X.env = (false, eval e X.env) :: starEach es X.env := by rfl) (hpl : (backTo pos (starEach es X.env)).any (·.1) = false := by rfl) :
    PE X (.Call (.Name x p) (e :: es) [] pos) (tMake C sp dvs E t) := by
  intro pins s σ H Q I h
  refine wpAny_Call_Name_kw (ld_glob I hg hm ?_ hdb)
  refine PySem.W.callWith_K (h₀ := X.base) I.ok.mod.kin M.kp (thn (ha pos pins s σ H _ I h) fun us s1 ⟨vs, H1, I1, r, q⟩ => ⟨I1.kIn, ?_⟩) he hpl
  exact run_make M F hr hb hd hx I1 r q
end
section
variable {X : Cx} {CX : CXT} {k : Nat} {f C : Addr} {fd : FuncData} {ps ks : List Str} {sp : Sp} {E : XK} {x m : Str} {p pos apos kpos : Pos} {e o : Expr} {es : List Expr} {kws : List Keyword} {te ta : TE} {t tk : TA} {nm : Option Str}
variable {g : List Value → List Value → List Value} {gV : List V → List V → List V}
end
structure FnScope (N P : List Str) (sc : Scope) : Prop where
  kind : sc.kind = .function
  co : sc.isCoroutine = false
  gen : sc.isGenerator = false
  nd : N.Nodup
  pre : N.take P.length = P
  par : ∀ x ∈ P, sc.names.lookup x = some .local ∨ sc.names.lookup x = some .cell
  nofree : ∀ y ∈ sc.names, y.2 ≠ .free
theorem bindL_out {kindOf : Str → Option NameKind} {x : Str} : ∀ {binds : List (Str × Value)} {m : Str → Option Value}, (∀ v, (x, v) ∉ binds) → bindL kindOf binds m x = m x
  | [], _, _ => rfl
  | (n, v) :: r, m, h => by
    unfold bindL
    rw [bindL_out fun w hw => h w (List.mem_cons_of_mem _ hw)]
    split
    · have : x ≠ n := by rintro rfl; exact h v List.mem_cons_self
      simp [this]
    · rfl
theorem bindC_out {kindOf : Str → Option NameKind} {x : Str} : ∀ {binds : List (Str × Value)} {m : Str → Option Value}, (∀ v, (x, v) ∉ binds) → bindC kindOf binds m x = m x
  | [], _, _ => rfl
  | (n, v) :: r, m, h => by
    unfold bindC
    rw [bindC_out fun w hw => h w (List.mem_cons_of_mem _ hw)]
    split
    · rfl
    · have : x ≠ n := by rintro rfl; exact h v List.mem_cons_self
      simp [this]
theorem bindL_get {kindOf : Str → Option NameKind} {x : Str} {v : Value} : ∀ {P : List Str} {vs : List Value} {i : Nat} {m : Str → Option Value}, P.Nodup → P[i]? = some x → vs[i]? = some v → kindOf x = some .local →
    bindL kindOf (P.zip vs) m x = some v
  | [], _, _, _, _, h, _, _ => by simp at h
  | _ :: _, [], _, _, _, _, h, _ => by simp at h
  | p :: P, w :: vs, 0, m, nd, h1, h2, hk => by
    simp at h1 h2; subst h1; subst h2
    show bindL kindOf ((p, w) :: P.zip vs) m p = _
    unfold bindL
    rw [bindL_out fun v hv => (List.nodup_cons.mp nd).1 (List.of_mem_zip hv).1, if_pos hk]
    simp
  | p :: P, w :: vs, i + 1, m, nd, h1, h2, hk => by
    show bindL kindOf ((p, w) :: P.zip vs) m x = _
    unfold bindL
    exact bindL_get (i := i) (List.nodup_cons.mp nd).2 (by simpa using h1) (by simpa using h2) hk
theorem bindC_get {kindOf : Str → Option NameKind} {x : Str} {v : Value} : ∀ {P : List Str} {vs : List Value} {i : Nat} {m : Str → Option Value}, P.Nodup → P[i]? = some x → vs[i]? = some v → kindOf x ≠ some .local →
    bindC kindOf (P.zip vs) m x = some v
  | [], _, _, _, _, h, _, _ => by simp at h
  | _ :: _, [], _, _, _, _, h, _ => by simp at h
  | p :: P, w :: vs, 0, m, nd, h1, h2, hk => by
    simp at h1 h2; subst h1; subst h2
    show bindC kindOf ((p, w) :: P.zip vs) m p = _
    unfold bindC
    rw [bindC_out fun v hv => (List.nodup_cons.mp nd).1 (List.of_mem_zip hv).1, if_neg hk]
    simp
  | p :: P, w :: vs, i + 1, m, nd, h1, h2, hk => by
    show bindC kindOf ((p, w) :: P.zip vs) m x = _
    unfold bindC
    exact bindC_get (i := i) (List.nodup_cons.mp nd).2 (by simpa using h1) (by simpa using h2) hk
noncomputable def start (N : List Str) (vs : List V) : St := vs.map some ++ List.replicate (N.length - vs.length) none
noncomputable def cxOf (CX : CXT) (P : Program) (w : World) (K : PySem.W.Frag) (mg : Str → Option Value) (base : Heap) (N : List Str) (qual : Str) (scope : Scope) (f : Addr) (cd : Value) (A : Around) (outer : List Env) (s : Shared) (H : Hp) (E : XK) : Cx where
  prog := P
  w := w
  K := K
  mg := mg
  base := base
  A := A.deeper (envOfC qual scope s.heap.objs.size f cd)
  N := N
  s₀ := s
  H₀ := H
  env := envOfC qual scope s.heap.objs.size f cd
  outer := outer
  stack := envOfC qual scope s.heap.objs.size f cd :: outer
  ex := []
  calm := true
  fn := fun _ => true
  pn := []
  xe := fun e s' => wpAny (model P w) (A.deeper (envOfC qual scope s.heap.objs.size f cd)) (leaving (envOfC qual scope s.heap.objs.size f cd) e) (fun _ s'' => CX outer H s E e s'') (fun e' s'' => CX outer H s E e' s'') s'
theorem cell_has {sc : Scope} {n : Nat} {x : Str} (h : sc.names.lookup x = some .cell) : ∃ c, (cellsFrom n sc.names []).lookup x = some c := by
  have q := PySem.W.cellsFrom_some sc.names n [] (.inl h)
  exact Option.isSome_iff_exists.mp q
theorem inv_start {CX : CXT} {P : Program} {w : World} {K : PySem.W.Frag} {mg : Str → Option Value} {base : Heap} {N ps : List Str} {qual : Str} {scope : Scope} {f : Addr} {cd : Value} {A : Around} {outer : List Env} {s s1 : Shared} {H : Hp} {E : XK} {us : List Value} {vs : List V}
    (S : FnScope N ps scope) (hd : A.handled = none) (e0 : Env0 P w K mg base A outer s H) (hl : vs.length = ps.length) (r : Vals vs us)
    (x : InCallC s s.heap.objs.size (bindL (envOfC qual scope s.heap.objs.size f cd).kindOf (ps.zip us) fun _ => none) (cellsFrom (s.heap.objs.size + 1) scope.names []) (bindC (envOfC qual scope s.heap.objs.size f cd).kindOf (ps.zip us) fun _ => none) s1) :
    Inv (cxOf CX P w K mg base N qual scope f cd A outer s H E) [] (start N vs) H s1 := by
  have hpl : ps.length ≤ N.length := by have := congrArg List.length S.pre; rw [List.length_take] at this; omega
  obtain ⟨h1, tk, rfl, hk⟩ := x.done
  have noA : ∀ b : Addr, b ∉ (cxOf CX P w K mg base N qual scope f cd A outer s H E).ex := fun b z => absurd (show b ∈ ([] : List Addr) from z) (by simp)
  refine ⟨⟨e0.mod, S.kind, rfl, rfl, Nat.le_refl _, fun y z c h1 h2 => ?_, fun y hy => ?_, fun y c _ h => ?_, fun _ => hd, Around.frames_deeper e0.frames, .inr ⟨rfl, rfl⟩, fun b z => absurd z (noA b), e0.bs, e0.bsz, fun b _ _ => noA b, fun b z => absurd z (noA b), e0.funs, e0.frf⟩,
    rfl, e0.bare, Un.kept hk, ⟨_, x.toInCall.ns, fun i y v h1 h2 h3 => ?_⟩, fun y c h => ⟨_, x.cell y c h⟩, e0.hok.fresh (Nat.le_refl _), fun y c h => ?_, fun p hp => absurd (show p ∈ ([] : List (Addr × Obj)) from hp) (by simp), e0.hok.kept hk, ?_⟩
  · exact name_of_addr x.apart (PySem.mem_of_lookup h1) (PySem.mem_of_lookup h2)
  · have hy : scope.names.lookup y = some .cell ∨ scope.names.lookup y = some .free := hy
    rcases hy with hy | hy
    · exact cell_has hy
    · exact absurd rfl (S.nofree _ (PySem.mem_of_lookup hy))
  · exact Nat.le_of_lt (x.above y c (PySem.mem_of_lookup h))
  · have hi : i < vs.length := by
      unfold start at h2
      by_cases hi : i < vs.length
      · exact hi
      · rw [List.getElem?_append_right (by simpa using hi)] at h2
        rw [List.getElem?_replicate] at h2
        split at h2 <;> cases h2
    have ha : vs[i]? = some v := by
      unfold start at h2
      rw [List.getElem?_append_left (by simpa using hi), List.getElem?_map] at h2
      cases e : vs[i]? with
      | none => rw [e] at h2; cases h2
      | some a => rw [e] at h2; cases h2; rfl
    obtain ⟨u, hu, rv⟩ := r.get ha
    have hp : ps[i]? = some y := by
      rw [← S.pre, List.getElem?_take_of_lt (by omega)]; exact h1
    have ndP : ps.Nodup := by rw [← S.pre]; exact S.nd.sublist (List.take_sublist _ _)
    refine ⟨u, rv, ?_⟩
    rcases S.par y (List.mem_of_getElem? hp) with k | k
    · exact .inl ⟨k, bindL_get ndP hp hu k⟩
    · obtain ⟨c, e⟩ := cell_has (n := s.heap.objs.size + 1) k
      refine .inr ⟨.inl k, c, e, ?_⟩
      have q := x.cell y c e
      rw [bindC_get ndP hp hu (by show scope.names.lookup y ≠ _; rw [k]; decide)] at q
      exact q
  · exact e0.hok.fresh (Nat.le_of_lt (x.above y c (PySem.mem_of_lookup h)))
  · unfold start
    show _ = N.length
    rw [List.length_append, List.length_map, List.length_replicate]
    omega
theorem fn_of {CX : CXT} {P : Program} {w : World} {K : PySem.W.Frag} {mg : Str → Option Value} {base : Heap} {k : Nat} {f : Addr} {name qual : Str} {params : Arguments} {body : List Stmt} {scope : Scope} {dV kV doc pm cdv ct oc : Value} {an od : Option Addr}
    {osl : Array (Option Value)} {N ps : List Str} {sp : Sp} (lk : K.lookup f = some ⟨oc, od, .func (PySem.W.fnOf name qual params body scope dV kV doc pm an cdv ct), osl⟩) (hcd : PySem.W.codeIn K cdv qual = true) (S : FnScope N ps scope)
    (len : ∀ vs H Q E, sp vs H Q E → vs.length = ps.length)
    (hbody : ∀ (A : Around) (outer : List Env) (s : Shared) (H : Hp) (vs : List V) (Q : VK) (E : XK), Room k (A.deeper (envOfC qual scope s.heap.objs.size f cdv)) → sp vs H Q E →
      ∃ t, PSs (cxOf CX P w K mg base N qual scope f cdv A outer s H E) body t ∧ t { nx := fun _ H' => Q .non H', rt := Q } (start N vs) H) :
    FnOk P w K mg base CX (k + 1) f (PySem.W.fnOf name qual params body scope dV kV doc pm an cdv ct) ps sp := by
  refine ⟨len, fun A outer s H args us vs Q E hr e0 hb r hsp => ?_⟩
  have hl := len _ _ _ _ hsp
  have KX : K.In s.heap := e0.mod.kin.keeps fun b o e => (e0.bs b o e).1
  have lim : s.heap.NoLimit := e0.mod.nolimit.keeps fun b o e => (e0.bs b o e).1
  have hkind : ∀ y ∈ ps.zip us, scope.names.lookup y.1 = some .local ∨ (scope.names.lookup y.1 = some .cell ∧ ((cellsFrom (s.heap.objs.size + 1) scope.names []).lookup y.1).isSome = true) := fun ⟨n, v⟩ hy => by
    rcases S.par n (List.of_mem_zip hy).1 with q | q
    · exact .inl q
    · exact .inr ⟨q, PySem.W.cellsFrom_some _ _ _ (.inl q)⟩
  refine codeAny_call_function hr.depth (KX _ _ lk) rfl S.co S.gen rfl (PySem.W.codeRec_of KX hcd) (hb _ _ _ _ ?_)
  refine wpAny_newFunctionEnv_cells S.kind hkind fun env he s1 x => ?_
  subst he
  refine ⟨lim.keeps x.toInCall.keep, codeAny_func ?_⟩
  obtain ⟨t, ht, hq⟩ := hbody A outer s H vs Q E (hr.deeper _) hsp
  have I : Inv (cxOf CX P w K mg base N qual scope f cdv A outer s H E) [] (start N vs) H s1 := inv_start S hr.hd e0 hl r x
  refine wpAny_mono (ht [] s1 (start N vs) H _ I hq) (fun fl s' hs => ?_) fun e s' hs => hs
  have fin : ∀ {σ' : St} {H' : Hp} {v : V} {u : Value}, Inv (cxOf CX P w K mg base N qual scope f cdv A outer s H E) [] σ' H' s' → RelV v u → Q v H' → CE outer P w H s Q u s' :=
    fun {σ' H' v u} J rv q => ⟨v, H', J.os, J.bare, J.base, J.hok, rv, q⟩
  cases fl with
  | ret u =>
    obtain ⟨v, σ', H', J, rv, q⟩ := hs
    exact fin J rv q
  | next =>
    obtain ⟨σ', H', J, q⟩ := hs
    exact fin (v := V.non) (u := Value.none) J rfl q
  | brk =>
    obtain ⟨_, _, _, q⟩ := hs
    exact False.elim q
  | cont =>
    obtain ⟨_, _, _, q⟩ := hs
    exact False.elim q
end L2
namespace L2
open PySem PySem.Spec PyProof.Rows
section
variable {X : Cx} {x : Str} {p pos : Pos} {e : Expr} {es : List Expr} {t : TA} {id T : String} {r : List V → Hp → VK → Prop}
noncomputable def tCB (r : List V → Hp → VK → Prop) (t : TA) : TE := fun σ H Q => t σ H fun vs H1 => r vs H1 Q
theorem pe_callB (hc : CallR X (.builtin id) r) (hg : Gl X x) (hm : X.mg x = none) (hv : bootBuiltins x = some (.builtin id)) (ha : PA X (e :: es) t) (hn : x ≠ "__name__" := by decide) (hdb : (x == ("__debug__" : Str)) = false := by decide)
    (he : starEach (e :: es) X.env = (false, eval e X.env) :: starEach es X.env := by rfl) (hpl : (backTo pos (starEach es X.env)).any (·.1) = false := by rfl) : PE X (.Call (.Name x p) (e :: es) [] pos) (tCB r t) := by
  intro pins s σ H Q I h
  refine wpAny_Call_Name_kw (ld_blt I hg hm hv ?_ hn hdb)
  exact PyProof.Rows.callWith_builtin1 (thn (ha pos pins s σ H _ I h) fun us s1 ⟨vs, H1, I1, r1, q1⟩ => hc pins s1 σ H1 vs us Q I1 r1 q1) he hpl
theorem pe_callTy (hc : CallR X (.type T) r) (hg : Gl X x) (hm : X.mg x = none) (hv : bootBuiltins x = some (.type T)) (ha : PA X (e :: es) t) (hn : x ≠ "__name__" := by decide) (hdb : (x == ("__debug__" : Str)) = false := by decide)
    (he : starEach (e :: es) X.env = (false, eval e X.env) :: starEach es X.env := by rfl) (hpl : (backTo pos (starEach es X.env)).any (·.1) = false := by rfl) : PE X (.Call (.Name x p) (e :: es) [] pos) (tCB r t) := by
  intro pins s σ H Q I h
  refine wpAny_Call_Name_kw (ld_blt I hg hm hv ?_ hn hdb)
  exact PyProof.Rows.callWith_type1 (thn (ha pos pins s σ H _ I h) fun us s1 ⟨vs, H1, I1, r1, q1⟩ => hc pins s1 σ H1 vs us Q I1 r1 q1) he hpl
end
end L2
namespace HT
open PySem PyProof.Rows
section
open PySem.SeqAt
open PySem.AutoSeq1 (wpAny_loadPart')
open PySem.MeetsSeq PySem.MeetsSeq2 PySem.MeetsSeq3
end
section
variable {prog : Program} {w : World} {A : Around} {E : Value → Shared → Prop} {s : Shared}
noncomputable def sIx (n d : Nat) : Option Int → Nat
  | none => d
  | some v => if v < 0 then (v + (n : Int)).toNat else min v.toNat n
end
end HT
namespace L2
open PySem PySem.Spec PyProof.Rows
noncomputable abbrev TO := St → Hp → (Option Int → Hp → Prop) → Prop
noncomputable def PO (X : Cx) (e : Option Expr) (t : TO) : Prop :=
  ∀ (pins : List (Addr × Obj)) (s : Shared) (σ : St) (H : Hp) (Q : Option Int → Hp → Prop), Inv X pins σ H s → t σ H Q →
    wpAny (model X.prog X.w) X.A (evalPart e X.env) (fun u s' => ∃ o H', Inv X pins σ H' s' ∧ IsPart u o ∧ Q o H') X.xe s
noncomputable def tNoPart : TO := fun _ H Q => Q none H
noncomputable def tPart (t : TE) : TO := fun σ H Q => t σ H fun x H1 => ∃ i, x = .int i ∧ Q (some i) H1
section
variable {X : Cx} {e : Expr} {te : TE} {lo hi : Option Expr} {tl th : TO} {pos p2 : Pos}
theorem po_none : PO X none tNoPart := by
  intro pins s σ H Q I h
  rw [evalPart_none]
  exact wpAny_pure ⟨none, H, I, .none, h⟩
theorem po_some (h : PE X e te) : PO X (some e) (tPart te) := by
  intro pins s σ H Q I hw
  rw [evalPart_some]
  refine thn (h pins s σ H _ I hw) fun u s1 zz => ?_
  obtain ⟨x, H1, I1, r1, q1⟩ := zz
  obtain ⟨i, rfl, q⟩ := q1
  obtain ⟨t, rfl⟩ := r1
  exact ⟨some i, H1, I1, .int i t, q⟩
noncomputable def SlR (X : Cx) (r : V → Option Int → Option Int → Hp → VK → Prop) : Prop :=
  ∀ (pins : List (Addr × Obj)) (s : Shared) (σ : St) (H : Hp) (x : V) (v vl vu : Value) (lo hi : Option Int) (sl : Addr) (Q : VK), Inv X pins σ H s → RelV x v → s.heap.IsSliceOf sl vl vu .none → IsPart vl lo → IsPart vu hi → r x lo hi H Q →
    ∃ T id, typeLookup (.type T) "__getitem__" = pure (some (.builtin id)) ∧ s.TypeIs v T ∧ wpAny (model X.prog X.w) X.A (getItem v (.ref sl)) (EP X pins σ Q) X.xe s
noncomputable def tSl (r : V → Option Int → Option Int → Hp → VK → Prop) (te : TE) (tl th : TO) : TE := fun σ H Q => te σ H fun x H1 => tl σ H1 fun l H2 => th σ H2 fun u H3 => r x l u H3 Q
theorem pe_slice {r : V → Option Int → Option Int → Hp → VK → Prop} (hr : SlR X r) (he : PE X e te) (hl : PO X lo tl) (hu : PO X hi th) : PE X (.Subscript e (.Slice lo hi none p2) pos) (tSl r te tl th) := by
  intro pins s σ H Q I h
  refine Subscript_ (thn (he pins s σ H _ I h) fun v s1 zz => ?_)
  obtain ⟨x, H1, I1, r1, q1⟩ := zz
  refine wpAny_Slice (thn (hl pins s1 σ H1 _ I1 q1) fun vl s2 ⟨l, H2, I2, pl, q2⟩ => thn (hu pins s2 σ H2 _ I2 q2) fun vu s3 zz => ?_)
  obtain ⟨u, H3, I3, pu, q3⟩ := zz
  rw [evalPart_none]
  refine wpAny_pure ?_
  have I4 : Inv X pins σ H3 { s3 with heap := s3.heap.push { cls := .type "slice", data := .fields #[vl, vu, .none] } } := I3.kept (t' := s3.toks) fun b ob q => Heap.get?_push_of_some _ q
  obtain ⟨T, id, hT, ht, hg⟩ := hr pins { s3 with heap := s3.heap.push { cls := .type "slice", data := .fields #[vl, vu, .none] } } σ H3 x v vl vu l u s3.heap.objs.size Q I4 r1 (Heap.IsSliceOf.new ..) pl pu q3
  show wpAny (model X.prog X.w) X.A (subscriptTail e (.Slice lo hi none p2) v (.ref s3.heap.objs.size)) (EP X pins σ Q) X.xe { s3 with heap := s3.heap.push { cls := .type "slice", data := .fields #[vl, vu, .none] } }
  exact tail_any (ops := [.ref s3.heap.objs.size, v]) ht hT hg (by with_unfolding_all rfl)
noncomputable def cutV (xs : List V) (lo hi : Option Int) : List V := (xs.drop (HT.sIx xs.length 0 lo)).take (HT.sIx xs.length xs.length hi - HT.sIx xs.length 0 lo)
theorem cutV_length (xs : List V) (lo hi : Option Int) : (cutV xs lo hi).length ≤ xs.length := by
  unfold cutV
  rw [List.length_take, List.length_drop]
  omega
end
end L2
namespace L2
open PySem PySem.Spec PyProof.Rows
noncomputable def ixN (n : Nat) (i : Int) : Option Nat := if 0 ≤ i then (if i < n then some i.toNat else none) else if -(n : Int) ≤ i then some (i + n).toNat else none
noncomputable def atI {α : Type} (xs : List α) (i : Int) : Option α := (ixN xs.length i).bind fun j => xs[j]?
theorem ixN_seq {n : Nat} {i : Int} {j : Nat} (h : ixN n i = some j) : seqIndex? i n = some j ∧ j < n ∧ -(n : Int) ≤ i ∧ i < n := by
  unfold ixN at h
  by_cases h0 : 0 ≤ i
  · rw [if_pos h0] at h
    by_cases h1 : i < n
    · rw [if_pos h1] at h
      have e : i.toNat = j := Option.some.inj h
      exact ⟨by rw [seqIndex_of h0 h1, e], by omega, by omega, h1⟩
    · rw [if_neg h1] at h; cases h
  · rw [if_neg h0] at h
    by_cases h1 : -(n : Int) ≤ i
    · rw [if_pos h1] at h
      have e : (i + n).toNat = j := Option.some.inj h
      exact ⟨by rw [seqIndex_neg (by omega) h1, e], by omega, h1, by omega⟩
    · rw [if_neg h1] at h; cases h
theorem atI_get {α : Type} {xs : List α} {i : Int} {v : α} (h : atI xs i = some v) : ∃ j, seqIndex? i xs.length = some j ∧ xs[j]? = some v ∧ j < xs.length ∧ -(xs.length : Int) ≤ i ∧ i < xs.length := by
  unfold atI at h
  cases e : ixN xs.length i with
  | none => rw [e] at h; cases h
  | some j =>
    rw [e] at h
    obtain ⟨h1, h2, h3, h4⟩ := ixN_seq e
    exact ⟨j, h1, h, h2, h3, h4⟩
theorem atI_nat {α : Type} {xs : List α} {j : Nat} {v : α} (h : xs[j]? = some v) : atI xs (j : Int) = some v := by
  have hj : j < xs.length := (List.getElem?_eq_some_iff.mp h).1
  have e : ixN xs.length (j : Int) = some j := by
    unfold ixN
    rw [if_pos (by omega), if_pos (by omega)]; simp
  unfold atI; rw [e]; exact h
noncomputable def PlainIx (b : Expr) : Prop := ∀ o i, subscripted b false o i = operate [o, i] (getItem o i)
noncomputable def IxR (X : Cx) (r : R2) : Prop :=
  ∀ (value slice : Expr) (pins : List (Addr × Obj)) (s : Shared) (σ : St) (H : Hp) (x y : V) (v u : Value) (Q : VK), Inv X pins σ H s → RelV x v → RelV y u → r x y H Q →
    subscripted slice false v u = operate [v, u] (getItem v u) → wpAny (model X.prog X.w) X.A (subscriptTail value slice v u) (EP X pins σ Q) X.xe s
noncomputable def MtR (X : Cx) (id : String) (r : V → List V → Hp → VK → Prop) : Prop :=
  ∀ (pins : List (Addr × Obj)) (s : Shared) (σ : St) (H : Hp) (x : V) (xs : List V) (v : Value) (us : List Value) (Q : VK), Inv X pins σ H s → RelV x v → Vals xs us → r x xs H Q →
    wpAny (model X.prog X.w) X.A (call (.builtin id) (v :: us)) (EP X pins σ Q) X.xe s
section
variable {X : Cx} {a b : Expr} {ta tb : TE} {pos : Pos}
theorem pe_ix {r : R2} (hr : IxR X r) (ha : PE X a ta) (hb : PE X b tb) (hs : PlainIx b) : PE X (.Subscript a b pos) (tOp r ta tb) := by
  intro pins s σ H Q I h
  exact Subscript_ (binT ha hb I h fun v u s2 x y H2 I2 rx ry q => hr a b pins s2 σ H2 x y v u Q I2 rx ry q (hs _ _))
noncomputable def rIxL (K : PySem.W.Frag) : R2 := fun x y H Q => ∃ p xs i v, x = .ref p ∧ y = .int i ∧ SqL K H p xs ∧ atI xs i = some v ∧ Q v H
noncomputable def rIxT (K : PySem.W.Frag) : R2 := fun x y H Q => ∃ p xs i v, x = .ref p ∧ y = .int i ∧ SqT K H p xs ∧ atI xs i = some v ∧ Q v H
theorem ix_list : IxR X (rIxL X.K) := by
  intro value slice pins s σ H x y v u Q I rx ry h hs
  obtain ⟨p, xs, i, z, rfl, rfl, hq, he, q⟩ := h
  cases rx
  obtain ⟨t, rfl⟩ := ry
  obtain ⟨its, r, pl, hz⟩ := I.list hq
  obtain ⟨j, h1, h2, h3, h4, h5⟩ := atI_get he
  obtain ⟨w, ew, rw'⟩ := r.get h2
  have hl := r.length
  have hn := line63
  have fin : EP X pins σ Q w s := ⟨z, H, I, rw', q⟩
  by_cases h0 : 0 ≤ i
  · have hj : i.toNat = j := by
      rw [seqIndex_of h0 h5] at h1
      exact Option.some.inj h1
    exact item_listR pl.isList h0 (by omega) (by rw [hj]; simpa using ew) fin hs
  · have hj : (i + (its.toArray.size : Int)).toNat = j := by
      rw [seqIndex_neg (by omega) h4] at h1
      rw [List.size_toArray, ← hl]
      exact Option.some.inj h1
    exact subscriptTail_builtinR (x := w) pl.isList.typeIs slot_list_getitem.lookup
      (wpAny_getItem_list_neg (Q := fun r s' => r = w ∧ EP X pins σ Q r s') pl.isList (by omega) (by rw [List.size_toArray] <;> omega) (by omega) (by rw [hj]; simpa using ew) ⟨rfl, fin⟩) hs
theorem ix_tup : IxR X (rIxT X.K) := by
  intro value slice pins s σ H x y v u Q I rx ry h hs
  obtain ⟨p, xs, i, z, rfl, rfl, hq, he, q⟩ := h
  cases rx
  obtain ⟨t, rfl⟩ := ry
  obtain ⟨its, r, pl, hz⟩ := I.tuple hq
  obtain ⟨j, h1, h2, h3, h4, h5⟩ := atI_get he
  obtain ⟨w, ew, rw'⟩ := r.get h2
  have hl := r.length
  have hn := line63
  have fin : EP X pins σ Q w s := ⟨z, H, I, rw', q⟩
  exact subscriptTail_builtinR (x := w) pl.typeIs slot_tuple_getitem.lookup
    (getItem_tuple (j := j) (Q := fun r s' => r = w ∧ EP X pins σ Q r s') pl (by omega) (by omega) (by rw [List.size_toArray, ← hl]; exact h1) (by simpa using ew) ⟨rfl, fin⟩) hs
theorem mapSeq_set (its : List Value) (n j : Nat) (u : Value) : Obj.mapSeq (·.setIfInBounds j u) { cls := .type "list", data := .seq its.toArray n } = { cls := .type "list", data := .seq (its.set j u).toArray n } := by
  simp [Obj.mapSeq]
theorem Inv.lst {pins : List (Addr × Obj)} {σ : St} {H : Hp} {s : Shared} {p : Addr} {xs : List V} (I : Inv X pins σ H s) (h : H p = some (.lst xs)) :
    ∃ (its : List Value) (n : Nat), Vals xs its ∧ s.heap.get? p = some { cls := .type "list", data := .seq its.toArray n } ∧ xs.length ≤ sizeLine := by
  obtain ⟨z, its, n, r, e⟩ := I.hok p _ h
  exact ⟨its, n, r, e, z⟩
theorem Inv.lstUpd {pins : List (Addr × Obj)} {σ : St} {H : Hp} {s : Shared} {p : Addr} {xs ys : List V} {its its' : List Value} {n n' : Nat} {f : Obj → Obj} (I : Inv X pins σ H s) (h : H p = some (.lst xs))
    (ho : s.heap.get? p = some { cls := .type "list", data := .seq its.toArray n }) (hf : f { cls := .type "list", data := .seq its.toArray n } = { cls := .type "list", data := .seq its'.toArray n' }) (r : Vals ys its') (hz : ys.length ≤ sizeLine) (t : Nat) :
    Inv X pins σ (upd H p (.lst ys)) { s with heap := s.heap.update p f, toks := t } := by
  have e : (s.heap.update p f).get? p = some { cls := .type "list", data := .seq its'.toArray n' } := by
    rw [Heap.get?_update_self f ho (by rw [hf] <;> rfl), hf]
  refine I.write (x := p) (e := p) (by rw [h]; trivial) (.inl rfl) (fun b u hb q => (Heap.get?_update_other _ _ (Ne.symm hb)).trans q) ⟨_, e⟩ ?_
  exact ⟨hz, its', n', r, e⟩
noncomputable def rSetL : V → V → V → Hp → (Hp → Prop) → Prop := fun o i v H Q => ∃ p xs k j, o = .ref p ∧ i = .int k ∧ H p = some (.lst xs) ∧ ixN xs.length k = some j ∧ Q (upd H p (.lst (xs.set j v)))
theorem set_list : PSet X rSetL := by
  intro pins s σ H o i v ov iv u Q I ro ri rv h
  obtain ⟨p, xs, k, j, rfl, rfl, hp, hj, q⟩ := h
  cases ro
  obtain ⟨t, rfl⟩ := ri
  obtain ⟨its, n, r, ho, hz⟩ := I.lst hp
  obtain ⟨h1, h2, h3, h4⟩ := ixN_seq hj
  have hl := r.length
  have hn := line63
  have I' : Inv X pins σ (upd H p (.lst (xs.set j v))) { s with heap := s.heap.update p (Obj.mapSeq (·.setIfInBounds j u)) } :=
    I.lstUpd hp ho (mapSeq_set its n j u) (r.set rv j) (by rw [List.length_set]; exact hz) s.toks
  by_cases h0 : 0 ≤ k
  · have hk : k.toNat = j := by
      rw [seqIndex_of h0 h4] at h1
      exact Option.some.inj h1
    exact PySem.W.ki_setAt ho h0 (by omega) (by rw [List.size_toArray, ← hl]; exact h4) (by rw [hk]; exact ⟨_, I', q⟩)
  · have hk : (k + (its.toArray.size : Int)).toNat = j := by
      rw [seqIndex_neg (by omega) h3] at h1
      rw [List.size_toArray, ← hl]
      exact Option.some.inj h1
    exact PySem.W.ki_setBack ho (by omega) (by rw [List.size_toArray, ← hl]; exact h3) (by omega) (by rw [hk]; exact ⟨_, I', q⟩)
theorem slice_bounds (lo hi : Option Int) (n : Nat) : (sliceBounds lo hi none n).1 = ((HT.sIx n 0 lo : Nat) : Int) ∧ (sliceBounds lo hi none n).2.1 = ((HT.sIx n n hi : Nat) : Int) ∧ (sliceBounds lo hi none n).2.2 = 1 := by
  refine ⟨?_, ?_, rfl⟩
  · cases lo with
    | none => simp [sliceBounds, HT.sIx]
    | some i =>
      simp only [sliceBounds, HT.sIx, Option.getD_none, show (1 : Int) > 0 by decide, if_true]
      by_cases h : i < 0
      · simp only [h, if_true] <;> omega
      · simp only [h, if_false] <;> omega
  · cases hi with
    | none => simp [sliceBounds, HT.sIx]
    | some i =>
      simp only [sliceBounds, HT.sIx, Option.getD_none, show (1 : Int) > 0 by decide, if_true]
      by_cases h : i < 0
      · simp only [h, if_true] <;> omega
      · simp only [h, if_false] <;> omega
theorem slicePick_cut (its : List Value) (lo hi : Option Int) : slicePick its.toArray lo hi none = ((its.drop (HT.sIx its.length 0 lo)).take (HT.sIx its.length its.length hi - HT.sIx its.length 0 lo)).toArray := by
  obtain ⟨h1, h2, h3⟩ := slice_bounds lo hi its.toArray.size
  unfold slicePick
  rw [h1, h2, h3]
  simp only [sliceRange_one, pick_run, List.size_toArray] <;> rfl
noncomputable def rSlL (K : PySem.W.Frag) : V → Option Int → Option Int → Hp → VK → Prop := fun x lo hi H Q => ∃ a xs, x = .ref a ∧ SqL K H a xs ∧ ∀ p, H p = none → Q (.ref p) (upd H p (.lst (cutV xs lo hi)))
theorem sl_list : SlR X (rSlL X.K) := by
  intro pins s σ H x v vl vu lo hi sl Q I rx hs pl pu h
  obtain ⟨a, xs, rfl, hx, q⟩ := h
  cases rx
  obtain ⟨its, r, ht, hz⟩ := I.list hx
  have hlen := r.length
  refine ⟨"list", _, slot_list_getitem.lookup, ht.isList.typeIs, ?_⟩
  refine wpAny_getItem_list_slice ht.isList hs pl pu .none (by simp) ?_ (by rw [List.size_toArray] <;> omega)
  rw [slicePick_cut, ← hlen]
  refine ⟨.ref s.heap.objs.size, _, I.laid (t' := s.toks) (o := .lst (cutV xs lo hi)) (fun b ob q => Heap.get?_push_of_some _ q) (Nat.le_refl _) ?_, rfl, q _ (I.hok.fresh (Nat.le_refl _))⟩
  exact ⟨Nat.le_trans (cutV_length xs lo hi) hz, _, 0, (r.drop (HT.sIx xs.length 0 lo)).take (HT.sIx xs.length xs.length hi - HT.sIx xs.length 0 lo), Heap.get?_push_size _ rfl⟩
noncomputable def flatV : V → Bool
  | .non => true
  | .bl _ => true
  | .int _ => true
  | .str _ => true
  | _ => false
noncomputable def eqV : V → V → Bool
  | .non, .non => true
  | .bl a, .bl b => a == b
  | .bl a, .int b => (if a then 1 else 0) == b
  | .int a, .bl b => a == (if b then 1 else 0)
  | .int a, .int b => a == b
  | .str a, .str b => a == b
  | _, _ => false
theorem eqAt_V {A : Around} {s : Shared} {y x : V} {u v : Value} (ry : RelV y u) (rx : RelV x v) (fy : flatV y = true) (fx : flatV x = true) : SeqAt.EqAt A s u v (eqV y x) := by
  cases y with
  | non =>
    cases ry
    cases x with
    | non => cases rx; exact SeqAt.EqAt.same _
    | bl b => cases rx; exact SeqAt.EqAt.none_bool b
    | int b => obtain ⟨t, rfl⟩ := rx; exact SeqAt.EqAt.none_int b t
    | str b => obtain ⟨t, rfl⟩ := rx; exact SeqAt.EqAt.none_str b t
    | _ => exact absurd (show false = true from fx) Bool.false_ne_true
  | bl a =>
    cases ry
    cases x with
    | non => cases rx; exact SeqAt.EqAt.bool_none a
    | bl b => cases rx; exact SeqAt.EqAt.bool_bool a b
    | int b => obtain ⟨t, rfl⟩ := rx; exact SeqAt.EqAt.bool_int a b t
    | str b => obtain ⟨t, rfl⟩ := rx; exact SeqAt.EqAt.bool_str a b t
    | _ => exact absurd (show false = true from fx) Bool.false_ne_true
  | int a =>
    obtain ⟨t', rfl⟩ := ry
    cases x with
    | non => cases rx; exact SeqAt.EqAt.int_none a t'
    | bl b => cases rx; exact SeqAt.EqAt.int_bool a t' b
    | int b => obtain ⟨t, rfl⟩ := rx; exact SeqAt.EqAt.int_int a t' b t
    | str b => obtain ⟨t, rfl⟩ := rx; exact SeqAt.EqAt.int_str a t' b t
    | _ => exact absurd (show false = true from fx) Bool.false_ne_true
  | str a =>
    obtain ⟨t', rfl⟩ := ry
    cases x with
    | non => cases rx; exact SeqAt.EqAt.str_none a t'
    | bl b => cases rx; exact SeqAt.EqAt.str_bool a t' b
    | int b => obtain ⟨t, rfl⟩ := rx; exact SeqAt.EqAt.str_int a t' b t
    | str b => obtain ⟨t, rfl⟩ := rx; exact SeqAt.EqAt.str_str a t' b t
    | _ => exact absurd (show false = true from fx) Bool.false_ne_true
  | _ => exact absurd (show false = true from fy) Bool.false_ne_true
noncomputable def eqU (x : V) (u : Value) : Bool := match u with
  | .none => eqV .non x
  | .bool b => eqV (.bl b) x
  | .int i _ => eqV (.int i) x
  | .str z _ => eqV (.str z) x
  | _ => false
theorem eqU_of {x y : V} {u : Value} (r : RelV y u) (f : flatV y = true) : eqU x u = eqV y x := by
  cases y with
  | non => cases r; rfl
  | bl b => cases r; rfl
  | int i => obtain ⟨t, rfl⟩ := r; rfl
  | str z => obtain ⟨t, rfl⟩ := r; rfl
  | _ => exact absurd (show false = true from f) Bool.false_ne_true
theorem any_eqU {x : V} : ∀ {xs : List V} {us : List Value}, Vals xs us → xs.all flatV = true → us.any (eqU x) = xs.any fun y => eqV y x
  | _, _, .nil, _ => rfl
  | y :: xs, u :: us, .cons r t, f => by
    rw [List.all_cons, Bool.and_eq_true] at f
    rw [List.any_cons, List.any_cons, eqU_of r f.1, any_eqU t f.2]
theorem mem_eqAt {A : Around} {s : Shared} {x : V} {v : Value} (rx : RelV x v) (fx : flatV x = true) : ∀ {xs : List V} {us : List Value}, Vals xs us → xs.all flatV = true → ∀ u ∈ us, SeqAt.EqAt A s u v (eqU x u)
  | _, _, .nil, _ => fun u hu => by cases hu
  | y :: xs, u :: us, .cons r t, f => fun u' hu => by
    rw [List.all_cons, Bool.and_eq_true] at f
    rcases List.mem_cons.mp hu with rfl | hu
    · rw [eqU_of r f.1]; exact eqAt_V r rx f.1 fx
    · exact mem_eqAt rx fx t f.2 u' hu
noncomputable def inV (x : V) (xs : List V) : Bool := xs.any fun y => eqV y x
noncomputable def rIn (K : PySem.W.Frag) (neg : Bool) : R2 := fun x y H Q => ∃ p xs, y = .ref p ∧ (SqL K H p xs ∨ SqT K H p xs) ∧ flatV x = true ∧ xs.all flatV = true ∧ Q (.bl (if neg then !inV x xs else inV x xs)) H
theorem op_in_seq : OpR X (compareOp .In) (rIn X.K false) := by
  intro pins s σ H x y v u Q I rx ry h
  obtain ⟨p, xs, rfl, hq, fx, fs, q⟩ := h
  cases ry
  rcases hq with hq | hq
  · obtain ⟨its, r, pl, hz⟩ := I.list hq
    refine SeqAt.in_listAt (eqU x) pl.isList (fun w hw => mem_eqAt rx fx r fs w (by simpa using hw)) ⟨.bl _, H, I, rfl, ?_⟩
    rw [show its.toArray.any (eqU x) = its.any (eqU x) by simp, any_eqU r fs]
    exact q
  · obtain ⟨its, r, pl, hz⟩ := I.tuple hq
    refine SeqAt.in_tupleAt (eqU x) pl (fun w hw => mem_eqAt rx fx r fs w (by simpa using hw)) ⟨.bl _, H, I, rfl, ?_⟩
    rw [show its.toArray.any (eqU x) = its.any (eqU x) by simp, any_eqU r fs]
    exact q
theorem call_list_of : CallR X (.type "list") (fun xs H Q => ∃ p ys, xs = [.ref p] ∧ (SqL X.K H p ys ∨ SqT X.K H p ys) ∧ ∀ l, H l = none → Q (.ref l) (upd H l (.lst ys))) := by
  intro pins s σ H xs us Q I r h
  obtain ⟨p, ys, rfl, hq, q⟩ := h
  obtain ⟨u, rfl, rx⟩ := vals1 r
  cases rx
  have fin : ∀ (its : List Value), Vals ys its → ys.length ≤ sizeLine → ∀ (h' : Heap) (c' : Nat), (∀ b o', s.heap.get? b = some o' → h'.get? b = some o') →
      h'.get? s.heap.objs.size = some { cls := .type "list", dict := none, data := .seq its.toArray c', slots := #[] } → EP X pins σ Q (.ref s.heap.objs.size) { s with heap := h' } := fun its r' hz h' c' kp e =>
    ⟨.ref s.heap.objs.size, _, I.laid (t' := s.toks) kp (Nat.le_refl _) (show ObjOk X.prog X.w _ h' _ (.lst ys) from ⟨hz, its, c', r', e⟩), rfl, q _ (I.hok.fresh (Nat.le_refl _))⟩
  rcases hq with hq | hq
  · obtain ⟨its, r', pl, hz⟩ := I.list hq
    have hlen := r'.length
    obtain ⟨o, ho, hc, n, hd⟩ := pl.isList
    exact call_list_seq p (.inl rfl) ho hc hd (fun h' c' kp e => fin its r' hz h' c' kp e) (by simp only [List.size_toArray] <;> omega)
  · obtain ⟨its, r', pl, hz⟩ := I.tuple hq
    have hlen := r'.length
    obtain ⟨o, ho, hc, n, hd⟩ := pl
    exact call_list_seq p (.inr rfl) ho hc hd (fun h' c' kp e => fin its r' hz h' c' kp e) (by simp only [List.size_toArray] <;> omega)
theorem call_tuple_of : CallR X (.type "tuple") (fun xs H Q => ∃ p ys, xs = [.ref p] ∧ ((SqL X.K H p ys ∧ ∀ l, H l = none → Q (.ref l) (upd H l (.tup ys))) ∨ (SqT X.K H p ys ∧ Q (.ref p) H))) := by
  intro pins s σ H xs us Q I r h
  obtain ⟨p, ys, rfl, h⟩ := h
  obtain ⟨u, rfl, rx⟩ := vals1 r
  cases rx
  rcases h with ⟨hq, q⟩ | ⟨hq, q⟩
  · obtain ⟨its, r', pl, hz⟩ := I.list hq
    have hlen := r'.length
    refine call_tuple_list pl.isList (fun h' kp => ?_) (by simp only [List.size_toArray] <;> omega)
    have I1 : Inv X pins σ H { s with heap := h' } := I.kept (t' := s.toks) kp
    have I2 : Inv X pins σ (upd H h'.objs.size (.tup ys)) { s with heap := h'.push { cls := .type "tuple", data := .seq its.toArray } } :=
      I1.laid (t' := s.toks) (fun b o e => Heap.get?_push_of_some _ e) (Nat.le_refl _) (show ObjOk X.prog X.w _ _ _ (.tup ys) from ⟨hz, its, r', IsTup.new _ _⟩)
    exact ⟨.ref h'.objs.size, _, I2, rfl, q _ (I1.hok.fresh (Nat.le_refl _))⟩
  · obtain ⟨its, r', pl, hz⟩ := I.tuple hq
    exact call_tuple_same pl ⟨.ref p, H, I, rfl, q⟩
noncomputable def tyV (K : PySem.W.Frag) (T : String) (x : V) (H : Hp) : Prop := match x with
  | .str _ => T = "str"
  | .int _ => T = "int"
  | .ref p => (T = "list" ∧ ∃ xs, SqL K H p xs) ∨ (T = "tuple" ∧ ∃ o, K.lookup p = some o ∧ o.cls = .type "tuple" ∧ o.dict = none) ∨
      (T = "dict" ∧ ((∃ kvs, H p = some (.dK kvs)) ∨ ∃ kvs, H p = some (.dT kvs))) ∨ (T = "set" ∧ ∃ S n, H p = some (.set S n))
  | _ => False
theorem tyV_is {pins : List (Addr × Obj)} {σ : St} {H : Hp} {s : Shared} {T : String} {x : V} {v : Value} (I : Inv X pins σ H s) (r : RelV x v) (ty : tyV X.K T x H) :
    s.TypeIs v T ∧ ∀ a, v = .ref a → ∃ ob, s.heap.get? a = some ob ∧ ob.dict = none := by
  cases x with
  | str z =>
    obtain ⟨t, rfl⟩ := r
    cases (show T = "str" from ty)
    exact ⟨typeIs_str s z t, fun _ e => nomatch e⟩
  | int i =>
    obtain ⟨t, rfl⟩ := r
    cases (show T = "int" from ty)
    exact ⟨typeIs_int s i t, fun _ e => nomatch e⟩
  | ref p =>
    cases r
    rcases ty with ⟨rfl, xs, hq⟩ | ⟨rfl, o, hk, hc, hd⟩ | ⟨rfl, hk⟩ | ⟨rfl, S, n, hk⟩
    · obtain ⟨its, _, pl, _⟩ := I.list hq
      refine ⟨pl.isList.typeIs, fun a e => ?_⟩
      cases e
      obtain ⟨o, n, e, c, hd, _⟩ := pl
      exact ⟨o, e, hd⟩
    · refine ⟨⟨o, I.kIn p o hk, hc⟩, fun a e => ?_⟩
      cases e
      exact ⟨o, I.kIn _ o hk, hd⟩
    · have z : ∃ o, s.heap.get? p = some o ∧ o.ExactDict := by
        rcases hk with ⟨kvs, hk⟩ | ⟨kvs, hk⟩
        · obtain ⟨_, _, _, _, o, _, _, e, ex, _⟩ := I.hok p _ hk
          exact ⟨o, e, ex⟩
        · obtain ⟨_, _, _, _, o, _, _, e, ex, _⟩ := I.hok p _ hk
          exact ⟨o, e, ex⟩
      obtain ⟨o, e, ex⟩ := z
      refine ⟨⟨o, e, ex.1⟩, fun a e2 => ?_⟩
      cases e2
      exact ⟨o, e, ex.2.1⟩
    · obtain ⟨o, _, _, _, e, ex, _⟩ := I.hok p _ hk
      refine ⟨⟨o, e, ex.1⟩, fun a e2 => ?_⟩
      cases e2
      exact ⟨o, e, ex.2.1⟩
  | _ => exact False.elim ty
noncomputable def tBM0 (K : PySem.W.Frag) (T : String) (r : V → List V → Hp → VK → Prop) (to : TE) : TE := fun σ H Q => to σ H fun x H1 => tyV K T x H1 ∧ r x [] H1 Q
noncomputable def tBM (K : PySem.W.Frag) (T : String) (r : V → List V → Hp → VK → Prop) (to : TE) (t : TA) : TE := fun σ H Q => to σ H fun x H1 => tyV K T x H1 ∧ t σ H1 fun xs H2 => r x xs H2 Q
variable {o e : Expr} {es : List Expr} {to : TE} {t : TA} {name : Str} {apos cpos : Pos} {T id : String} {r : V → List V → Hp → VK → Prop}
theorem pe_bm0 (pa : PlainAttrs T) (slot : Slot T name id) (hty : typeOf (.builtin id) = pure (.type "method_descriptor")) (hm : MtR X id r) (ho : PE X o to)
    (hbase : attributeBase o name X.env (eval o X.env) = eval o X.env := by rfl) (hline : (apos.endLine == cpos.line) = true := by rfl) : PE X (.Call (.Attribute o name apos) [] [] cpos) (tBM0 X.K T r to) := by
  intro pins s σ H Q I h
  refine wpAny_Call_method0_late hbase hline (thn (ho pins s σ H _ I h) fun v s1 zz => ?_)
  obtain ⟨x, H1, I1, r1, ty, q1⟩ := zz
  obtain ⟨h1, h2⟩ := tyV_is I1 r1 ty
  exact ⟨T, id, pa, slot, hty, h1, h2, Calls.callWith_builtin rfl (PySem.evalArgs_none (hm pins s1 σ H1 x [] v [] Q I1 r1 .nil q1))⟩
theorem pe_bm (pa : PlainAttrs T) (slot : Slot T name id) (hty : typeOf (.builtin id) = pure (.type "method_descriptor")) (hm : MtR X id r) (ho : PE X o to) (ha : PA X (e :: es) t)
    (hbase : attributeBase o name X.env (eval o X.env) = eval o X.env := by rfl)
    (hfew : ((backTo cpos (starEach (e :: es) X.env)).all (fun x => !x.1) && (backToKw cpos (keywordEach [] X.env)).all (fun x => x.1.isSome)
      && decide ((e :: es).length + ([] : List Keyword).length + (if ([] : List Keyword).isEmpty then 0 else 1) < 30)) = true := by rfl)
    (hline : (apos.endLine == cpos.line) = true := by rfl) (hs : starEach (e :: es) X.env = (false, eval e X.env) :: starEach es X.env := by rfl) (hplain : (backTo cpos (starEach es X.env)).any (·.1) = false := by rfl) :
    PE X (.Call (.Attribute o name apos) (e :: es) [] cpos) (tBM X.K T r to t) := by
  intro pins s σ H Q I h
  refine wpAny_Call_method_late hbase hfew hline rfl (thn (ho pins s σ H _ I h) fun v s1 zz => ?_)
  obtain ⟨x, H1, I1, r1, ty, q1⟩ := zz
  obtain ⟨h1, h2⟩ := tyV_is I1 r1 ty
  refine ⟨T, id, pa, slot, hty, h1, h2, ?_⟩
  have hA := ha cpos pins s1 σ H1 _ I1 q1
  rw [hs] at hA ⊢
  refine Calls.callWith_builtin (by show (false || (backTo cpos (starEach es X.env)).any (·.1)) = false; rw [hplain] <;> rfl) (Calls.evalArgs_plain ?_)
  exact thn hA fun us s2 ⟨vs, H2, I2, r2, q2⟩ => hm pins s2 σ H2 x vs v us Q I2 r1 r2 q2
end
end L2
namespace L2
open PySem PySem.Spec PyProof.Rows
noncomputable def MtM (X : Cx) (id : String) (r : V → List V → Hp → VK → Prop) : Prop :=
  ∀ (pins : List (Addr × Obj)) (s : Shared) (σ : St) (H : Hp) (x : V) (xs : List V) (v : Value) (us : List Value) (Q : VK), Inv X pins σ H s → RelV x v → Vals xs us → r x xs H Q →
    wpAny (model X.prog X.w) X.A (call (.builtin id) (v :: us)) (EP X pins σ Q) X.xe s
theorem Vals.one : ∀ {x : V} {us : List Value}, Vals [x] us → ∃ u, us = [u] ∧ RelV x u
  | _, _, .cons r .nil => ⟨_, rfl, r⟩
section
variable {X : Cx} {pins : List (Addr × Obj)} {σ : St} {H : Hp} {s : Shared} {l b : Addr} {xs ys zs : List V}
theorem Inv.lset {its its' : List Value} {n : Nat} {f : Array Value → Array Value} {t' : Nat} (I : Inv X pins σ H s) (hH : H l = some (.lst xs))
    (e : s.heap.get? l = some { cls := .type "list", data := .seq its.toArray n }) (hf : f its.toArray = its'.toArray) (hv : Vals ys its') (hz : ys.length ≤ sizeLine) :
    Inv X pins σ (upd H l (.lst ys)) { s with heap := s.heap.update l (Obj.mapSeq f), toks := t' } := by
  have q := PySem.IsL.update e f
  rw [hf] at q
  refine I.write (x := l) (e := l) (by rw [hH]; exact trivial) (.inl rfl) (fun b' u hb hu => (Heap.get?_update_other s.heap (Obj.mapSeq f) (Ne.symm hb)).trans hu) ⟨_, q⟩ ?_
  exact ⟨hz, its', _, hv, q⟩
theorem Inv.lnew {its : List Value} {t' : Nat} (I : Inv X pins σ H s) (hv : Vals ys its) (hz : ys.length ≤ sizeLine) :
    Inv X pins σ (upd H s.heap.objs.size (.lst ys)) { s with heap := s.heap.push { cls := .type "list", data := .seq its.toArray }, toks := t' } :=
  I.laid (fun _ _ q => Heap.get?_push_of_some _ q) (Nat.le_refl _) ⟨hz, its, 0, hv, Heap.get?_push_size _ rfl⟩
theorem Inv.fresh (I : Inv X pins σ H s) : H s.heap.objs.size = none := I.hok.fresh (Nat.le_refl _)
theorem Inv.lstM (I : Inv X pins σ H s) (hH : H l = some (.lst xs)) : xs.length ≤ sizeLine ∧ ∃ (its : List Value) (n : Nat), Vals xs its ∧ xs.length = its.length ∧ s.heap.get? l = some { cls := .type "list", data := .seq its.toArray n } := by
  obtain ⟨z, its, n, r, e⟩ := I.hok l _ hH
  exact ⟨z, its, n, r, r.length, e⟩
end
section
variable {X : Cx}
noncomputable def rAppend : V → List V → Hp → VK → Prop := fun x vs H Q => ∃ l xs y, x = .ref l ∧ vs = [y] ∧ H l = some (.lst xs) ∧ xs.length < sizeLine ∧ Q .non (upd H l (.lst (xs ++ [y])))
theorem mt_append : MtM X "list.append" rAppend := by
  intro pins s σ H x vs v us Q I rx rv h
  obtain ⟨l, xs, y, rfl, rfl, hH, hz, q⟩ := h
  cases rx
  obtain ⟨u, rfl, ru⟩ := rv.one
  obtain ⟨z, its, n, r, hl, e⟩ := I.lstM hH
  refine call_meets F.slot_list_append ⟨_, e, rfl⟩ F.entry_list_append (F.args_list_append_2 _ _) (PySem.list_append l its.toArray n u (by rw [List.size_toArray]; omega)) ⟨e, ?_⟩
  refine ⟨.non, _, I.lset (its' := its ++ [u]) hH e (by simp) (r.append (.cons ru .nil)) ?_, rfl, q⟩
  rw [List.length_append, List.length_singleton]
  omega
noncomputable def rCat : R2 := fun x y H Q => ∃ l b xs zs, x = .ref l ∧ y = .ref b ∧ H l = some (.lst xs) ∧ H b = some (.lst zs) ∧ xs.length + zs.length ≤ sizeLine ∧ ∀ p, H p = none → Q (.ref p) (upd H p (.lst (xs ++ zs)))
theorem op_cat : OpR X (binaryOp .Add) rCat := by
  intro pins s σ H x y v u Q I rx ry h
  obtain ⟨l, b, xs, zs, rfl, rfl, hH, hB, hz, q⟩ := h
  cases rx
  cases ry
  obtain ⟨z, its, n, r, hl, e⟩ := I.lstM hH
  obtain ⟨z2, its2, n2, r2, hl2, e2⟩ := I.lstM hB
  refine PySem.P.add_list e e2 ?_ (by rw [List.size_toArray, List.size_toArray]; omega)
  have ea : its.toArray ++ its2.toArray = (its ++ its2).toArray := by simp
  rw [ea]
  exact ⟨.ref _, _, I.lnew (t' := s.toks) (r.append r2) (by rw [List.length_append]; omega), rfl, q _ I.fresh⟩
end
section
variable {prog : Program} {w : World} {A : Around} {E : Value → Shared → Prop} {s : Shared}
end
section
variable {X : Cx}
end
end L2
namespace Att
open PySem PySem.W PySem.Calls PyProof.Rows
theorem ints_of_wellAll {P : Params} {h : Heap} : ∀ (ns : List Int) (vs : List Value), WellAll P h vs (ns.map WData.int) → IntsAre vs ns := by
  intro ns
  induction ns with
  | nil =>
    intro vs w
    rw [List.map_nil] at w
    cases w
    exact .nil
  | cons n ns ih =>
    intro vs w
    rw [List.map_cons] at w
    cases w with
    | cons a b =>
      cases a
      exact .cons _ _ (ih _ b)
theorem script_of {l : OpenLaw} {n : Nat} (hn : l.most = some n) {P : Params} {h : Heap} {args : List WData} {vals : List Value}
    (hpre : l.row.toRowW.claim.pre args = true) (hwl : WellAll P h vals args) :
    ∃ a vs ns, vals = [Value.ref a] ∧ args = [WData.list (ns.map WData.int)] ∧ h.get? a = some { cls := .type "list", data := .seq vs.toArray } ∧ IntsAre vs ns ∧ ns.length ≤ n := by
  have hsh : WShape.hasAll [] args [.list .int] = true := (pre_splitW hpre).1
  have hc : l.pre.holds [] { args := args } = true := (pre_splitW hpre).2
  obtain ⟨d, r, rfl, h1, h2⟩ := hasAllW_cons hsh
  obtain rfl := hasAllW_nil h2
  obtain ⟨xs, rfl, h3⟩ := hasW_list h1
  obtain ⟨ns, rfl⟩ := items_int h3
  have hlen : ns.length ≤ n := by
    unfold OpenLaw.pre at hc
    have h4 : (WTm.not (.lt (.lit (.int (n : Int))) (.len (.arg 0)))).holds [] { args := [.list (ns.map .int)] } = true := by
      have h4 := (holds_andW hc).1
      rw [hn] at h4
      exact h4
    have h5 := condW_of h4 (w_not (w_lt w_lit (w_len_list (w_arg rfl))))
    rw [List.length_map] at h5
    refine Nat.le_of_not_lt fun q => ?_
    have q' : (n : Int) < ((ns.length : Nat) : Int) := by omega
    first
      | (rw [decide_eq_true q'] at h5; exact absurd h5 (by decide))
      | (simp at h5; omega)
  cases hwl with
  | cons w1 w2 =>
    cases w2
    cases w1 with
    | list ho hall => exact ⟨_, _, ns, rfl, rfl, ho, ints_of_wellAll ns _ hall, hlen⟩
theorem post_true (l : OpenLaw) (args : List WData) : l.row.toRowW.claim.post args (.bool true) args = true :=
  postW_of (r := l.row.toRowW) (X := (true == true))
    (show WShape.has [] (.bool true) .bool = true by first | rfl | decide | simp [WShape.has, WShape.arms, WShape.armsAll])
    (show (WTm.eq .res (.lit (.bool true))).value [] { args := args, res := some (.bool true), after := args } = some (.bool (true == true)) from w_eq_bool (w_res rfl) w_lit) rfl
section
variable {prog : Program} {w : World} {A : Around} {E : Value → Shared → Prop} {s : Shared} {K : Frag}
end
end Att
namespace L2
open PySem PySem.Spec PyProof.Rows
theorem vals_ints : ∀ {vs : List Value} {ns : List Int}, IntsAre vs ns → Vals (ns.map V.int) vs
  | _, _, .nil => .nil
  | _, _, .cons n t h => .cons ⟨t, rfl⟩ (vals_ints h)
noncomputable def Only (H : Hp) : Prop := ∀ b, H b = none ∨ ∃ o xs, H b = some (.frz o (.lst xs))
theorem law_call {P : Program} {w : World} {K : PySem.W.Frag} {mg mb : Str → Option Value} {CX : CXT} {k : Nat} {fa a : Addr} {fd : FuncData} {x : Str} {sp : Sp} {s₁ : Shared} {vs : List Value} {ns : List Int}
    (KX : K.In s₁.heap) (hns : s₁.heap.Ns mainGlobals mg) (hb : s₁.heap.Ns builtinsNs mb) (hbb : ∀ x : Str, x ≠ "__name__" → mb x = bootBuiltins x) (hlim : s₁.heap.NoLimit) (hg : s₁.gens = #[])
    (ha : s₁.heap.get? a = some { cls := .type "list", data := .seq vs.toArray }) (hi : IntsAre vs ns) (hl : ns.length ≤ sizeLine) (hr : Room k callerA)
    (F : ∀ base : Heap, K.In base → base.Ns mainGlobals mg → FnOk P w K mg base CX k fa fd [x] sp) (hbind : ∀ (s : Shared) (u : Value), BindsTo s fd ⟨[u], []⟩ [(x, u)])
    (hsp : ∀ H : Hp, Only H → SqL K H a (ns.map V.int) → sp [.ref a] H (fun v _ => v = .bl true) fun _ _ _ => False)
    (hCX : ∀ H e s', CX [] H s₁ (fun _ _ _ => False) e s' → False) :
    codeAny (model P w) callerA (.call (.ref fa) ⟨[.ref a], []⟩) (fun r s' => r = .ok (.ret (.bool true)) ∧ OldK s₁.heap s'.heap ∧ s'.os = s₁.os ∧ AllBare s'.gens) s₁ := by
  have rv := vals_ints hi
  have lenV := hi.length
  have core : ∀ H : Hp, Only H → SqL K H a (ns.map V.int) → HOk P w H s₁.heap → (∀ b, H b ≠ none → b = a) → (H a ≠ none → K.lookup a = none) →
      codeAny (model P w) callerA (.call (.ref fa) ⟨[.ref a], []⟩) (fun r s' => r = .ok (.ret (.bool true)) ∧ OldK s₁.heap s'.heap ∧ s'.os = s₁.os ∧ AllBare s'.gens) s₁ := by
    intro H hO hS hok hA hK
    have base_of : ∀ {b : Addr} {o : Obj}, s₁.heap.get? b = some o → H b = none → (hidT s₁.heap H).get? b = some o := fun e n => hidT_get e n
    have noA : ∀ {b : Addr} {o : Obj} {es : Array DictEntry} {ep : Nat}, s₁.heap.get? b = some o → o.data = .dict es ep → H b = none := fun {b o es ep} e d => by
      cases q : H b with
      | none => rfl
      | some u =>
        have e' : b = a := hA b (by rw [q]; simp)
        subst e'
        rw [ha] at e; cases e
        have d' : Data.seq vs.toArray _ = Data.dict es ep := d
        cases d'
    have nsK : ∀ {b : Addr} {m : Str → Option Value}, s₁.heap.Ns b m → (hidT s₁.heap H).Ns b m := fun {b m} ⟨o, es, ep, e, d, r⟩ => ⟨o, es, ep, base_of e (noA e d), d, r⟩
    have hKb : K.In (hidT s₁.heap H) := fun b o e => base_of (KX b o e) (by
      cases q : H b with
      | none => rfl
      | some u =>
        have e' : b = a := hA b (by rw [q]; simp)
        subst e'
        rw [hK (by rw [q]; simp)] at e; cases e)
    have hM : Mod K mg (hidT s₁.heap H) := ⟨hKb, nsK hns, ⟨mb, nsK hb, hbb⟩, let ⟨mc, h1, h2⟩ := hlim; ⟨mc, nsK h1, h2⟩⟩
    have e0 : Env0 P w K mg (hidT s₁.heap H) callerA [] s₁ H := ⟨rfl, hM, fun b o e => of_hidT e, Nat.le_of_eq (hidT_size _ _), trivial, fun b hb => absurd (show b ∈ ([] : List Addr) from hb) (by simp), hok, .of_eq hg⟩
    refine codeAny_mono ((F _ hKb (nsK hns)).run callerA [] s₁ H ⟨[.ref a], []⟩ [.ref a] [.ref a] _ _ hr e0 (hbind s₁ (.ref a)) (.cons rfl .nil) (hsp H hO hS)) fun r s' h => ?_
    cases r with
    | error e => exact (hCX H e s' h).elim
    | ok fl =>
      cases fl with
      | next => exact False.elim h
      | brk => exact False.elim h
      | cont => exact False.elim h
      | ret u =>
        obtain ⟨v, H', os, bare, un, hok', r', q⟩ := h
        have q' : v = .bl true := q
        subst q'
        obtain rfl : u = Value.bool true := r'
        refine ⟨rfl, OldK.of_keep fun b o e => ?_, os, bare⟩
        cases q : H b with
        | none => exact un.keep b o e q (by intro z; exact absurd (show b ∈ ([] : List Addr) from z) (by simp)) (by simp)
        | some u =>
          rcases hO b with z | ⟨ob, xs, z⟩
          · rw [q] at z; cases z
          · have z2 := un.frzs b ob _ z
            obtain ⟨e1, _⟩ := hok b _ z
            obtain ⟨e2, _⟩ := hok' b _ z2
            rw [e] at e1; cases e1
            exact e2
  cases hk : K.lookup a with
  | some o =>
    have e := KX a o hk
    rw [ha] at e
    cases e
    refine core (fun _ => none) (fun _ => .inl rfl) (.inr ⟨_, vs.toArray, _, hk, rfl, rfl, rfl, by rw [List.size_toArray, lenV]; exact hl, by simpa using rv⟩) (fun b u z => by have z' : (none : Option HO) = some u := z; cases z') (fun b z => absurd rfl z) fun z => absurd rfl z
  | none =>
    refine core (fun b => if b = a then some (.frz { cls := .type "list", data := .seq vs.toArray } (.lst (ns.map V.int))) else none) (fun b => ?_) (.inl (.inr ⟨{ cls := .type "list", data := .seq vs.toArray }, if_pos rfl⟩)) (fun b u z => ?_) (fun b z => ?_) fun _ => hk
    · by_cases hb : b = a
      · exact .inr ⟨_, _, if_pos hb⟩
      · exact .inl (if_neg hb)
    · by_cases hb : b = a
      · have z' := (if_pos hb).symm.trans z
        cases z'
        subst hb
        exact ⟨ha, by rw [List.length_map]; exact hl, vs, _, rv, ha⟩
      · have z' := (if_neg hb).symm.trans z
        cases z'
    · by_cases hb : b = a
      · exact hb
      · exact absurd (if_neg hb) z
end L2
namespace L2
open PySem PySem.Spec PyProof.Rows
end L2
namespace L2
open PySem PySem.Spec PyProof.Rows
noncomputable def defArgs (s : Stmt) : Arguments := match s with
  | .FunctionDef _ a _ _ _ _ _ _ _ _ => a
  | _ => { posonlyargs := [], args := [], vararg := none, kwonlyargs := [], kw_defaults := [], kwarg := none, defaults := [] }
noncomputable def defBody (s : Stmt) : List Stmt := match s with
  | .FunctionDef _ _ b _ _ _ _ _ _ _ => b
  | _ => []
noncomputable def defScope (s : Stmt) : Scope := match s with
  | .FunctionDef _ _ _ _ _ _ sc _ _ _ => sc
  | _ => { kind := .function, names := [], isGenerator := false, isCoroutine := false }
noncomputable abbrev E0 : XK := fun _ _ _ => False
section
variable {P : Program} {w : World} {K : PySem.W.Frag} {mg : Str → Option Value} {base : Heap}
end
section
variable {X : Cx}
theorem pv (i : Nat) {x : Str} {pos : Pos} (hN : X.N[i]? = some x := by rfl) (hv : Vis X.env.scope x := by first | exact Or.inl rfl | exact Or.inr (Or.inl rfl) | exact Or.inr (Or.inr rfl)) (hd : (x == ("__debug__" : Str)) = false := by decide)
    (hcd : (x == ("__classdict__" : Str)) = false := by decide) : PE X (.Name x pos) (tVar i) := pe_var hN hv hd hcd
end
theorem iteF {A B : Prop} (h : B) : if false = true then A else B := by
  rw [if_neg Bool.false_ne_true]
  exact h
theorem iteT {A B : Prop} (h : A) : if true = true then A else B := by
  rw [if_pos rfl]
  exact h
noncomputable def Same (H H' : Hp) : Prop := ∀ b o, H b = some o → H' b = some o
theorem Same.refl (H : Hp) : Same H H := fun _ _ h => h
theorem Same.trans {H H1 H2 : Hp} (a : Same H H1) (b : Same H1 H2) : Same H H2 := fun c o h => b c o (a c o h)
theorem Same.seq {K : PySem.W.Frag} {H H' : Hp} {a : Addr} {xs : List V} (e : Same H H') (h : SqL K H a xs) : SqL K H' a xs := by
  rcases h with (h | ⟨o, h⟩) | h
  · exact .inl (.inl (e _ _ h))
  · exact .inl (.inr ⟨o, e _ _ h⟩)
  · exact .inr h
end L2
set_option maxRecDepth 100000
namespace Kw
theorem gcd_step (g s : Int) (hg : 0 ≤ g) (hs : 0 < s) : Int.gcd s (g % s) = Int.gcd g s := by
  obtain ⟨m, rfl⟩ := Int.eq_ofNat_of_zero_le hg
  obtain ⟨n, rfl⟩ := Int.eq_ofNat_of_zero_le (Int.le_of_lt hs)
  have e : ((m : Int) % (n : Int)) = ((m % n : Nat) : Int) := by omega
  rw [e]
  show Nat.gcd n (m % n) = Nat.gcd m n
  rw [Nat.gcd_comm m n, Nat.gcd_rec n m, Nat.gcd_comm]
theorem gcd_abs (a b : Int) : Int.gcd (if a < 0 then -a else a) (if b < 0 then -b else b) = Int.gcd a b := by
  have e : ∀ x : Int, (if x < 0 then -x else x).natAbs = x.natAbs := fun x => by split <;> omega
  show Nat.gcd _ _ = Nat.gcd _ _
  rw [e, e]
theorem gcd_end (g : Int) (hg : 0 ≤ g) : ((Int.gcd g 0 : Nat) : Int) = g := by
  show ((Nat.gcd g.natAbs 0 : Nat) : Int) = g
  rw [Nat.gcd_zero_right]; omega
theorem abs_nn (a : Int) : 0 ≤ (if a < 0 then -a else a) := by split <;> omega
noncomputable def dv (t b : Int) : Int := if b < 0 then -((Int.gcd t b : Nat) : Int) else ((Int.gcd t b : Nat) : Int)
noncomputable def fT (t b : Int) : Int := t.fdiv (dv t b)
noncomputable def fB (t b : Int) : Int := b.fdiv (dv t b)
theorem dv_ne {t b : Int} (h : b ≠ 0) : dv t b ≠ 0 := by
  have hp : 0 < Int.gcd t b := Int.gcd_pos_of_ne_zero_right _ h
  unfold dv; split <;> omega
theorem dv_le {t b : Int} (h : b ≠ 0) : (dv t b).natAbs ≤ b.natAbs := by
  have hd : Int.gcd t b ∣ b.natAbs := Nat.gcd_dvd_right _ _
  have := Nat.le_of_dvd (by omega) hd
  unfold dv; split <;> omega
theorem dv_dvd_b (t b : Int) : dv t b ∣ b := by
  have h : ((Int.gcd t b : Nat) : Int) ∣ b := Int.gcd_dvd_right ..
  unfold dv; split
  · exact (Int.neg_dvd).mpr h
  · exact h
theorem dv_dvd_t (t b : Int) : dv t b ∣ t := by
  have h : ((Int.gcd t b : Nat) : Int) ∣ t := Int.gcd_dvd_left ..
  unfold dv; split
  · exact (Int.neg_dvd).mpr h
  · exact h
theorem fT_mul (t b : Int) : dv t b * fT t b = t := by
  unfold fT
  exact Int.mul_fdiv_cancel' (dv_dvd_t t b)
theorem fB_mul (t b : Int) : dv t b * fB t b = b := by
  unfold fB
  exact Int.mul_fdiv_cancel' (dv_dvd_b t b)
theorem fB_pos {t b : Int} (h : b ≠ 0) : 0 < fB t b := by
  have e := fB_mul t b
  have hn := dv_ne (t := t) h
  have hg : 0 ≤ ((Int.gcd t b : Nat) : Int) := Int.natCast_nonneg _
  rcases Int.lt_or_gt_of_ne h with hb | hb
  · have hd : dv t b < 0 := by unfold dv at hn ⊢; rw [if_pos hb] at hn ⊢; omega
    refine Int.not_le.mp fun q => ?_
    have := Int.mul_nonneg_of_nonpos_of_nonpos (Int.le_of_lt hd) q
    omega
  · have hd : 0 < dv t b := by unfold dv at hn ⊢; rw [if_neg (by omega)] at hn ⊢; omega
    refine Int.not_le.mp fun q => ?_
    have := Int.mul_nonpos_of_nonneg_of_nonpos (Int.le_of_lt hd) q
    omega
theorem natAbs_le_mul {d x : Int} (h : d ≠ 0) : x.natAbs ≤ (d * x).natAbs := by
  rw [Int.natAbs_mul]
  exact Nat.le_mul_of_pos_left _ (by omega)
theorem fT_le {t b : Int} (h : b ≠ 0) : (fT t b).natAbs ≤ t.natAbs := by
  have q := natAbs_le_mul (x := fT t b) (dv_ne (t := t) h)
  rw [fT_mul] at q; exact q
theorem fB_le {t b : Int} (h : b ≠ 0) : (fB t b).natAbs ≤ b.natAbs := by
  have q := natAbs_le_mul (x := fB t b) (dv_ne (t := t) h)
  rw [fB_mul] at q; exact q
end Kw
set_option Elab.async false
set_option linter.all false
set_option maxRecDepth 100000
set_option maxHeartbeats 4000000
namespace Kw
open PySem PySem.Spec PyProof.Rows L2
noncomputable def But (b : Addr) (H H' : Hp) : Prop := ∀ a o, a ≠ b → H a = some o → H' a = some o
theorem But.refl {b : Addr} (H : Hp) : But b H H := fun _ _ _ h => h
theorem But.trans {b : Addr} {H H1 H2 : Hp} (x : But b H H1) (y : But b H1 H2) : But b H H2 := fun a o n h => y a o n (x a o n h)
theorem But.of {b : Addr} {H H' : Hp} (x : Same H H') : But b H H' := fun a o _ h => x a o h
theorem same_new {H : Hp} {p : Addr} (h : H p = none) (o : HO) : Same H (upd H p o) := fun b u q => by rw [upd_ne (ne_of_none q h)]; exact q
theorem but_upd {H : Hp} {p : Addr} (o : HO) : But p H (upd H p o) := fun b u n q => by rw [upd_ne n]; exact q
theorem Same.tup {K : PySem.W.Frag} {H H' : Hp} {a : Addr} {xs : List V} (e : Same H H') (h : SqT K H a xs) : SqT K H' a xs := by
  rcases h with (h | ⟨o, h⟩) | h
  · exact .inl (.inl (e _ _ h))
  · exact .inl (.inr ⟨o, e _ _ h⟩)
  · exact .inr h
theorem But.tup {K : PySem.W.Frag} {H H' : Hp} {b a : Addr} {ys xs : List V} (e : But b H H') (hb : H b = some (.lst ys)) (h : SqT K H a xs) : SqT K H' a xs := by
  rcases h with (h | ⟨o, h⟩) | h
  · exact .inl (.inl (e _ _ (ne_of h hb (by intro z; cases z)) h))
  · exact .inl (.inr ⟨o, e _ _ (ne_of h hb (by intro z; cases z)) h⟩)
  · exact .inr h
theorem But.seq {K : PySem.W.Frag} {H H' : Hp} {b a : Addr} {xs : List V} (e : But b H H') (n : a ≠ b) (h : SqL K H a xs) : SqL K H' a xs := by
  rcases h with (h | ⟨o, h⟩) | h
  · exact .inl (.inl (e _ _ n h))
  · exact .inl (.inr ⟨o, e _ _ n h⟩)
  · exact .inr h
section
variable {σ : L2.St} {H : Hp} {Q : VK} {v : V} {i j : Int} {K : PySem.W.Frag} {p : Addr} {xs : List V}
theorem rd_new {R : V → Hp → Prop} {o : HO} (h : ∀ p H', Same H H' → H' p = some o → R (.ref p) H') : ∀ p, H p = none → R (.ref p) (upd H p o) := fun p hp => h p _ (same_new hp o) upd_same
end
theorem if_cases {c : Bool} {A B : Prop} (h1 : c = true → A) (h2 : c = false → B) : if c = true then A else B := by
  cases c
  · exact iteF (h2 rfl)
  · exact iteT (h1 rfl)
theorem if_dec {c : Prop} [Decidable c] {A B : Prop} (h1 : c → A) (h2 : ¬ c → B) : if decide c = true then A else B :=
  if_cases (fun e => h1 (of_decide_eq_true e)) (fun e => h2 (of_decide_eq_false e))
theorem if_decI {i j : Int} {A B : Prop} (h1 : i = j → A) (h2 : i ≠ j → B) : if decide (V.int i = V.int j) = true then A else B :=
  if_dec (fun e => h1 (V.int.inj e)) (fun e => h2 fun z => e (congrArg V.int z))
theorem if_neI {i j : Int} {A B : Prop} (h1 : i ≠ j → A) (h2 : i = j → B) : if (!decide (V.int i = V.int j)) = true then A else B := by
  by_cases e : i = j
  · rw [show decide (V.int i = V.int j) = true by simp [e]]; exact iteF (h2 e)
  · rw [show decide (V.int i = V.int j) = false by simp [e]]; exact iteT (h1 e)
section
variable {X : Cx} {a b c : Expr} {ta tb tc : TE} {pos : Pos}
noncomputable def CDivB (_ j : Int) : Prop := j ≠ 0 ∧ j.natAbs.log2 < 9000
theorem op_fdivB : OpR X (binaryOp .FloorDiv) (rI CDivB fun i j => .int (i.fdiv j)) := opI fun _ _ _ _ _ _ _ hc q => floordiv_int hc.1 q (.inl (PyProof.noPylong_of_log2 hc.2))
theorem op_mulB : OpR X (binaryOp .Mult) (rI IntMulOk fun i j => .int (i * j)) := opI fun _ _ _ _ _ _ _ hc q => mul_int q hc
theorem call_divmodB : CallR X (.builtin "divmod") (fun xs H Q => ∃ i j, xs = [.int i, .int j] ∧ (0 < j ∧ j.natAbs.log2 < 9000) ∧ ∀ p, H p = none → Q (.ref p) (upd H p (.tup [.int (i / j), .int (i % j)]))) := by
  intro pins s σ H xs us Q I r h
  obtain ⟨i, j, rfl, ⟨h1, h2⟩, q⟩ := h
  obtain ⟨u, w', rfl, ⟨t, rfl⟩, ⟨t', rfl⟩⟩ := vals2 r
  refine divmod_int (by omega) ?_ (.inl (PyProof.noPylong_of_log2 h2))
  rw [Int.fdiv_eq_ediv_of_nonneg i (by omega), Int.fmod_eq_emod_of_nonneg i (by omega)]
  have hn : H s.heap.objs.size = none := I.hok.fresh (Nat.le_refl _)
  refine ⟨.ref s.heap.objs.size, _, ?_, rfl, q _ hn⟩
  refine I.laid (fun b o e => Heap.get?_push_of_some _ e) (Nat.le_refl _) ⟨by simp only [List.length_cons, List.length_nil]; rw [sizeLine_eq]; decide, [.int (i / j) s.toks, .int (i % j) (s.toks + 1)], .cons ⟨_, rfl⟩ (.cons ⟨_, rfl⟩ .nil), ?_⟩
  exact ⟨_, Heap.get?_push_size s.heap rfl, rfl, 0, rfl⟩
theorem pe_globI {x : Str} {i : Int} {pos : Pos} (hg : Gl X x) (hm : ∃ t, X.mg x = some (.int i t)) (hd : (x == ("__debug__" : Str)) = false := by decide) (hcd : (x == ("__classdict__" : Str)) = false := by decide) : PE X (.Name x pos) (tC (.int i)) := by
  obtain ⟨t, hm⟩ := hm
  exact pe_glob hg hm ⟨t, rfl⟩ hd
theorem pe_bty {x : Str} {T : String} {pos : Pos} (hg : Gl X x) (hm : X.mg x = none) (hv : bootBuiltins x = some (.type T)) (hn : x ≠ "__name__" := by decide) (hd : (x == ("__debug__" : Str)) = false := by decide) : PE X (.Name x pos) (tC (.ty T)) :=
  pe_bltn hg hm hv (v := .ty T) rfl hn hd
noncomputable def valC : V → Value
  | .ty T => .type T
  | .ref C => .ref C
  | _ => .none
noncomputable def IsI (K : PySem.W.Frag) (H : Hp) (x c : V) (b : Bool) : Prop := ∃ t, TyOf K H x t ∧ PySem.W.kitOne K t (valC c) = some b
theorem call_isinst : CallR X (.builtin "isinstance") (fun xs H Q => ∃ x c b, xs = [x, c] ∧ ((∃ T, c = .ty T) ∨ ∃ C, c = .ref C) ∧ IsI X.K H x c b ∧ Q (.bl b) H) := by
  intro pins s σ H xs us Q I r h
  obtain ⟨x, c, b, rfl, hc, ⟨t, ty, e⟩, q⟩ := h
  obtain ⟨u, w', rfl, rx, rc⟩ := vals2 r
  have ec : w' = valC c := by
    rcases hc with ⟨T, rfl⟩ | ⟨C, rfl⟩
    · exact rc
    · exact rc
  subst ec
  exact isinst_ok I rx ty e fun tk => ⟨.bl b, H, I.tok _, rfl, q⟩
end
end Kw
set_option Elab.async false
set_option linter.all false
set_option maxRecDepth 100000
set_option maxHeartbeats 4000000
namespace Kw
open PySem PySem.Spec PyProof.Rows L2
section
variable {M : Model} {A : Around} {E : Value → Shared → Prop} {s : Shared} {bs : Heap} {l up : List Env} {env : Env} {x L : Addr} {c : Value} {od : Option Addr} {a0 fl : Value} {Q : Unit → Shared → Prop}
end
end Kw
set_option Elab.async false
set_option linter.all false
set_option maxRecDepth 100000
set_option maxHeartbeats 4000000
namespace Kw
open PySem PySem.Spec PyProof.Rows L2
structure FlyAt (H : Hp) (h0 h : Heap) (x : Addr) (C : Value) (od : Option Addr) : Prop where
  new : h0.get? x = none
  free : H x = none
  tr : ∃ oe vs a0 T oT ts, h.get? x = some oe ∧ oe.cls = C ∧ oe.dict = od ∧ oe.data = .fields vs ∧ vs[0]? = some a0 ∧ vs[1]? = some (.ref T) ∧ h0.get? T = none ∧ H T = none ∧ T ≠ x ∧ h.get? T = some oT ∧ oT.data = .fields ts ∧ ts[3]? = some .none
noncomputable def CXE (P : Program) (w : World) : CXT := fun outer H s E e s' =>
  ∃ (x : Addr) (C : Value) (od : Option Addr) (H' : Hp), e = .ref x ∧ s'.os = s.os ∧ AllBare s'.gens ∧ Un (frs outer) [] H H' s.heap s'.heap ∧ HOk P w H' s'.heap ∧ FlyAt H' s.heap s'.heap x C od ∧ E C od H'
theorem passE0 {P : Program} {w : World} {X : Cx} : Passes (CXE P w) X E0 := fun _ _ _ _ _ _ _ h => by
  obtain ⟨_, _, _, _, _, _, _, _, _, _, q⟩ := h
  exact q.elim
section
variable {X : Cx} {pins : List (Addr × Obj)} {σ : L2.St} {H : Hp} {s : Shared} {h' : Heap} {ch : List Addr}
structure Flown (X : Cx) (H : Hp) (h h' : Heap) (ch : List Addr) : Prop where
  keep : ∀ b o, h.get? b = some o → b ∉ frs X.stack → b ∉ ch → h'.get? b = some o
  slot : ∀ b o, h.get? b = some o → b ∈ frs X.stack → ∃ sl, h'.get? b = some { o with slots := sl }
  young : ∀ b ∈ ch, X.s₀.heap.get? b = none ∧ H b = none
end
end Kw
set_option Elab.async false
set_option linter.all false
set_option maxRecDepth 100000
set_option maxHeartbeats 4000000
namespace Kw
open PySem PySem.Spec PyProof.Rows L2
section
variable {X : Cx} {x : Str} {C : Addr} {E : XK} {e : Expr} {es : List Expr} {t : TA} {np cpos pos : Pos}
end
structure Fu (K : PySem.W.Frag) (x : Str) (st : Stmt) (f : Addr) (fd : FuncData) : Prop where
  ex : ∃ (oc : Value) (od : Option Addr) (dV kV doc pm : Value) (an : Option Addr) (cdv ct : Value) (osl : Array (Option Value)),
    fd = PySem.W.fnOf x x (defArgs st) (defBody st) (defScope st) dV kV doc pm an cdv ct ∧ K.lookup f = some ⟨oc, od, .func fd, osl⟩ ∧ PySem.W.codeIn K cdv x = true
  kp : PySem.W.keepIn K (.ref f) = true
structure Df (K : PySem.W.Frag) (mg : Str → Option Value) (x : Str) (st : Stmt) (ps : List Str) : Prop where
  ex : ∃ f fd, Fu K x st f fd ∧ Binds K fd ps [] ∧ mg x = some (.ref f)
structure Fn (P : Program) (w : World) (K : PySem.W.Frag) (mg : Str → Option Value) (base : Heap) (k : Nat) (x : Str) (ps : List Str) (sp : Sp) : Prop where
  ex : ∃ f fd, FnOk P w K mg base (CXE P w) k f fd ps sp ∧ mg x = some (.ref f) ∧ PySem.W.keepIn K (.ref f) = true ∧ Binds K fd ps [] ∧ ∃ oc od osl, K.lookup f = some ⟨oc, od, .func fd, osl⟩
section
variable {P : Program} {w : World} {K : PySem.W.Frag} {mg : Str → Option Value} {base : Heap} {x : Str} {st : Stmt} {N ps : List Str} {k : Nat} {sp : Sp}
theorem Df.ok0 (D : Df K mg x st ps) (S : FnScope N ps (defScope st)) (len : ∀ vs H Q E, sp vs H Q E → vs.length = ps.length)
    (hbody : ∀ (f : Addr) (cdv : Value) (A : Around) (outer : List Env) (s : Shared) (H : Hp) (vs : List V) (Q : VK) (E : XK), Room k (A.deeper (envOfC x (defScope st) s.heap.objs.size f cdv)) → sp vs H Q E →
      ∃ t, PSs (cxOf (CXE P w) P w K mg base N x (defScope st) f cdv A outer s H E).nox (defBody st) t ∧ t { nx := fun _ H' => Q .non H', rt := Q } (start N vs) H) : Fn P w K mg base (k + 1) x ps sp := by
  obtain ⟨f, fd, ⟨⟨oc, od, dV, kV, doc, pm, an, cdv, ct, osl, rfl, lk, hcd⟩, kp⟩, bd, hm⟩ := D.ex
  refine ⟨f, _, fn_of lk hcd S len fun A outer s H vs Q E hr hsp => ?_, hm, kp, bd, _, _, _, lk⟩
  obtain ⟨t, h, q⟩ := hbody f cdv A outer s H vs Q E hr hsp
  exact ⟨t, h.nox, q⟩
end
section
variable {X : Cx} {k k' : Nat} {x : Str} {ps : List Str} {sp : Sp} {E : XK} {p pos : Pos} {e : Expr} {es : List Expr} {t : TA}
theorem pe_fn (F : Fn X.prog X.w X.K X.mg X.base k x ps sp) (hk : k ≤ k') (hr : Room k' X.A) (hg : Gl X x) (hx : Passes (CXE X.prog X.w) X E) (ha : PA X (e :: es) t) (hdb : (x == ("__debug__" : Str)) = false := by decide)
    (he : starEach (e :: es) X.env = (false, eval e X.env) :: starEach es X.env := by rfl) (hpl : (backTo pos (starEach es X.env)).any (·.1) = false := by rfl) : PE X (.Call (.Name x p) (e :: es) [] pos) (tCall sp [] E t) := by
  obtain ⟨f, fd, G, hm, kp, bd, _⟩ := F.ex
  exact pe_call G (hr.mono hk) hg hm kp bd .nil hx ha hdb he hpl
end
end Kw
set_option Elab.async false
set_option linter.all false
set_option maxRecDepth 100000
set_option maxHeartbeats 4000000
namespace Kw
open PySem PySem.Spec PyProof.Rows L2
noncomputable def Bd (n : Nat) (i : Int) : Prop := i.natAbs < 2 ^ n
theorem Bd.mono {m n : Nat} {i : Int} (h : Bd m i) (l : m ≤ n) : Bd n i := Nat.lt_of_lt_of_le h (Nat.pow_le_pow_right (by decide) l)
theorem Bd.of_le {n : Nat} {i j : Int} (h : Bd n j) (l : i.natAbs ≤ j.natAbs) : Bd n i := Nat.lt_of_le_of_lt l h
theorem Bd.bits {n : Nat} {i : Int} (h : Bd n i) : Builtin.Int.intBits i ≤ n := intBits_le_iff.mpr h
theorem bd_bits {n : Nat} {i : Int} (h : Builtin.Int.intBits i ≤ n) : Bd n i := intBits_le_iff.mp h
theorem Bd.mul {m n : Nat} {i j : Int} (h : Bd m i) (g : Bd n j) : Bd (m + n) (i * j) := bd_bits (intBits_mul_le h.bits g.bits)
theorem Bd.add {m : Nat} {i j : Int} (h : Bd m i) (g : Bd m j) : Bd (m + 1) (i + j) := bd_bits (Nat.le_trans (intBits_add_le h.bits g.bits) (by omega))
theorem Bd.sub {m : Nat} {i j : Int} (h : Bd m i) (g : Bd m j) : Bd (m + 1) (i - j) := bd_bits (Nat.le_trans (intBits_sub_le h.bits g.bits) (by omega))
theorem Bd.ok {m n : Nat} {i j : Int} (h : Bd m i) (g : Bd n j) (l : m + n ≤ 134217728) : IntMulOk i j := .of_le h.bits g.bits l
theorem Bd.small {i : Int} (h1 : -(2 ^ 64) < i) (h2 : i < 2 ^ 64) : Bd 64 i := bd_bits (intBits_le_64 h1 h2)
theorem Bd.log {i : Int} (h : Bd 9000 i) : i.natAbs.log2 < 9000 := by
  by_cases h0 : i.natAbs = 0
  · rw [h0]; decide +kernel
  · exact (Nat.log2_lt h0).mpr h
theorem mulOk_small {i j : Int} (h1 : -(2 ^ 64) < j) (h2 : j < 2 ^ 64) : IntMulOk i j := .of_right (intBits_le_64 h1 h2)
theorem mulOk_smallL {i j : Int} (h1 : -(2 ^ 64) < i) (h2 : i < 2 ^ 64) : IntMulOk i j := .of_left (intBits_le_64 h1 h2)
theorem bd_fT {n : Nat} {t b : Int} (h : b ≠ 0) (g : Bd n t) : Bd n (fT t b) := g.of_le (fT_le h)
theorem bd_fB {n : Nat} {t b : Int} (h : b ≠ 0) (g : Bd n b) : Bd n (fB t b) := g.of_le (fB_le h)
theorem bd_dv {n : Nat} {t b : Int} (h : b ≠ 0) (g : Bd n b) : Bd n (dv t b) := g.of_le (dv_le h)
section
variable {K : PySem.W.Frag}
theorem kit_int_int : PySem.W.kitOne K (.type "int") (.type "int") = some true := by with_unfolding_all rfl
theorem kit_int_bool : PySem.W.kitOne K (.type "int") (.type "bool") = some false := by with_unfolding_all rfl
theorem kit_tup_tup : PySem.W.kitOne K (.type "tuple") (.type "tuple") = some true := by with_unfolding_all rfl
end
noncomputable def spWhole (K : PySem.W.Frag) : Sp := fun vs H Q _ => ∃ x t b1 b2, vs = [x] ∧ TyOf K H x t ∧ PySem.W.kitOne K t (.type "int") = some b1 ∧ PySem.W.kitOne K t (.type "bool") = some b2 ∧ Q (.bl (b1 && !b2)) H
noncomputable def Frac (t b : Int) (H : Hp) (Q : VK) : Prop := ∀ p H', Same H H' → H' p = some (.tup [.int (fT t b), .int (fB t b)]) → Q (.ref p) H'
noncomputable def Scr (K : PySem.W.Frag) (H : Hp) (a : Addr) : Prop := ∃ ns : List Int, SqL K H a (ns.map V.int) ∧ ns.length ≤ 63 ∧ ∀ n ∈ ns, Bd 1048576 n
noncomputable def spCell (K : PySem.W.Frag) : Sp := fun vs H Q _ => ∃ a k, vs = [.ref a, .int k] ∧ Scr K H a ∧ 0 ≤ k ∧ k ≤ 1000 ∧ ∀ c, Bd 1048576 c → Q (.int c) H
noncomputable def spMix : Sp := fun vs H Q _ => ∃ c k, vs = [.int c, .int k] ∧ Bd 1048576 c ∧ 0 ≤ k ∧ k ≤ 1000 ∧ ∀ n, Q (.int n) H
noncomputable def spBox (K : PySem.W.Frag) : Sp := fun vs H Q _ => ∃ a k, vs = [.ref a, .int k] ∧ Scr K H a ∧ 0 ≤ k ∧ k ≤ 1000 ∧ ∀ p n H', H p = none → Same H H' → H' p = some (.lst [.int n]) → Q (.ref p) H'
noncomputable def spTake : Sp := fun vs H Q _ => ∃ b m n, vs = [.ref b, .int m] ∧ H b = some (.lst [.int n]) ∧ 0 < m ∧ Bd 9000 m ∧ ∀ d n' H', 0 ≤ d → d < m → But b H H' → H' b = some (.lst [.int n']) → Q (.int d) H'
end Kw
set_option Elab.async false
set_option linter.all false
set_option maxRecDepth 100000
set_option maxHeartbeats 4000000
namespace Kw
open PySem PySem.Spec PyProof.Rows L2
section
variable {X : Cx} {pins : List (Addr × Obj)} {σ : L2.St} {H : Hp} {s : Shared} {h' : Heap} {ch : List Addr} {x : Addr}
theorem Inv.adopt (hcl : ∀ y c, X.env.cells.lookup y = some c → c ≠ x)   {o : HO} (I : Inv X pins σ H s) (n0 : X.s₀.heap.get? x = none) (hx : H x = none) (hL : x ≠ X.env.locals) (np : ∀ p ∈ X.pn ++ pins, p.1 ≠ x) (ok : ObjOk X.prog X.w (upd H x o) s.heap x o) :
    Inv X pins σ (upd H x o) s := by
  have nx : ∀ b, H b ≠ none → b ≠ x := fun b hb z => hb (by rw [z]; exact hx)
  refine ⟨I.ok, I.os, I.bare, ⟨I.base.keep, I.base.slot, fun b ob q n hb => ?_, I.base.there, fun b xs q => ?_, fun b ob u q => ?_, fun b ps q => ?_⟩, I.loc, I.cell, ?_, fun y c z => ?_, fun p hp => ?_, fun a u e => ?_, I.len⟩
  · rw [upd_ne fun z => by rw [z, n0] at q; cases q]
    exact I.base.free b ob q n hb
  · have z := I.base.tups b xs q
    rw [upd_ne (nx b (by rw [z]; exact fun q => nomatch q))]
    exact z
  · have z := I.base.frzs b ob u q
    rw [upd_ne (nx b (by rw [z]; exact fun q => nomatch q))]
    exact z
  · obtain ⟨more, z⟩ := I.base.tbls b ps q
    exact ⟨more, by rw [upd_ne (nx b (by rw [z]; exact fun q => nomatch q))]; exact z⟩
  · rw [upd_ne (Ne.symm hL)]
    exact I.free
  · rw [upd_ne (hcl y c z)]
    exact I.freeC y c z
  · obtain ⟨a, b, c, d, e⟩ := I.pin p hp
    exact ⟨a, by rw [upd_ne (np p hp)]; exact b, c, d, e⟩
  · by_cases z : a = x
    · subst z
      rw [upd_same] at e
      cases e
      exact ok
    · rw [upd_ne z] at e
      refine (I.hok a u e).stay (fun b v hb q => q) (fun b q => ?_) fun b xs q => ?_
      · rw [upd_ne (nx b (by rw [q]; exact fun q => nomatch q))]
        exact q
      · rw [upd_ne (nx b (by rw [q]; exact fun q => nomatch q))]
        exact q
end
end Kw
set_option Elab.async false
set_option linter.all false
set_option maxRecDepth 100000
set_option maxHeartbeats 4000000
namespace Kw
open PySem PySem.Spec PyProof.Rows L2
section
variable {X : Cx} {pins : List (Addr × Obj)} {σ : L2.St} {H : Hp} {s : Shared}
end
section
variable {X : Cx} {k k' i j : Nat} {fx y n xK : Str} {ps : List Str} {sp : Sp} {CK : Addr} {e : Expr} {es : List Expr} {t : TA} {ts : TS} {b₀ : Stmt} {suite : List Stmt} {np cpos yp apos kp hpos pos : Pos}
end
end Kw
set_option Elab.async false
set_option linter.all false
set_option maxRecDepth 100000
set_option maxHeartbeats 4000000
namespace Kw
open PySem PySem.Spec PyProof.Rows L2
section
variable {X : Cx}
end
end Kw
set_option Elab.async false
set_option linter.all false
set_option maxRecDepth 100000
set_option maxHeartbeats 4000000
namespace Kw
open PySem PySem.Spec PyProof.Rows L2
section
variable {X : Cx} {pins : List (Addr × Obj)} {σ : L2.St} {H : Hp} {s : Shared} {h' : Heap} {ch : List Addr}
theorem Inv.turnedL {t' : Nat} (I : Inv X pins σ H s) (k : ∀ b o, b ∉ ch → s.heap.get? b = some o → h'.get? b = some o) (hf : ∀ b ∈ ch, FpOk X pins H b) : Inv X pins σ H { s with heap := h', toks := t' } := by
  have nit : ∀ b u, H b = some u → b ∉ ch := fun b u e z => by rw [(hf b z).1] at e; cases e
  refine I.step (g' := s.gens) (d' := s.drawn) (ch := ch) (fun b hb => ?_) (fun b o _ _ hc e _ => k b o hc e) (fun b o _ _ hc e _ => ⟨o.slots, k b o hc e⟩) (fun _ _ _ _ n => n) (fun b o hc e => ⟨o, k b o hc e⟩) (fun _ _ e => e) (fun _ _ _ e => e)
    (fun b ps e => ⟨#[], by rw [e]; simp⟩) (fun m hm => ?_) (fun b u e => ?_) I.bare
  · obtain ⟨_, f1, _, f3, f4, f5⟩ := hf b hb
    exact ⟨f3, f1, f4, f5⟩
  · obtain ⟨o, es, ep, ho, r⟩ := hm
    exact ⟨o, es, ep, k _ o (fun z => (hf _ z).2.1 rfl) ho, r⟩
  · refine (I.hok b u e).stay (fun c v hc q => k c v ?_ q) (fun _ q => q) fun _ _ q => q
    rcases hc with z | z
    · rw [z]; exact nit b u e
    · exact nit c _ z
end
end Kw
set_option Elab.async false
set_option linter.all false
set_option maxRecDepth 100000
set_option maxHeartbeats 4000000
namespace Kw
open PySem PySem.Spec PyProof.Rows L2
section
variable {X : Cx}
theorem all_range_eq : ∀ (ns ms : List Int), ((List.range (min ns.length ms.length)).all (fun j => decide (ns[j]? = ms[j]?)) && ns.length == ms.length) = decide (ns = ms) := by
  intro ns ms
  by_cases e : ns = ms
  · subst e
    rw [decide_eq_true rfl, Bool.and_eq_true]
    exact ⟨List.all_eq_true.mpr fun j _ => decide_eq_true rfl, beq_self_eq_true _⟩
  · rw [decide_eq_false e, Bool.and_eq_false_iff]
    by_cases l : ns.length = ms.length
    · left
      refine Bool.eq_false_iff.mpr fun h => e (List.ext_getElem? fun i => ?_)
      by_cases hi : i < ns.length
      · exact of_decide_eq_true (List.all_eq_true.mp h i (List.mem_range.mpr (by omega)))
      · rw [List.getElem?_eq_none (by omega), List.getElem?_eq_none (by omega)]
    · right
      exact beq_eq_false_iff_ne.mpr l
theorem int_item {ns : List Int} {its : List Value} (r : Vals (ns.map V.int) its) {j : Nat} (h : j < its.toArray.size) : ∃ n t, ns[j]? = some n ∧ its.toArray[j] = Value.int n t := by
  have hl := r.length
  rw [List.length_map] at hl
  have hj : j < ns.length := by simp at h; omega
  have e : (ns.map V.int)[j]? = some (V.int ns[j]) := by rw [List.getElem?_map, List.getElem?_eq_getElem hj]; rfl
  obtain ⟨u, hu, t, rfl⟩ := r.get e
  refine ⟨ns[j], t, List.getElem?_eq_getElem hj, ?_⟩
  have hj' : j < its.length := by omega
  rw [List.getElem?_eq_getElem hj'] at hu
  simpa using Option.some.inj hu
theorem op_eqTI (hu : X.A.units < cLine) : OpR X (compareOp .Eq) (fun x y H Q => ∃ (a b : Addr) (ns ms : List Int), x = .ref a ∧ y = .ref b ∧ SqT X.K H a (ns.map V.int) ∧ SqT X.K H b (ms.map V.int) ∧ Q (.bl (decide (ns = ms))) H) := by
  intro pins s σ H x y v u Q I rx ry h
  obtain ⟨a, b, ns, ms, rfl, rfl, ha, hb, q⟩ := h
  cases (show v = Value.ref a from rx)
  cases (show u = Value.ref b from ry)
  obtain ⟨its, r, pl, hz⟩ := I.tuple ha
  obtain ⟨jts, r', pl', hz'⟩ := I.tuple hb
  refine SeqAt.eq_tupleAt (e := fun j => decide (ns[j]? = ms[j]?)) pl pl' hu (fun j h1 h2 => ?_) ?_
  · obtain ⟨n, t, e1, e2⟩ := int_item r h1
    obtain ⟨m, t', e3, e4⟩ := int_item r' h2
    rw [e2, e4, e1, e3]
    have z : decide (some n = some m) = (n == m) := by
      by_cases c : n = m
      · subst c; simp
      · simp [c]
    rw [z]
    exact SeqAt.EqAt.int_int n t m t'
  · have l1 : its.toArray.size = ns.length := by rw [List.size_toArray, ← r.length, List.length_map]
    have l2 : jts.toArray.size = ms.length := by rw [List.size_toArray, ← r'.length, List.length_map]
    rw [l1, l2, all_range_eq]
    exact ⟨.bl (decide (ns = ms)), H, I, rfl, q⟩
end
end Kw
set_option Elab.async false
set_option linter.all false
set_option maxRecDepth 100000
set_option maxHeartbeats 4000000
namespace Kw
open PySem PySem.Spec PyProof.Rows L2
theorem weight_items : ∀ (ns : List Int) (n : Int), n ∈ ns → Builtin.Int.intBits n ≤ PySem.W.WData.weightAll (ns.map PySem.W.WData.int)
  | [], _, h => nomatch h
  | m :: r, n, h => by
    have e : PySem.W.WData.weightAll ((m :: r).map PySem.W.WData.int) = Builtin.Int.intBits m + 1 + PySem.W.WData.weightAll (r.map PySem.W.WData.int) := rfl
    rw [e]
    rcases List.mem_cons.mp h with z | z
    · subst z; omega
    · have := weight_items r n z
      omega
theorem script_bits {ns : List Int} (h : PySem.W.WData.layableAll [PySem.W.WData.list (ns.map PySem.W.WData.int)] = true) : ∀ n ∈ ns, Bd 1048576 n := fun n hn => by
  have h1 : PySem.W.WData.layable (PySem.W.WData.list (ns.map PySem.W.WData.int)) = true := by
    unfold PySem.W.WData.layableAll at h
    simpa using h
  unfold PySem.W.WData.layable at h1
  rw [Bool.and_eq_true] at h1
  have h2 : PySem.W.WData.weightAll (ns.map PySem.W.WData.int) ≤ 2 ^ 20 := of_decide_eq_true h1.2
  exact bd_bits (Nat.le_trans (weight_items ns n hn) h2)
noncomputable def spLaw (K : PySem.W.Frag) : Sp := fun vs H Q _ => ∃ a, vs = [.ref a] ∧ Scr K H a ∧ ∀ H', Q (.bl true) H'
theorem walk_kw {pn : Str} {l : PySem.W.OpenLaw} {k : Nat} {q : Program} {loose : List Str} {XP : (Str → Option Value) → Heap → Prop} {YP : World → Heap → Prop} {d : DefRec} {K : Params → PySem.W.Frag}
    (hn : l.most = some 63) (hdf : d.params.defaults = []) (hr : Room k callerA) (hY : ∀ (w : World) (h : Heap), YP w h → (K w.params).In h) (hnm : d.name = "law")
    (F : ∀ (w : World) (mg : Str → Option Value) (h : Heap), (K w.params).In h → h.Ns mainGlobals mg → ∃ fa, mg "law" = some (.ref fa) ∧ ∃ fd : FuncData, (∀ (s : Shared) (u : Value), BindsTo s fd ⟨[u], []⟩ [(pn, u)]) ∧
      ∀ base : Heap, (K w.params).In base → base.Ns mainGlobals mg → FnOk l.prog w (K w.params) mg base (CXE l.prog w) k fa fd [pn] (spLaw (K w.params))) :
    PySem.W.WalkO q loose XP YP l.row.toRowW d [] (fun f vs => PySem.call f vs) := by
  intro w s₀ s₁ mg mb G Y fa o pm cd doc dV kV ho hd hcd hD hmg hg args vals as hpre hlay hrd hwl hlo
  obtain ⟨a, vs, ns, e1, e2, hobj, hints, hlen⟩ := Att.script_of hn hpre hwl
  subst e1 e2
  have KX := hY w _ Y
  obtain ⟨fa', hfa, fd, hb, hF⟩ := F w mg _ KX G.T.g
  rw [hnm, hfa] at hmg
  cases hmg
  have core := law_call KX G.T.g G.T.b G.T.builtins G.T.nolimit hg hobj hints (Nat.le_trans hlen (by decide)) hr hF hb (fun H hO hS => ⟨a, rfl, ⟨ns, hS, hlen, script_bits hlay⟩, fun _ => rfl⟩) (fun H e s' z => by
    obtain ⟨_, _, _, _, _, _, _, _, _, _, z⟩ := z
    exact z)
  refine PySem.W.enter_call (codeAny_mono core fun r s' hq => ?_)
  obtain ⟨rfl, h2, h3, h4⟩ := hq
  exact ⟨.inl ⟨.bool true, .bool true, [], rfl, fun _ => rfl, .bool true, Att.post_true l _, fun _ => ⟨List.Pairwise.nil, fun _ hm => (nomatch hm)⟩⟩, h2, h3, h4⟩
theorem df_mk {K : PySem.W.Frag} {h : Heap} {mg : Str → Option Value} {x : Str} {st : Stmt} {ps : List Str} {f : Addr} {od an : Option Addr} {sl : Array (Option Value)} {oc kV dc pm cd ct : Value} (X : K.In h) (G : h.Ns mainGlobals mg)
    (a : PySem.W.nsIn K mainGlobals x = some (some (.ref f))) (l : K.lookup f = some ⟨oc, od, .func (PySem.W.fnOf x x (defArgs st) (defBody st) (defScope st) .none kV dc pm an cd ct), sl⟩) (c : PySem.W.codeIn K cd x = true) (k : PySem.W.keepIn K (.ref f) = true)
    (b : ∀ us : List Value, us.length = ps.length → bindArgs (PySem.W.fnOf x x (defArgs st) (defBody st) (defScope st) .none kV dc pm an cd ct) ⟨us, []⟩ = pure (ps.zip us)) : Df K mg x st ps :=
  ⟨f, _, ⟨⟨oc, od, .none, kV, dc, pm, an, cd, ct, sl, rfl, l, c⟩, k⟩, .all b, PySem.W.mg_of X G a⟩
theorem df_mkD {K : PySem.W.Frag} {h : Heap} {mg : Str → Option Value} {x : Str} {st : Stmt} {ps : List Str} {f D : Addr} {od an oD : Option Addr} {sl slD : Array (Option Value)} {oc kV dc pm cd ct cD : Value} {items : Array Value} {n : Nat} (X : K.In h) (G : h.Ns mainGlobals mg)
    (a : PySem.W.nsIn K mainGlobals x = some (some (.ref f))) (l : K.lookup f = some ⟨oc, od, .func (PySem.W.fnOf x x (defArgs st) (defBody st) (defScope st) (.ref D) kV dc pm an cd ct), sl⟩) (c : PySem.W.codeIn K cd x = true) (k : PySem.W.keepIn K (.ref f) = true)
    (lD : K.lookup D = some ⟨cD, oD, .seq items n, slD⟩)
    (b : ∀ us : List Value, us.length = ps.length → ∃ kk : Option (Array Value) → Sem (List (Str × Value)), bindArgs (PySem.W.fnOf x x (defArgs st) (defBody st) (defScope st) (.ref D) kV dc pm an cd ct) ⟨us, []⟩ = seqItems? (.ref D) >>= kk ∧ kk (some items) = pure (ps.zip us)) : Df K mg x st ps :=
  ⟨f, _, ⟨⟨oc, od, .ref D, kV, dc, pm, an, cd, ct, sl, rfl, l, c⟩, k⟩, fun s us hk hl => by
    rw [List.append_nil] at hl ⊢
    obtain ⟨kk, h1, h2⟩ := b us hl
    exact BindsTo.of_defaults rfl (hk _ _ lD) rfl h1 h2, PySem.W.mg_of X G a⟩
theorem law_end {pn : Str} {P : Program} {w : World} {K : PySem.W.Frag} {h : Heap} {mg : Str → Option Value} {st : Stmt} {f : Addr} {od an : Option Addr} {sl : Array (Option Value)} {oc kV dc pm cd ct : Value} {k : Nat} (X : K.In h) (G : h.Ns mainGlobals mg)
    (a : PySem.W.nsIn K mainGlobals "law" = some (some (.ref f))) (l : K.lookup f = some ⟨oc, od, .func (PySem.W.fnOf "law" "law" (defArgs st) (defBody st) (defScope st) .none kV dc pm an cd ct), sl⟩)
    (b : ∀ u : Value, bindArgs (PySem.W.fnOf "law" "law" (defArgs st) (defBody st) (defScope st) .none kV dc pm an cd ct) ⟨[u], []⟩ = pure [(pn, u)])
    (F : ∀ base : Heap, K.In base → base.Ns mainGlobals mg → Fn P w K mg base k "law" [pn] (spLaw K)) :
    ∃ fa, mg "law" = some (.ref fa) ∧ ∃ fd : FuncData, (∀ (s : Shared) (u : Value), BindsTo s fd ⟨[u], []⟩ [(pn, u)]) ∧ ∀ base : Heap, K.In base → base.Ns mainGlobals mg → FnOk P w K mg base (CXE P w) k fa fd [pn] (spLaw K) := by
  have hm := PySem.W.mg_of X G a
  refine ⟨f, hm, _, fun s u => .of_eq (b u), fun base kb nb => ?_⟩
  obtain ⟨f', fd', G', hm', _, _, _, _, _, lk⟩ := (F base kb nb).ex
  rw [hm] at hm'
  cases hm'
  rw [l] at lk
  cases lk
  exact G'
end Kw
set_option maxRecDepth 100000
namespace Kw
theorem q_of {n d : Int} (hd : 0 < d) (hg : Int.gcd n d = 1) : (Rat.divInt n d).num = n ∧ (((Rat.divInt n d).den : Nat) : Int) = d := by
  rw [Rat.num_divInt, Rat.den_divInt, Int.gcd_comm, hg, Int.sign_eq_one_of_pos hd, if_neg (by omega)]
  constructor
  · simp
  · simp; omega
theorem q_is {q : Rat} {n d : Int} (hd : 0 < d) (hg : Int.gcd n d = 1) (e : q = Rat.divInt n d) : n = q.num ∧ d = ((q.den : Nat) : Int) := by
  subst e
  obtain ⟨a, b⟩ := q_of hd hg
  exact ⟨a.symm, b.symm⟩
theorem gcd_fT_fB {t b : Int} (h : b ≠ 0) : Int.gcd (fT t b) (fB t b) = 1 := by
  have hp : 0 < Int.gcd t b := Int.gcd_pos_of_ne_zero_right _ h
  have e1 := fT_mul t b
  have e2 := fB_mul t b
  have e : Int.gcd (dv t b * fT t b) (dv t b * fB t b) = (dv t b).natAbs * Int.gcd (fT t b) (fB t b) := Int.gcd_mul_left ..
  rw [e1, e2] at e
  have hn : (dv t b).natAbs = Int.gcd t b := by unfold dv; split <;> simp
  rw [hn] at e
  exact Nat.eq_of_mul_eq_mul_left hp (by omega)
theorem q_fit {t b : Int} (h : b ≠ 0) : fT t b = (Rat.divInt t b).num ∧ fB t b = (((Rat.divInt t b).den : Nat) : Int) := by
  refine q_is (fB_pos h) (gcd_fT_fB h) ?_
  have e := Rat.divInt_mul_left (n := fT t b) (d := fB t b) (dv_ne (t := t) h)
  rw [fT_mul, fB_mul] at e
  exact e
theorem q_red (q : Rat) : Int.gcd q.num ((q.den : Nat) : Int) = 1 := by
  have := q.reduced
  simpa [Int.gcd, Nat.Coprime] using this
theorem q_pos (q : Rat) : 0 < ((q.den : Nat) : Int) := by
  have := q.den_nz
  omega
theorem q_add (x y : Rat) : Rat.divInt (x.num * y.den + y.num * x.den) (x.den * y.den) = x + y := by
  conv => rhs; rw [← Rat.num_divInt_den x, ← Rat.num_divInt_den y]
  rw [Rat.divInt_add_divInt _ _ (by have := q_pos x; omega) (by have := q_pos y; omega)]
theorem q_sub (x y : Rat) : Rat.divInt (x.num * y.den - y.num * x.den) (x.den * y.den) = x - y := by
  conv => rhs; rw [← Rat.num_divInt_den x, ← Rat.num_divInt_den y]
  rw [Rat.divInt_sub_divInt _ _ (by have := q_pos x; omega) (by have := q_pos y; omega)]
theorem q_mul (x y : Rat) : Rat.divInt (x.num * y.num) (x.den * y.den) = x * y := by
  conv => rhs; rw [← Rat.num_divInt_den x, ← Rat.num_divInt_den y]
  rw [Rat.divInt_mul_divInt]
theorem q_inv (y : Rat) : Rat.divInt y.den y.num = y⁻¹ := by
  conv => rhs; rw [← Rat.num_divInt_den y]
  rw [Rat.inv_divInt]
theorem q_div (x y : Rat) : Rat.divInt (x.num * y.den) (x.den * y.num) = x / y := by
  rw [Rat.div_def, ← q_inv]
  conv => rhs; rw [← Rat.num_divInt_den x]
  rw [Rat.divInt_mul_divInt]
theorem q_neg (y : Rat) : (-y).num = -y.num ∧ (-y).den = y.den := ⟨rfl, rfl⟩
theorem q_lt (x y : Rat) : x < y ↔ x.num * y.den < y.num * x.den := Rat.lt_iff x y
theorem fd_mul {x g : Int} (h : g ∣ x) : g * x.fdiv g = x := Int.mul_fdiv_cancel' h
theorem quot_dvd {x g : Int} (h : g ∣ x) : x.fdiv g ∣ x := ⟨g, by rw [Int.mul_comm]; exact (fd_mul h).symm⟩
theorem cop_dvd {a b b' : Int} (h : Int.gcd a b = 1) (d : b' ∣ b) : Int.gcd a b' = 1 := by
  have h1 : Int.gcd a b' ∣ Int.gcd a b := Int.dvd_gcd (Int.gcd_dvd_left ..) (Int.dvd_trans (Int.gcd_dvd_right ..) d)
  rw [h] at h1
  exact Nat.dvd_one.mp h1
theorem cop_mul {a b c : Int} (h : Int.gcd a b = 1) (k : Int.gcd a c = 1) : Int.gcd a (b * c) = 1 := by
  show Nat.gcd a.natAbs (b * c).natAbs = 1
  rw [Int.natAbs_mul]
  exact Nat.Coprime.mul_right h k
theorem cop_add {a b c : Int} (h : Int.gcd a b = 1) : Int.gcd (a + c * b) b = 1 := by
  rw [Int.gcd_add_mul_right_left]; exact h
theorem cop_quot {a b : Int} (h : b ≠ 0) (g : Int) (hg : g = ((Int.gcd a b : Nat) : Int)) : Int.gcd (a.fdiv g) (b.fdiv g) = 1 := by
  have hp : 0 < Int.gcd a b := Int.gcd_pos_of_ne_zero_right _ h
  have e1 : g * a.fdiv g = a := fd_mul (by rw [hg]; exact Int.gcd_dvd_left ..)
  have e2 : g * b.fdiv g = b := fd_mul (by rw [hg]; exact Int.gcd_dvd_right ..)
  have e : Int.gcd (g * a.fdiv g) (g * b.fdiv g) = g.natAbs * Int.gcd (a.fdiv g) (b.fdiv g) := Int.gcd_mul_left ..
  rw [e1, e2] at e
  have hn : g.natAbs = Int.gcd a b := by rw [hg]; simp
  rw [hn] at e
  exact Nat.eq_of_mul_eq_mul_left hp (by omega)
theorem quot_pos {b g : Int} (hb : 0 < b) (hg : 0 < g) (d : g ∣ b) : 0 < b.fdiv g := by
  have e := fd_mul d
  refine Int.not_le.mp fun q => ?_
  have := Int.mul_nonpos_of_nonneg_of_nonpos (Int.le_of_lt hg) q
  omega
theorem gpos {a b : Int} (h : b ≠ 0) : 0 < ((Int.gcd a b : Nat) : Int) := by
  have := Int.gcd_pos_of_ne_zero_right a h
  omega
theorem q_plus (x y : Rat) (g t h : Int) (hg : g = ((Int.gcd ((x.den : Nat) : Int) ((y.den : Nat) : Int) : Nat) : Int)) (ht : t = x.num * ((y.den : Nat) : Int).fdiv g + y.num * ((x.den : Nat) : Int).fdiv g) (hh : h = ((Int.gcd t g : Nat) : Int)) :
    t.fdiv h = (x + y).num ∧ ((x.den : Nat) : Int).fdiv g * ((y.den : Nat) : Int).fdiv h = (((x + y).den : Nat) : Int) := by
  have hb := q_pos x
  have hd := q_pos y
  have rx := q_red x
  have ry := q_red y
  have ea := q_add x y
  revert hb hd rx ry hg ht ea
  generalize x.num = a
  generalize y.num = c
  generalize ((x.den : Nat) : Int) = b
  generalize ((y.den : Nat) : Int) = d
  intro hg ht hb hd rx ry ea
  have g0 : 0 < g := by rw [hg]; exact gpos (by omega)
  have h0 : 0 < h := by rw [hh]; exact gpos (by omega)
  have gb : g ∣ b := by rw [hg]; exact Int.gcd_dvd_left ..
  have gd : g ∣ d := by rw [hg]; exact Int.gcd_dvd_right ..
  have hht : h ∣ t := by rw [hh]; exact Int.gcd_dvd_left ..
  have hhg : h ∣ g := by rw [hh]; exact Int.gcd_dvd_right ..
  have eb := fd_mul gb
  have ed := fd_mul gd
  have et := fd_mul hht
  have eg := fd_mul hhg
  have b0 := quot_pos hb g0 gb
  have d0 := quot_pos hd g0 gd
  have k0 := quot_pos g0 h0 hhg
  have cbd : Int.gcd (b.fdiv g) (d.fdiv g) = 1 := cop_quot (by omega) g hg
  have ctg : Int.gcd (t.fdiv h) (g.fdiv h) = 1 := cop_quot (by omega) h hh
  have dh : d.fdiv h = g.fdiv h * d.fdiv g := by
    have e := fd_mul (Int.dvd_trans hhg gd)
    have e2 : h * (g.fdiv h * d.fdiv g) = d := by rw [← Int.mul_assoc, eg, ed]
    exact Int.eq_of_mul_eq_mul_left (by omega) (e.trans e2.symm)
  have ct1 : Int.gcd t (b.fdiv g) = 1 := by
    rw [ht]
    refine cop_add ?_
    rw [Int.gcd_comm]
    exact cop_mul (by rw [Int.gcd_comm]; exact cop_dvd rx ⟨g, by rw [Int.mul_comm]; exact eb.symm⟩) cbd
  have ct2 : Int.gcd t (d.fdiv g) = 1 := by
    rw [ht, Int.add_comm]
    refine cop_add ?_
    rw [Int.gcd_comm]
    exact cop_mul (by rw [Int.gcd_comm]; exact cop_dvd ry ⟨g, by rw [Int.mul_comm]; exact ed.symm⟩) (by rw [Int.gcd_comm]; exact cbd)
  have sub : ∀ z, Int.gcd t z = 1 → Int.gcd (t.fdiv h) z = 1 := fun z hz => by
    rw [Int.gcd_comm] at hz ⊢
    exact cop_dvd hz ⟨h, by rw [Int.mul_comm]; exact et.symm⟩
  rw [dh]
  refine q_is ?_ ?_ ?_
  · exact Int.mul_pos b0 (Int.mul_pos k0 d0)
  · exact cop_mul (sub _ ct1) (cop_mul ctg (sub _ ct2))
  · rw [← ea]
    have z := Rat.divInt_mul_left (n := t.fdiv h) (d := b.fdiv g * (g.fdiv h * d.fdiv g)) (a := g * h) (by have := Int.mul_pos g0 h0; omega)
    rw [← z]
    congr 1
    · rw [Int.mul_assoc, et, ht, Int.mul_add]
      congr 1
      · rw [← Int.mul_assoc, Int.mul_comm g, Int.mul_assoc, ed]
      · rw [← Int.mul_assoc, Int.mul_comm g, Int.mul_assoc, eb]
    · rw [show g * h * (b.fdiv g * (g.fdiv h * d.fdiv g)) = (g * b.fdiv g) * ((h * g.fdiv h) * d.fdiv g) by grind, eb, eg, ed]
theorem q_times (x y : Rat) (f s : Int) (hf : f = ((Int.gcd x.num ((y.den : Nat) : Int) : Nat) : Int)) (hs : s = ((Int.gcd y.num ((x.den : Nat) : Int) : Nat) : Int)) :
    x.num.fdiv f * y.num.fdiv s = (x * y).num ∧ ((x.den : Nat) : Int).fdiv s * ((y.den : Nat) : Int).fdiv f = (((x * y).den : Nat) : Int) := by
  have hb := q_pos x
  have hd := q_pos y
  have rx := q_red x
  have ry := q_red y
  have ea := q_mul x y
  revert hb hd rx ry hf hs ea
  generalize x.num = a
  generalize y.num = c
  generalize ((x.den : Nat) : Int) = b
  generalize ((y.den : Nat) : Int) = d
  intro hf hs hb hd rx ry ea
  have f0 : 0 < f := by rw [hf]; exact gpos (by omega)
  have s0 : 0 < s := by rw [hs]; exact gpos (by omega)
  have fa : f ∣ a := by rw [hf]; exact Int.gcd_dvd_left ..
  have fd : f ∣ d := by rw [hf]; exact Int.gcd_dvd_right ..
  have sc : s ∣ c := by rw [hs]; exact Int.gcd_dvd_left ..
  have sb : s ∣ b := by rw [hs]; exact Int.gcd_dvd_right ..
  have ea' := fd_mul fa
  have ed := fd_mul fd
  have ec := fd_mul sc
  have eb := fd_mul sb
  have c1 : Int.gcd (a.fdiv f) (d.fdiv f) = 1 := cop_quot (by omega) f hf
  have c2 : Int.gcd (c.fdiv s) (b.fdiv s) = 1 := cop_quot (by omega) s hs
  have c3 : Int.gcd (a.fdiv f) (b.fdiv s) = 1 := by
    refine cop_dvd (b := b) ?_ (quot_dvd sb)
    rw [Int.gcd_comm] at rx ⊢
    exact cop_dvd rx (quot_dvd fa)
  have c4 : Int.gcd (c.fdiv s) (d.fdiv f) = 1 := by
    refine cop_dvd (b := d) ?_ (quot_dvd fd)
    rw [Int.gcd_comm] at ry ⊢
    exact cop_dvd ry (quot_dvd sc)
  refine q_is (Int.mul_pos (quot_pos hb s0 sb) (quot_pos hd f0 fd)) ?_ ?_
  · rw [Int.gcd_comm]
    refine cop_mul ?_ ?_
    · rw [Int.gcd_comm]; exact cop_mul c3 c1
    · rw [Int.gcd_comm]; exact cop_mul c2 c4
  · rw [← ea]
    have z := Rat.divInt_mul_left (n := a.fdiv f * c.fdiv s) (d := b.fdiv s * d.fdiv f) (a := f * s) (by have := Int.mul_pos f0 s0; omega)
    rw [← z]
    congr 1
    · rw [show f * s * (a.fdiv f * c.fdiv s) = (f * a.fdiv f) * (s * c.fdiv s) by grind, ea', ec]
    · rw [show f * s * (b.fdiv s * d.fdiv f) = (s * b.fdiv s) * (f * d.fdiv f) by grind, eb, ed]
theorem q_dv (a b : Int) : Rat.divInt a b = (a : Rat) / (b : Rat) := by
  have h := q_div (a : Rat) (b : Rat)
  have e1 : (a : Rat).num * (((b : Rat).den : Nat) : Int) = a := by show a * 1 = a; omega
  have e2 : (((a : Rat).den : Nat) : Int) * (b : Rat).num = b := by show 1 * b = b; omega
  rw [e1, e2] at h
  exact h
theorem q_wpos {i : Int} (h : 1 ≤ i) : (0 : Rat) < (i : Rat) := by
  have : ((0 : Int) : Rat) < (i : Rat) := Rat.intCast_lt_intCast.mpr (by omega)
  exact this
theorem q_divpos {a b : Int} (ha : 0 < a) (hb : 0 < b) : (0 : Rat) < Rat.divInt a b := by
  rw [q_dv]
  rw [Rat.div_def]
  exact Rat.mul_pos (q_wpos (by omega)) (Rat.inv_pos.mpr (q_wpos (by omega)))
noncomputable def mixQ (u v : Rat) (m w : Int) : Rat := u * Rat.divInt (m - w) (m + w) + v * Rat.divInt (2 * w) (m + w)
theorem mixQ_eq (u v : Rat) (m w : Int) : mixQ u v m w = u * (((m : Rat) - w) / (m + w)) + v * ((2 * w) / (m + w)) := by
  unfold mixQ
  rw [q_dv, q_dv]
  simp only [Rat.intCast_add, Rat.intCast_sub, Rat.intCast_mul]
  rfl
theorem q_le0 (x : Rat) : x.num ≤ 0 ↔ ¬ 0 < x := by
  have h := q_lt 0 x
  have e : (0 : Rat).num * (x.den : Int) < x.num * ((0 : Rat).den : Int) ↔ 0 < x.num := by
    show 0 * (x.den : Int) < x.num * 1 ↔ 0 < x.num
    omega
  rw [h, e]
  omega
end Kw
set_option Elab.async false
set_option linter.all false
set_option maxRecDepth 100000
set_option maxHeartbeats 4000000
namespace Kw
open PySem PySem.Spec PyProof.Rows L2 PySem.Builtin PySem.Builtin.ObjectAttr PySem.Builtin.Getset_descriptor
section
variable {prog : Program} {w : World} {A : Around} {E : Value → Shared → Prop} {s : Shared} {K : PySem.W.Frag} {x C : Addr}
end
section
variable {X : Cx}
end
end Kw
set_option Elab.async false
set_option linter.all false
set_option maxRecDepth 100000
set_option maxHeartbeats 4000000
namespace Kw
open PySem PySem.Spec PyProof.Rows L2
mutual
inductive Dp (K : PySem.W.Frag) (H : Hp) : V → PyData → Prop
  | non : Dp K H .non .none
  | bl (b : Bool) : Dp K H (.bl b) (.bool b)
  | int (i : Int) : Dp K H (.int i) (.int i)
  | str (x : Str) : Dp K H (.str x) (.str x)
  | lst {p : Addr} {xs : List V} {ds : List PyData} : SqL K H p xs → Dps K H xs ds → Dp K H (.ref p) (.list ds)
  | tup {p : Addr} {xs : List V} {ds : List PyData} : SqT K H p xs → Dps K H xs ds → Dp K H (.ref p) (.tuple ds)
inductive Dps (K : PySem.W.Frag) (H : Hp) : List V → List PyData → Prop
  | nil : Dps K H [] []
  | cons {x : V} {xs : List V} {d : PyData} {ds : List PyData} : Dp K H x d → Dps K H xs ds → Dps K H (x :: xs) (d :: ds)
end
section
variable {X : Cx} {pins : List (Addr × Obj)} {σ : L2.St} {H : Hp} {s : Shared}
mutual
theorem Dp.reads (I : Inv X pins σ H s) : ∀ {x : V} {d : PyData} {u : Value}, Dp X.K H x d → RelV x u → ∃ as, Reads s.heap u d as
  | _, _, _, .non, r => by cases r; exact ⟨_, .none⟩
  | _, _, _, .bl b, r => by cases r; exact ⟨_, .bool b⟩
  | _, _, _, .int i, r => by obtain ⟨t, rfl⟩ := r; exact ⟨_, .int i t⟩
  | _, _, _, .str x, r => by obtain ⟨t, rfl⟩ := r; exact ⟨_, .str x t⟩
  | _, _, _, .lst h q, r => by
    cases r
    obtain ⟨its, r', pl, hz⟩ := I.list h
    obtain ⟨as, ra⟩ := Dps.reads I q r'
    obtain ⟨o, n, ho, hc, _, hd⟩ := pl
    exact ⟨_, .list ho hc hd ra⟩
  | _, _, _, .tup h q, r => by
    cases r
    obtain ⟨its, r', pl, hz⟩ := I.tuple h
    obtain ⟨as, ra⟩ := Dps.reads I q r'
    obtain ⟨o, ho, hc, n, hd⟩ := pl
    exact ⟨_, .tuple ho hc hd ra⟩
theorem Dps.reads (I : Inv X pins σ H s) : ∀ {xs : List V} {ds : List PyData} {us : List Value}, Dps X.K H xs ds → Vals xs us → ∃ as, ReadsAll s.heap us ds as
  | _, _, _, .nil, r => by cases r; exact ⟨_, .nil⟩
  | _, _, _, .cons h q, r => by
    cases r with
    | cons a b =>
      obtain ⟨as, ra⟩ := Dp.reads I h a
      obtain ⟨bs, rb⟩ := Dps.reads I q b
      exact ⟨_, .cons ra rb⟩
end
noncomputable def rDp (K : PySem.W.Frag) (g : Bool → Bool) : V → V → Hp → VK → Prop := fun x y H Q => ∃ dx dy, Dp K H x dx ∧ Dp K H y dy ∧ dx.canLay0 = true ∧ dy.canLay0 = true ∧ min dx.depth dy.depth ≤ 60 ∧ Q (.bl (g (PyData.eqv dx dy))) H
theorem op_eqD {K : PySem.W.Frag} (hK : X.K = K) (hu : X.A.units + 100 < cLine) : OpR X (compareOp .Eq) (rDp K id) := by
  subst hK
  intro pins s σ H x y v u Q I rx ry h
  obtain ⟨dx, dy, hx, hy, cx, cy, dep, q⟩ := h
  obtain ⟨as, ra⟩ := hx.reads I rx
  obtain ⟨bs, rb⟩ := hy.reads I ry
  exact SeqAt.compareEq_reads ra rb cx cy (by omega) ⟨.bl (PyData.eqv dx dy), H, I, rfl, q⟩
theorem op_neD {K : PySem.W.Frag} (hK : X.K = K) (hu : X.A.units + 100 < cLine) : OpR X (compareOp .NotEq) (rDp K not) := by
  subst hK
  intro pins s σ H x y v u Q I rx ry h
  obtain ⟨dx, dy, hx, hy, cx, cy, dep, q⟩ := h
  obtain ⟨as, ra⟩ := hx.reads I rx
  obtain ⟨bs, rb⟩ := hy.reads I ry
  exact SeqAt.compareNe_reads ra rb cx cy (by omega) ⟨.bl (!PyData.eqv dx dy), H, I, rfl, q⟩
end
end Kw
set_option Elab.async false
set_option linter.all false
set_option maxRecDepth 100000
set_option maxHeartbeats 4000000
namespace Kw
open PySem PySem.Spec PyProof.Rows L2
section
variable {X : Cx} {pos : Pos} {k v : Expr} {x : Str} {i : Int}
end
end Kw
namespace Kw
open PySem PySem.Spec PyProof.Rows L2
section
variable {X : Cx}
end
section
variable {K : PySem.W.Frag} {H H' : Hp} {v : V} {t : Value}
theorem TyOf.same (h : TyOf K H v t) (s : Same H H') : TyOf K H' v t := by
  cases h with
  | non => exact .non
  | bl x => exact .bl x
  | int x => exact .int x
  | str x => exact .str x
  | flt x => exact .flt x
  | lst e => exact .lst (s _ _ e)
  | frz e => exact .frz (s _ _ e)
  | tup e => exact .tup (s _ _ e)
  | dK e => exact .dK (s _ _ e)
  | dT e => exact .dT (s _ _ e)
  | ins e a b c d f => exact .ins (s _ _ e) a b c d f
theorem kit_non_tup : PySem.W.kitOne K (.type "NoneType") (.type "tuple") = some false := by with_unfolding_all rfl
end
end Kw
namespace Kw
open PySem PySem.Spec PyProof.Rows L2
section
variable {X : Cx} {k k' : Nat} {x : Str} {ps : List Str} {sp : Sp} {E : XK} {p pos : Pos} {e : Expr} {es : List Expr} {t : TA} {dv : V}
end
end Kw
namespace Kw
theorem low_iff {t b : Int} (h : 0 < b) : decide ([fT t b, fB t b] = [t, b]) = decide (((Int.gcd t b : Nat) : Int) = 1) := by
  have ed : dv t b = ((Int.gcd t b : Nat) : Int) := by unfold dv; rw [if_neg (by omega)]
  have e1 := fT_mul t b
  have e2 := fB_mul t b
  rw [ed] at e1 e2
  by_cases g : ((Int.gcd t b : Nat) : Int) = 1
  · rw [g, Int.one_mul] at e1 e2
    rw [e1, e2, decide_eq_true rfl, decide_eq_true g]
  · rw [decide_eq_false g, decide_eq_false]
    intro z
    simp only [List.cons.injEq, and_true] at z
    rw [z.2] at e2
    refine g (Int.eq_of_mul_eq_mul_right (show b ≠ 0 by omega) ?_)
    rw [e2, Int.one_mul]
end Kw
namespace Kw
open PySem PySem.Spec PyProof.Rows L2
end Kw
namespace Kw
open PySem PySem.Spec PyProof.Rows L2
theorem newO {H : Hp} {p : Addr} (hp : H p = none) (o : HO) : ∃ H', upd H p o = H' ∧ Same H H' ∧ H' p = some o := ⟨_, rfl, same_new hp o, upd_same⟩
end Kw
namespace Kw
open PySem PySem.Spec PyProof.Rows L2
end Kw
theorem Kw.u100 {k : Nat} {A : PySem.Around} (r : L2.Room k A) : A.units + 100 < PySem.cLine := by have := r.un; omega
namespace Kw
open PySem PySem.Spec PyProof.Rows L2
theorem cut1 {s1 r : TS} {D : Ends} {σ : L2.St} {H : Hp} (P : L2.St → Hp → Prop) (h : ∀ N : L2.St → Hp → Prop, (∀ σ' H', P σ' H' → N σ' H') → s1 { D with nx := N } σ H) (rest : ∀ σ' H', P σ' H' → r D σ' H') :
    tSeq s1 r D σ H := h (r D) rest
end Kw
set_option Elab.async false
set_option linter.all false
set_option maxRecDepth 100000
set_option maxHeartbeats 4000000
namespace Kw
open PySem PySem.Spec PyProof.Rows L2
noncomputable def cxC (X : Cx) (N : List Str) (scope : Scope) (cl : List (Str × Addr)) (C : Addr) (s : Shared) (H : Hp) (fp : List Addr) : Cx :=
  { X with N := N, s₀ := s, H₀ := H, env := compEnvC scope cl C X.env, outer := X.stack, stack := X.stack, ex := fp, fn := fun _ => false, pn := [], xe := fun _ _ => False }
section
variable {X : Cx} {pins : List (Addr × Obj)} {σ : L2.St} {H : Hp} {s : Shared} {N ns : List Str} {scope : Scope} {cl : List (Str × Addr)} {C : Addr} {fp : List Addr} {x : Str} {idx : List Nat}
theorem okC (I : Inv X pins σ H s) (f : ∀ b ∈ fp, FpOk X pins H b) (lt : ∀ b ∈ fp, b < s.heap.objs.size) (hC : s.heap.objs.size ≤ C) (hkind : scope.kind = .function) (hcl : ∀ y c, cl.lookup y = some c → X.env.cells.lookup y = some c)
    (hfr : ∀ y, ((compEnvC scope cl C X.env).kindOf y = some .cell ∨ (compEnvC scope cl C X.env).kindOf y = some .free) → ∃ c, cl.lookup y = some c) : (cxC X N scope cl C s H fp).Ok where
  mod := I.ok.mod
  kind := hkind
  glob := I.ok.glob
  blt := I.ok.blt
  above := hC
  inj := fun x y c e1 e2 => I.ok.inj x y c (hcl _ _ e1) (hcl _ _ e2)
  has := hfr
  cab := fun _ _ h => nomatch h
  hd := I.ok.hd
  frames := I.ok.frames
  stk := .inl rfl
  exf := fun b hb => ⟨Nat.ne_of_lt (Nat.lt_of_lt_of_le (lt b hb) hC), fun x c e => (f b hb).2.2.2.2.1 x c (hcl _ _ e)⟩
  bs := I.bs
  bsz := Nat.le_trans I.ok.bsz I.sz
  noex := fun b o e hb => by
    rcases (f b hb).2.2.2.1 with z | z
    · exact I.ok.noex b o e z
    · exact absurd (Nat.lt_of_lt_of_le (Heap.lt_size e) (Nat.le_trans I.ok.bsz z)) (Nat.lt_irrefl _)
  exfs := fun b hb hs => by
    rcases List.mem_cons.mp (I.stkSub b hs) with z | z
    · exact (f b hb).2.1 z
    · exact (f b hb).2.2.1 z
  funs := I.stack
  frf := I.stkFree
noncomputable def Capt (X : Cx) (scope : Scope) (cl : List (Str × Addr)) (ns : List Str) (idx : List Nat) : Prop :=
  idx.length = ns.length ∧ ∀ (k : Nat) (y : Str), ns[k]? = some y → ∃ j c, idx[k]? = some j ∧ X.N[j]? = some y ∧ X.env.kindOf y = some .cell ∧ X.env.cells.lookup y = some c ∧ cl.lookup y = some c ∧ ((relabel scope X.env).names.lookup y = some .cell ∨ (relabel scope X.env).names.lookup y = some .free)
noncomputable def stIn (v : Option V) (idx : List Nat) (σ : L2.St) : L2.St := v :: idx.map fun j => (σ[j]?).join
theorem invC {D : Addr} {h1 : Heap} {t : Nat} {o : Obj} {mC : Str → Option Value} (I : Inv X pins σ H s) (ok : (cxC X (x :: ns) scope cl C s H fp).Ok) (cap : Capt X scope cl ns idx) (hcl : ∀ y c, cl.lookup y = some c → X.env.cells.lookup y = some c)
    (keep : ∀ b u, s.heap.get? b = some u → h1.get? b = some u) (hC : s.heap.objs.size ≤ C) (hns : h1.Ns C mC) (hD : h1.get? D = some o) (hDs : s.heap.objs.size ≤ D) (hDC : D ≠ C) (hod : ∀ v, o.data ≠ .cell v) (hx : (relabel scope X.env).names.lookup x = some .local) :
    Inv (cxC X (x :: ns) scope cl C s H fp) [(D, o)] (stIn none idx σ) H { s with heap := h1, toks := t } := by
  have cellK : ∀ y c, cl.lookup y = some c → ∀ v, s.heap.IsCell c v → h1.IsCell c v := fun y c e v ⟨o, ho, hd⟩ => ⟨o, keep _ _ ho, hd⟩
  refine ⟨ok, rfl, I.bare, Un.kept keep, ⟨mC, hns, fun i y v e1 e2 e3 => ?_⟩, fun y c e => ?_, I.hok.fresh hC, fun y c e => I.freeC y c (hcl y c e), fun p hp => ?_, I.hok.kept keep, ?_⟩
  · cases i with
    | zero => cases e2
    | succ k =>
      have e1' : ns[k]? = some y := e1
      obtain ⟨j, c, h1', h2, h3, h4, h5, h6⟩ := cap.2 k y e1'
      have e2' : (idx.map fun j => (σ[j]?).join)[k]? = some (some v) := e2
      rw [List.getElem?_map, h1'] at e2'
      have e4 : (σ[j]?).join = some v := Option.some.inj e2'
      have e5 : σ[j]? = some (some v) := by
        cases q : σ[j]? with
        | none => rw [q] at e4; cases e4
        | some z => rw [q] at e4; exact congrArg some e4
      obtain ⟨m, hn, hl⟩ := I.loc
      obtain ⟨u, r, lk⟩ := hl j y v h2 e5 (.inr (.inl h3))
      refine ⟨u, r, .inr ⟨h6, c, h5, ?_⟩⟩
      rcases lk with ⟨z, _⟩ | ⟨_, c', z, ic⟩
      · rw [h3] at z; cases z
      · rw [h4] at z; cases z
        exact cellK y c h5 _ ic
  · obtain ⟨v, ic⟩ := I.cell y c (hcl y c e)
    exact ⟨v, cellK y c e v ic⟩
  · have e : p = (D, o) := by simpa [cxC] using hp
    subst e
    refine ⟨hD, I.hok.fresh hDs, hDC, fun hs => ?_, hod⟩
    obtain ⟨_, o', ho', _⟩ := I.stack.mem hs
    exact absurd (Heap.lt_size ho') (Nat.not_lt.mpr hDs)
  · unfold stIn
    rw [List.length_cons, List.length_map, cap.1]
    rfl
end
noncomputable abbrev NoE : Value → Shared → Prop := fun _ _ => False
noncomputable abbrev testsOf (ifs : List Expr) (env : Env) : Sem Bool := forIn ifs true fun c r => if r = true then do let ok ← isTrue c env (eval c env); pure (ForInStep.yield ok) else pure (ForInStep.yield r)
noncomputable def PTs (X : Cx) (ifs : List Expr) (t : TT) : Prop :=
  ∀ (pins : List (Addr × Obj)) (s : Shared) (σ : L2.St) (H : Hp) (Q : Bool → Hp → Prop), Inv X pins σ H s → t σ H Q → wpAny (model X.prog X.w) X.A (testsOf ifs X.env) (TP X pins σ Q) X.xe s
noncomputable def ttNil : TT := fun _ H Q => Q true H
theorem pts_nil {X : Cx} : PTs X [] ttNil := fun _ _ _ H _ I h => wpAny_tests_nil ⟨H, I, h⟩
theorem pts_one {X : Cx} {c : Expr} {t : TT} (h : PT X c t) : PTs X [c] t := fun pins s σ H Q I q => wpAny_tests_one (h pins s σ H Q I q)
theorem lc_loop {prog : Program} {w : World} {A : Around} {R : Result → Shared → Prop} {s : Shared} {elt target iter : Expr} {ifs : List Expr} {scope : Scope} {pos : Pos} {it acc : Value} {env : Env} (Z : Nat → Shared → Prop)
    (turn : ∀ n z, Z n z → wpAny (model prog w) A (pyNext it) (fun r z1 => match r with
      | none => R (.ok .next) z1
      | some v => wpAny (model prog w) A (letOwnedTupleGo target it v) (fun _ z2 => wpAny (model prog w) A (assign target env v) (fun _ z3 => wpAny (model prog w) A (testsOf ifs env) (fun ok z4 => if ok = true then
          wpAny (model prog w) A (eval elt env) (fun y z5 => wpAny (model prog w) A (call (.builtin "list.append") [acc, y]) (fun _ z6 => ∃ m, m < n ∧ Z m z6) NoE z5) NoE z4 else ∃ m, m < n ∧ Z m z4) NoE z3) NoE z2) NoE z1) NoE z)
    (n : Nat) (h : Z n s) : codeAny (model prog w) A (.compLoop (.ListComp elt [⟨target, iter, ifs, 0⟩] scope pos) 0 it acc env) R s := by
  refine codeAny_loop rfl Z (fun n z hZ => ?_) n h
  show wpAny _ A ((compTurn (.ListComp elt [⟨target, iter, ifs, 0⟩] scope pos) 0 it acc env).onRaise (fun q => do noteFrame q env; theTreesLotGoes q)) _ _ z
  refine wpAny_noted ?_
  rw [compTurn_list]
  refine wpAny_bind (wpAny_standAt (wpAny_bind (wpAny_mono (turn n z hZ) (fun r z1 k1 => ?_) fun _ _ q => q.elim)))
  cases r with
  | none => exact wpAny_pure k1
  | some v =>
    refine wpAny_bind (wpAny_mono k1 (fun _ z2 k2 => ?_) fun _ _ q => q.elim)
    refine wpAny_bind (wpAny_mono k2 (fun _ z3 k3 => ?_) fun _ _ q => q.elim)
    refine wpAny_bind (wpAny_mono k3 (fun ok z4 k4 => ?_) fun _ _ q => q.elim)
    cases ok with
    | false => exact wpAny_pure ⟨rfl, k4⟩
    | true =>
      refine wpAny_bind (wpAny_bind (wpAny_mono (show wpAny _ _ _ _ _ _ from k4) (fun y z5 k5 => ?_) fun _ _ q => q.elim))
      exact wpAny_bind (wpAny_mono k5 (fun _ z6 k6 => wpAny_pure (wpAny_pure ⟨rfl, k6⟩)) fun _ _ q => q.elim)
noncomputable def LcBody (J : It) (idx : List Nat) (te : TE) (σ : L2.St) (Q : VK) (H1 : Hp) : Prop := ∃ W : Nat → Nat → List V → Hp → Prop, (∃ m, W 0 m [] H1) ∧ ∀ i m ys H, W i m ys H → ys.length ≤ sizeLine ∧
  ((J.stop i H ∧ ∀ p, H p = none → Q (.ref p) (upd H p (.lst ys))) ∨ (J.go i H ∧ ∀ y H', J.yld i H y H' → te (stIn (some y) idx σ) H' fun v H2 => ∃ m', m' < m ∧ W (i + 1) m' (ys ++ [v]) H2))
noncomputable def tLc (wi : TI) (idx : List Nat) (te : TE) : TE := fun σ H Q => wi σ H fun J H1 => LcBody J idx te σ Q H1
noncomputable def LcBodyT (J : It) (idx : List Nat) (tt : TT) (te : TE) (σ : L2.St) (Q : VK) (H1 : Hp) : Prop := ∃ W : Nat → Nat → List V → Hp → Prop, (∃ m, W 0 m [] H1) ∧ ∀ i m ys H, W i m ys H → ys.length ≤ sizeLine ∧
  ((J.stop i H ∧ ∀ p, H p = none → Q (.ref p) (upd H p (.lst ys))) ∨ (J.go i H ∧ ∀ y H', J.yld i H y H' → tt (stIn (some y) idx σ) H' fun b H3 => if b = true then te (stIn (some y) idx σ) H3 fun v H2 => ∃ m', m' < m ∧ W (i + 1) m' (ys ++ [v]) H2
    else ∃ m', m' < m ∧ W (i + 1) m' ys H3))
noncomputable def tLcT (wi : TI) (idx : List Nat) (tt : TT) (te : TE) : TE := fun σ H Q => wi σ H fun J H1 => LcBodyT J idx tt te σ Q H1
theorem LcBody.toT {J : It} {idx : List Nat} {te : TE} {σ : L2.St} {Q : VK} {H1 : Hp} (h : LcBody J idx te σ Q H1) : LcBodyT J idx ttNil te σ Q H1 := by
  obtain ⟨W, w0, turn⟩ := h
  refine ⟨W, w0, fun i m ys H w => ?_⟩
  obtain ⟨hz, h⟩ := turn i m ys H w
  refine ⟨hz, h.imp id fun h => ⟨h.1, fun y H' yl => ?_⟩⟩
  show (if true = true then te (stIn (some y) idx σ) H' (fun v H2 => ∃ m', m' < m ∧ W (i + 1) m' (ys ++ [v]) H2) else ∃ m', m' < m ∧ W (i + 1) m' ys H')
  rw [if_pos rfl]
  exact h.2 y H' yl
section
variable {X : Cx} {elt iter : Expr} {ifs : List Expr} {x : Str} {px pos : Pos} {scope : Scope} {cl : List (Str × Addr)} {wi : TI} {tt : TT} {te : TE} {ns : List Str} {idx : List Nat}
structure LcEnd (X : Cx) (fp : List Addr) (H2 H4 : Hp) (s2 s5 : Shared) (C D : Addr) (ys : List V) : Prop where
  dn : D = s2.heap.objs.size
  cn : s2.heap.objs.size ≤ C
  dc : D ≠ C
  un : Un (frs X.stack) fp H2 H4 s2.heap s5.heap
  hok : HOk X.prog X.w H4 s5.heap
  cf : H4 C = none
  df : H4 D = none
  os : s5.os = s2.os
  bare : AllBare s5.gens
  ns : ∃ m, s5.heap.Ns C m
  obj : ∃ us, Vals ys us ∧ s5.heap.get? D = some (LCg.lst us)
  len : ys.length ≤ sizeLine
theorem lc_main (hc : X.calm = true) (hi : PI X (.Name x px) iter wi) (hclos : closureFor scope X.env = pure cl) (hcell : ∀ y ∈ scope.names, y.2 ≠ .cell) (hkind : scope.kind = .function)
    (hnames : ∀ y ∈ scope.names, y.2 = .local → scope.names.lookup y.1 = some .local) (hx : scope.names.lookup x = some .local) (nd : (x :: ns).Nodup) (cap : Capt X scope cl ns idx)
    (hcl : ∀ y c, cl.lookup y = some c → X.env.cells.lookup y = some c) (hfr : ∀ y, ((relabel scope X.env).names.lookup y = some .cell ∨ (relabel scope X.env).names.lookup y = some .free) → ∃ c, cl.lookup y = some c)
    (htt : ∀ (C : Addr) (s : Shared) (H : Hp) (fp : List Addr), PTs (cxC X (x :: ns) scope cl C s H fp) ifs tt) (hel : ∀ (C : Addr) (s : Shared) (H : Hp) (fp : List Addr), PE (cxC X (x :: ns) scope cl C s H fp) elt te)
    {pins : List (Addr × Obj)} {σ : L2.St} {Q : VK} {itv : Value} {s2 : Shared} {E : Value → Shared → Prop} {RR : Value → Addr → Result → Shared → Prop} (h2 : PIE X pins σ (.Name x px) (fun J H1 => LcBodyT J idx tt te σ Q H1) itv s2)
    (hRR : ∀ fp H2 H4 s5 C D ys, Inv X pins σ H2 s2 → (∀ b ∈ fp, FpOk X pins H2 b) → LcEnd X fp H2 H4 s2 s5 C D ys → Q (.ref D) (upd H4 D (.lst ys)) → RR (.ref D) C (.ok .next) s5) :
    wpAny (model X.prog X.w) X.A (newList []) (fun acc s3 => wpAny (model X.prog X.w) X.A (newFunctionEnv scope X.env.globals cl [] X.env.qual none .none (some X.env)) (fun cenv s4 =>
      codeAny (model X.prog X.w) X.A (.compStart (.ListComp elt [⟨.Name x px, iter, ifs, 0⟩] scope pos) 0 itv acc { cenv with scope := relabel scope X.env }) (RR acc cenv.locals) s4) E s3) E s2 := by
  obtain ⟨it, fp, tn, J, H2, e, I2, T, st2, f2, W, ⟨m0, w0⟩, turn⟩ := h2
  subst e
  refine wpAny_newObj_type (wpAny_newFunctionEnv hcell (by intro y hy; simp at hy) (fun h1 hns1 hsb1 => ?_) hkind)
  dsimp only at hns1 hsb1 ⊢
  generalize hH2 : s2.heap.push { cls := .type "list", dict := none, data := .seq ([] : List Value).toArray } = g2 at hns1 hsb1 ⊢
  have hC : g2.objs.size = s2.heap.objs.size + 1 := by rw [← hH2, Heap.size_push]
  have hDC : s2.heap.objs.size ≠ g2.objs.size := by rw [hC]; exact Nat.ne_of_lt (Nat.lt_succ_self _)
  have hCle : s2.heap.objs.size ≤ g2.objs.size := by rw [hC]; exact Nat.le_succ _
  have keep1 : ∀ b o, s2.heap.get? b = some o → h1.get? b = some o := fun b o e => hsb1.extBut b o (Nat.ne_of_lt (Nat.lt_of_lt_of_le (Heap.lt_size e) hCle)) (Heap.get?_push_of_some _ (hH2 ▸ Heap.get?_push_of_some _ e))
  have hacc : h1.get? s2.heap.objs.size = some { cls := .type "list", data := .seq ([] : List Value).toArray 0 } := hsb1.extBut _ _ hDC (Heap.get?_push_of_some _ (hH2 ▸ Heap.get?_push_size _ rfl))
  have lt : ∀ b ∈ fp, b < s2.heap.objs.size := fun b hb => by
    obtain ⟨o, e, _⟩ := T.obj _ _ st2 b hb
    exact Heap.lt_size e
  have hxr : (relabel scope X.env).names.lookup x = some .local := lookup_relabel_local hx
  have ok := okC (N := x :: ns) (scope := scope) (cl := cl) (C := g2.objs.size) I2 f2 lt hCle hkind hcl hfr
  have I3 := invC (D := s2.heap.objs.size) (t := s2.toks + ([] : List (Str × Value)).length) I2 ok cap hcl keep1 hCle hns1 hacc (Nat.le_refl _) hDC (fun v z => by cases z) hxr
  have fC : ∀ {H' : Hp} {pl : List (Addr × Obj)}, (∀ p ∈ pl, p.1 = s2.heap.objs.size) → (∀ b ∈ fp, H' b = none) → ∀ b ∈ fp, FpOk (cxC X (x :: ns) scope cl g2.objs.size s2 H2 fp) pl H' b := fun {H' pl} hpl hn b hb =>
    ⟨hn b hb, (ok.exf b hb).1, fun z => ok.exfs b hb z, .inl hb, (ok.exf b hb).2, fun p hp z => by
      have q := hpl p (by simpa [cxC] using hp)
      have := lt b hb
      rw [← z, q] at this
      exact Nat.lt_irrefl _ this⟩
  have lnc : ∀ us : List Value, ∀ v, (LCg.lst us).data ≠ .cell v := fun us v z => by cases z
  have loop : ∀ s3 : Shared, s3 = { s2 with heap := h1, toks := s2.toks + ([] : List (Str × Value)).length } →
      codeAny (model X.prog X.w) X.A (.compLoop (.ListComp elt [⟨.Name x px, iter, ifs, 0⟩] scope pos) 0 (.ref it) (.ref s2.heap.objs.size) (compEnvC scope cl g2.objs.size X.env))
        (RR (.ref s2.heap.objs.size) g2.objs.size) s3 := by
    rintro s3 rfl
    refine lc_loop (fun n s' => ∃ i ys us r H', Inv (cxC X (x :: ns) scope cl g2.objs.size s2 H2 fp) [(s2.heap.objs.size, LCg.lst us)] (stIn r idx σ) H' s' ∧ tn i s'.heap ∧ (∀ b ∈ fp, H' b = none) ∧ Vals ys us ∧ W i n ys H') ?_ m0
      ⟨0, [], [], none, H2, I3, T.keep _ _ _ st2 fun b _ o e => keep1 b o e, fun b hb => (f2 b hb).1, .nil, w0⟩
    rintro n s4 ⟨i, ys, us, r, H4, I4, st4, fr4, vs4, w4⟩
    obtain ⟨hz, ⟨stop, qn⟩ | ⟨go, step⟩⟩ := turn i n ys H4 w4
    · refine thn (T.done (cxC X (x :: ns) scope cl g2.objs.size s2 H2 fp) rfl rfl rfl hc i _ s4 _ H4 NoE I4 (fC (fun p hp => by rw [List.mem_singleton.mp hp]) fr4) st4 stop) fun r5 s5 zz => ?_
      obtain ⟨hr5, I5⟩ := zz
      subst hr5
      obtain ⟨mC, hnC, _⟩ := I5.loc
      obtain ⟨pD1, pD2, _⟩ := I5.pin (s2.heap.objs.size, LCg.lst us) (List.mem_append_right _ (List.mem_singleton.mpr rfl))
      exact hRR fp H2 H4 s5 g2.objs.size s2.heap.objs.size ys I2 f2 ⟨rfl, hCle, hDC, I5.base, I5.hok, I5.free, pD2, I5.os, I5.bare, ⟨mC, hnC⟩, ⟨us, vs4, pD1⟩, hz⟩ (qn _ pD2)
    · refine thn (T.item (cxC X (x :: ns) scope cl g2.objs.size s2 H2 fp) rfl rfl rfl hc i _ s4 _ H4 NoE I4 (fC (fun p hp => by rw [List.mem_singleton.mp hp]) fr4) st4 go) fun r5 s5 zz => ?_
      obtain ⟨u, hr5, k5⟩ := zz
      subst hr5
      refine thn k5 fun _ s6 zz => ?_
      obtain ⟨y, H6, I6, r6, y6, st6, fr6⟩ := zz
      have I6' := I6.pinned (fC (fun p hp => by rw [List.mem_singleton.mp hp]) fr6) (T.obj _ _ st6)
      have G := pg_name (X := cxC X (x :: ns) scope cl g2.objs.size s2 H2 fp) (pos := px) (i := 0) (x := x) nd rfl (.inl hxr) (.inr hxr)
      refine thn (G _ s6 _ H6 y u (fun σ' H' => σ' = stIn (some y) idx σ ∧ H' = H6) I6' r6 ⟨rfl, rfl⟩) fun _ s7 zz => ?_
      obtain ⟨σ7, H7, I7, e7, eH⟩ := zz
      subst e7 eH
      refine thn (htt g2.objs.size s2 H2 fp _ s7 _ _ _ I7 (step y _ y6)) fun ok s71 zz => ?_
      obtain ⟨H71, I71, k71⟩ := zz
      cases ok with
      | false =>
        obtain ⟨m', lm, w8⟩ := (show ∃ m', m' < n ∧ W (i + 1) m' ys H71 from k71)
        have kf : ∀ b ∈ fp, ∀ o, s6.heap.get? b = some o → s71.heap.get? b = some o ∧ H71 b = none := fun b hb o e => by
          have q := I71.pin (b, o) (List.mem_append_right _ (List.mem_append_right _ (mem_pinsAt hb e)))
          exact ⟨q.1, q.2.1⟩
        obtain ⟨pD1, pD2, pD3, pD4, _⟩ := I71.pin (s2.heap.objs.size, LCg.lst us) (by simp [cxC])
        refine ⟨m', lm, i + 1, ys, us, some y, H71, I71.pins_of fun p hp => ?_, ?_, fun b hb => ?_, vs4, w8⟩
        · rw [List.mem_singleton.mp hp]
          exact ⟨pD1, pD2, pD3, pD4, lnc _⟩
        · exact T.keep _ _ _ st6 fun b hb o e => (kf b hb o e).1
        · obtain ⟨o, e, _⟩ := T.obj _ _ st6 b hb
          exact (kf b hb o e).2
      | true =>
      refine thn (hel g2.objs.size s2 H2 fp _ s71 _ _ _ I71 k71) fun y8 s8 zz => ?_
      obtain ⟨v, H8, I8, r8, m', lm, w8⟩ := zz
      obtain ⟨pD1, pD2, pD3, pD4, _⟩ := I8.pin (s2.heap.objs.size, LCg.lst us) (by simp [cxC])
      have kf : ∀ b ∈ fp, ∀ o, s6.heap.get? b = some o → s8.heap.get? b = some o ∧ H8 b = none := fun b hb o e => by
        have q := I8.pin (b, o) (List.mem_append_right _ (List.mem_append_right _ (mem_pinsAt hb e)))
        exact ⟨q.1, q.2.1⟩
      refine append_at (hsz := by show us.toArray.size ≤ sizeLine; rw [List.size_toArray, ← vs4.length]; exact hz) pD1 fun h9 sb9 hD9 => ?_
      have I8' : Inv (cxC X (x :: ns) scope cl g2.objs.size s2 H2 fp) [] (stIn (some y) idx σ) H8 s8 := I8.pins_of fun p hp => nomatch hp
      have I9 := I8'.turned (it := s2.heap.objs.size) (h' := h9) (t' := s8.toks) (fun b o hb e => (sb9.2 b hb).trans e) pD2 pD3 (.inr (Nat.le_refl _)) (fun y c e z => by
          obtain ⟨v, q⟩ := I2.cell y c (hcl y c e)
          exact absurd q.lt (by rw [z]; exact Nat.lt_irrefl _)) (fun p hp => by simp [cxC] at hp)
      refine ⟨m', lm, i + 1, ys ++ [v], us ++ [y8], some y, H8, I9.pins_of fun p hp => ?_, ?_, fun b hb => ?_, vs4.append (.cons r8 .nil), w8⟩
      · rw [List.mem_singleton.mp hp]
        exact ⟨hD9.trans (congrArg some (LCg.lst_snoc us y8)), pD2, pD3, pD4, lnc _⟩
      · exact T.keep _ _ _ st6 fun b hb o e => (sb9.2 b (Nat.ne_of_lt (lt b hb))).trans (kf b hb o e).1
      · obtain ⟨o, e, _⟩ := T.obj _ _ st6 b hb
        exact (kf b hb o e).2
  exact codeAny_compStart_list (loop _ rfl) (T.self _ 0 _ _ _ (T.keep _ _ _ st2 fun b _ o e => keep1 b o e) (loop _ rfl))
theorem LcEnd.inv {fp : List Addr} {H2 H4 : Hp} {s2 s5 : Shared} {C D : Addr} {ys : List V} {pins : List (Addr × Obj)} {σ : L2.St} {h' : Heap} (L : LcEnd X fp H2 H4 s2 s5 C D ys) (I2 : Inv X pins σ H2 s2) (f2 : ∀ b ∈ fp, FpOk X pins H2 b) (sb : Heap.SameBut C s5.heap h') :
    Inv X pins σ (upd H4 D (.lst ys)) { s5 with heap := h' } := by
  obtain ⟨rfl, hCle, hDC, U, hok, cf, pD2, eo, bare, ⟨mC, hnC⟩, ⟨us, vs4, pD1⟩, hz⟩ := L
  have neC : ∀ b o, s2.heap.get? b = some o → b ≠ C := fun b o e => Nat.ne_of_lt (Nat.lt_of_lt_of_le (Heap.lt_size e) hCle)
  have U' : Un (frs X.stack) fp H2 H4 s2.heap h' := ⟨fun b o e n hb hx => (sb.2 b (neC b o e)).trans (U.keep b o e n hb hx), fun b o e n hb hx => by
      obtain ⟨sl, q⟩ := U.slot b o e n hb hx
      exact ⟨sl, (sb.2 b (neC b o e)).trans q⟩, U.free, fun b o e hx => by
      obtain ⟨o', q⟩ := U.there b o e hx
      exact ⟨o', (sb.2 b (neC b o e)).trans q⟩, U.tups, U.frzs, U.tbls⟩
  have hok' : HOk X.prog X.w H4 h' := fun a o e => by
    refine (hok a o e).stay (fun b u hb q => (sb.2 b ?_).trans q) (fun _ z => z) fun _ _ z => z
    rintro rfl
    rcases hb with hb | hb
    · rw [← hb, cf] at e; cases e
    · rw [cf] at hb; cases hb
  have I6 := I2.call (ch := fp) (h' := h') (g' := s5.gens) (t' := s5.toks) (d' := s5.drawn) U' hok' bare fun b hb => ⟨(f2 b hb).2.2.2.1, (f2 b hb).2.1, (f2 b hb).2.2.2.2.1, (f2 b hb).2.2.2.2.2⟩
  have I7 := Inv.adopt (x := s2.heap.objs.size) (o := .lst ys) (fun y c e z => by
      obtain ⟨v, q⟩ := I2.cell y c e
      exact absurd q.lt (by rw [z]; exact Nat.lt_irrefl _)) I6 (Heap.get?_none_of_le I2.sz) pD2 (Nat.ne_of_gt I2.lt) (fun p hp z => by
      have := Heap.lt_size (I2.pin p hp).1
      rw [z] at this
      exact Nat.lt_irrefl _ this) ⟨hz, us, us.length, vs4, (sb.2 _ hDC).trans pD1⟩
  rw [← eo] at I7
  exact I7
theorem pie_toT {pins : List (Addr × Obj)} {σ : L2.St} {tg : Expr} {Q : VK} {itv : Value} {s2 : Shared} (h : PIE X pins σ tg (fun J H1 => LcBody J idx te σ Q H1) itv s2) : PIE X pins σ tg (fun J H1 => LcBodyT J idx ttNil te σ Q H1) itv s2 := by
  obtain ⟨it, fp, tn, J, H', a, b, c, d, e, q⟩ := h
  exact ⟨it, fp, tn, J, H', a, b, c, d, e, q.toT⟩
theorem pe_lcT (hc : X.calm = true) (hi : PI X (.Name x px) iter wi) (hclos : closureFor scope X.env = pure cl) (hcell : ∀ y ∈ scope.names, y.2 ≠ .cell) (hkind : scope.kind = .function)
    (hnames : ∀ y ∈ scope.names, y.2 = .local → scope.names.lookup y.1 = some .local) (hx : scope.names.lookup x = some .local) (nd : (x :: ns).Nodup) (cap : Capt X scope cl ns idx)
    (hcl : ∀ y c, cl.lookup y = some c → X.env.cells.lookup y = some c) (hfr : ∀ y, ((relabel scope X.env).names.lookup y = some .cell ∨ (relabel scope X.env).names.lookup y = some .free) → ∃ c, cl.lookup y = some c)
    (htt : ∀ (C : Addr) (s : Shared) (H : Hp) (fp : List Addr), PTs (cxC X (x :: ns) scope cl C s H fp) ifs tt) (hel : ∀ (C : Addr) (s : Shared) (H : Hp) (fp : List Addr), PE (cxC X (x :: ns) scope cl C s H fp) elt te) (hs : ∀ v, foldedSetIterable iter X.env v = pure v := by intro _; rfl) :
    PE X (.ListComp elt [⟨.Name x px, iter, ifs, 0⟩] scope pos) (tLcT wi idx tt te) := by
  intro pins s σ H Q I h
  rw [eval_ListComp]
  refine wpAny_comprehension_free (use := none) rfl hs hclos hkind hnames (thn (hi pins s σ H _ I h) fun v s1 h1 => thn h1 fun itv s2 h2 => ?_)
  refine lc_main hc hi hclos hcell hkind hnames hx nd cap hcl hfr htt hel (RR := fun acc C => compPost (model X.prog X.w) X.A X.xe none (EP X pins σ Q) acc C) h2 fun fp H2 H4 s5 C D ys I2 f2 L q => ?_
  obtain ⟨mC, hnC⟩ := L.ns
  exact ⟨mC, hnC, fun h' sb => ⟨.ref D, _, L.inv I2 f2 sb, rfl, q⟩⟩
theorem ps_lcT {j : Nat} {y : Str} {py spos : Pos} (hN : X.N.Nodup) (hj : X.N[j]? = some y) (hy : X.env.scope.names.lookup y = some .local) (hsw : swapsWith (.ListComp elt [⟨.Name x px, iter, ifs, 0⟩] scope pos) (some (.Name y py)) spos.line X.env = pure true)
    (hc : X.calm = true) (hi : PI X (.Name x px) iter wi) (hclos : closureFor scope X.env = pure cl) (hcell : ∀ y ∈ scope.names, y.2 ≠ .cell) (hkind : scope.kind = .function)
    (hnames : ∀ y ∈ scope.names, y.2 = .local → scope.names.lookup y.1 = some .local) (hx : scope.names.lookup x = some .local) (nd : (x :: ns).Nodup) (cap : Capt X scope cl ns idx)
    (hcl : ∀ y c, cl.lookup y = some c → X.env.cells.lookup y = some c) (hfr : ∀ y, ((relabel scope X.env).names.lookup y = some .cell ∨ (relabel scope X.env).names.lookup y = some .free) → ∃ c, cl.lookup y = some c)
    (htt : ∀ (C : Addr) (s : Shared) (H : Hp) (fp : List Addr), PTs (cxC X (x :: ns) scope cl C s H fp) ifs tt) (hel : ∀ (C : Addr) (s : Shared) (H : Hp) (fp : List Addr), PE (cxC X (x :: ns) scope cl C s H fp) elt te) (hs : ∀ v, foldedSetIterable iter X.env v = pure v) :
    PS X (.Assign [.Name y py] (.ListComp elt [⟨.Name x px, iter, ifs, 0⟩] scope pos) spos) (tAsg (tLcT wi idx tt te) (gName j)) := by
  intro pins s σ H D I h
  rw [exec_Assign_Name_used _ _ _ _ hsw]
  refine wpAny_bind (wpAny_standAt (wpAny_bind ?_))
  show wpAny _ _ (do let _ ← comprehension (.ListComp elt [⟨.Name x px, iter, ifs, 0⟩] scope pos) scope X.env _ (newList []) false (eval iter X.env) (some (assign (.Name y py) X.env))) _ _ s
  refine wpAny_bind (wpAny_mono (wpAny_comprehension_free (use := some (assign (.Name y py) X.env)) (Q := fun _ s' => SP X pins D .next s') rfl hs hclos hkind hnames
    (thn (hi pins s σ H _ I h) fun v s1 h1 => thn h1 fun itv s2 h2 => ?_)) (fun _ s' hq => wpAny_pure (wpAny_pure hq)) fun _ _ e => e)
  refine lc_main hc hi hclos hcell hkind hnames hx nd cap hcl hfr htt hel (RR := fun acc C => compPost (model X.prog X.w) X.A X.xe (some (assign (.Name y py) X.env)) (fun _ s' => SP X pins D .next s') acc C) h2 fun fp H2 H4 s5 C Da ys I2 f2 L q => ?_
  have I7 := L.inv I2 f2 (h' := s5.heap) ⟨rfl, fun _ _ => rfl⟩
  show wpAny _ _ (assign (.Name y py) X.env (.ref Da)) _ _ s5
  have cL : C ≠ X.env.locals := Nat.ne_of_gt (Nat.lt_of_lt_of_le I2.lt L.cn)
  have cc : ∀ z c, X.env.cells.lookup z = some c → c ≠ C := fun z c e => by
    obtain ⟨v, k⟩ := I2.cell z c e
    exact Nat.ne_of_lt (Nat.lt_of_lt_of_le k.lt L.cn)
  refine wpAny_assign_Name (store_ok2 I7 hN hj (.inl hy) (v := .ref Da) rfl (fun s8 I8 sm => ?_) (.inr hy))
  obtain ⟨a, sba, ha⟩ := sm
  have ac : C ≠ a := by
    rcases ha with rfl | ha
    · exact cL
    · exact Ne.symm (cc _ _ ha)
  obtain ⟨mC, o, es, ep, e1, e2⟩ := L.ns
  refine ⟨mC, ⟨o, es, ep, (sba.2 C ac).trans e1, e2⟩, fun h' sb => ⟨_, _, ?_, q⟩⟩
  refine I8.turned (it := C) (h' := h') (t' := s8.toks) (fun b u nb e => (sb.2 b nb).trans e) ?_ cL (.inr (Nat.le_trans I2.sz L.cn)) cc fun p hp z => ?_
  · rw [upd_ne (Ne.symm L.dc)]
    exact L.cf
  · have := Heap.lt_size (I2.pin p hp).1
    rw [z] at this
    exact absurd this (Nat.not_lt.mpr L.cn)
theorem pe_lc (hc : X.calm = true) (hi : PI X (.Name x px) iter wi) (hclos : closureFor scope X.env = pure cl) (hcell : ∀ y ∈ scope.names, y.2 ≠ .cell) (hkind : scope.kind = .function)
    (hnames : ∀ y ∈ scope.names, y.2 = .local → scope.names.lookup y.1 = some .local) (hx : scope.names.lookup x = some .local) (nd : (x :: ns).Nodup) (cap : Capt X scope cl ns idx)
    (hcl : ∀ y c, cl.lookup y = some c → X.env.cells.lookup y = some c) (hfr : ∀ y, ((relabel scope X.env).names.lookup y = some .cell ∨ (relabel scope X.env).names.lookup y = some .free) → ∃ c, cl.lookup y = some c)
    (hel : ∀ (C : Addr) (s : Shared) (H : Hp) (fp : List Addr), PE (cxC X (x :: ns) scope cl C s H fp) elt te) (hs : ∀ v, foldedSetIterable iter X.env v = pure v := by intro _; rfl) :
    PE X (.ListComp elt [⟨.Name x px, iter, [], 0⟩] scope pos) (tLc wi idx te) := by
  intro pins s σ H Q I h
  rw [eval_ListComp]
  refine wpAny_comprehension_free (use := none) rfl hs hclos hkind hnames (thn (hi pins s σ H _ I h) fun v s1 h1 => thn h1 fun itv s2 h2 => ?_)
  refine lc_main (tt := ttNil) hc hi hclos hcell hkind hnames hx nd cap hcl hfr (fun _ _ _ _ => pts_nil) hel (RR := fun acc C => compPost (model X.prog X.w) X.A X.xe none (EP X pins σ Q) acc C) (pie_toT h2) fun fp H2 H4 s5 C D ys I2 f2 L q => ?_
  obtain ⟨mC, hnC⟩ := L.ns
  exact ⟨mC, hnC, fun h' sb => ⟨.ref D, _, L.inv I2 f2 sb, rfl, q⟩⟩
theorem ps_lc {j : Nat} {y : Str} {py spos : Pos} (hN : X.N.Nodup) (hj : X.N[j]? = some y) (hy : X.env.scope.names.lookup y = some .local) (hsw : swapsWith (.ListComp elt [⟨.Name x px, iter, [], 0⟩] scope pos) (some (.Name y py)) spos.line X.env = pure true)
    (hc : X.calm = true) (hi : PI X (.Name x px) iter wi) (hclos : closureFor scope X.env = pure cl) (hcell : ∀ y ∈ scope.names, y.2 ≠ .cell) (hkind : scope.kind = .function)
    (hnames : ∀ y ∈ scope.names, y.2 = .local → scope.names.lookup y.1 = some .local) (hx : scope.names.lookup x = some .local) (nd : (x :: ns).Nodup) (cap : Capt X scope cl ns idx)
    (hcl : ∀ y c, cl.lookup y = some c → X.env.cells.lookup y = some c) (hfr : ∀ y, ((relabel scope X.env).names.lookup y = some .cell ∨ (relabel scope X.env).names.lookup y = some .free) → ∃ c, cl.lookup y = some c)
    (hel : ∀ (C : Addr) (s : Shared) (H : Hp) (fp : List Addr), PE (cxC X (x :: ns) scope cl C s H fp) elt te) (hs : ∀ v, foldedSetIterable iter X.env v = pure v) :
    PS X (.Assign [.Name y py] (.ListComp elt [⟨.Name x px, iter, [], 0⟩] scope pos) spos) (tAsg (tLc wi idx te) (gName j)) := by
  intro pins s σ H D I h
  rw [exec_Assign_Name_used _ _ _ _ hsw]
  refine wpAny_bind (wpAny_standAt (wpAny_bind ?_))
  show wpAny _ _ (do let _ ← comprehension (.ListComp elt [⟨.Name x px, iter, [], 0⟩] scope pos) scope X.env _ (newList []) false (eval iter X.env) (some (assign (.Name y py) X.env))) _ _ s
  refine wpAny_bind (wpAny_mono (wpAny_comprehension_free (use := some (assign (.Name y py) X.env)) (Q := fun _ s' => SP X pins D .next s') rfl hs hclos hkind hnames
    (thn (hi pins s σ H _ I h) fun v s1 h1 => thn h1 fun itv s2 h2 => ?_)) (fun _ s' hq => wpAny_pure (wpAny_pure hq)) fun _ _ e => e)
  refine lc_main (tt := ttNil) hc hi hclos hcell hkind hnames hx nd cap hcl hfr (fun _ _ _ _ => pts_nil) hel (RR := fun acc C => compPost (model X.prog X.w) X.A X.xe (some (assign (.Name y py) X.env)) (fun _ s' => SP X pins D .next s') acc C) (pie_toT h2) fun fp H2 H4 s5 C Da ys I2 f2 L q => ?_
  have I7 := L.inv I2 f2 (h' := s5.heap) ⟨rfl, fun _ _ => rfl⟩
  show wpAny _ _ (assign (.Name y py) X.env (.ref Da)) _ _ s5
  have cL : C ≠ X.env.locals := Nat.ne_of_gt (Nat.lt_of_lt_of_le I2.lt L.cn)
  have cc : ∀ z c, X.env.cells.lookup z = some c → c ≠ C := fun z c e => by
    obtain ⟨v, k⟩ := I2.cell z c e
    exact Nat.ne_of_lt (Nat.lt_of_lt_of_le k.lt L.cn)
  refine wpAny_assign_Name (store_ok2 I7 hN hj (.inl hy) (v := .ref Da) rfl (fun s8 I8 sm => ?_) (.inr hy))
  obtain ⟨a, sba, ha⟩ := sm
  have ac : C ≠ a := by
    rcases ha with rfl | ha
    · exact cL
    · exact Ne.symm (cc _ _ ha)
  obtain ⟨mC, o, es, ep, e1, e2⟩ := L.ns
  refine ⟨mC, ⟨o, es, ep, (sba.2 C ac).trans e1, e2⟩, fun h' sb => ⟨_, _, ?_, q⟩⟩
  refine I8.turned (it := C) (h' := h') (t' := s8.toks) (fun b u nb e => (sb.2 b nb).trans e) ?_ cL (.inr (Nat.le_trans I2.sz L.cn)) cc fun p hp z => ?_
  · rw [upd_ne (Ne.symm L.dc)]
    exact L.cf
  · have := Heap.lt_size (I2.pin p hp).1
    rw [z] at this
    exact absurd this (Nat.not_lt.mpr L.cn)
end
end Kw
set_option Elab.async false
set_option linter.all false
set_option maxRecDepth 100000
set_option maxHeartbeats 4000000
namespace Kw
open PySem PySem.Spec PyProof.Rows L2
section
variable {X : Cx}
end
end Kw
namespace Kw
open PySem PySem.Spec PyProof.Rows L2
section
variable {prog : Program} {w : World} {A : Around} {E : Value → Shared → Prop} {s : Shared} {I l S : Addr} {items : Array Value}
end
end Kw
namespace Kw
open PySem PySem.Spec PyProof.Rows L2
section
variable {X : Cx}
end
end Kw
set_option Elab.async false
set_option linter.all false
set_option maxRecDepth 100000
set_option maxHeartbeats 4000000
namespace Kw
open PySem PySem.Spec PyProof.Rows L2
noncomputable def Pl : V → Prop
  | .flt _ => False
  | .byt _ => False
  | _ => True
theorem eq_rel {A : Around} {s : Shared} {x : V} {u u' : Value} (hx : Pl x) (r : RelV x u) (r' : RelV x u') : SeqAt.EqAt A s u u' true := by
  cases x with
  | non => cases (show u = Value.none from r); cases (show u' = Value.none from r'); exact SeqAt.EqAt.same _
  | bl b => cases (show u = Value.bool b from r); cases (show u' = Value.bool b from r'); exact SeqAt.EqAt.same _
  | ref a => cases (show u = Value.ref a from r); cases (show u' = Value.ref a from r'); exact SeqAt.EqAt.same _
  | ty T => cases (show u = Value.type T from r); cases (show u' = Value.type T from r'); exact SeqAt.EqAt.same _
  | int i =>
    obtain ⟨t, rfl⟩ := r
    obtain ⟨t', rfl⟩ := r'
    have := SeqAt.EqAt.int_int (A := A) (s := s) i t i t'
    rwa [beq_self_eq_true] at this
  | str y =>
    obtain ⟨t, rfl⟩ := r
    obtain ⟨t', rfl⟩ := r'
    have := SeqAt.EqAt.str_str (A := A) (s := s) y t y t'
    rwa [beq_self_eq_true] at this
  | flt f => exact hx.elim
  | byt f => exact hx.elim
theorem all_true (n : Nat) : (List.range n).all (fun _ => true) = true := by simp
section
variable {X : Cx}
noncomputable def rNeS (K : PySem.W.Frag) : V → V → Hp → VK → Prop := fun x y H Q =>
  ((∃ d, x = y ∧ Dp K H x d ∧ d.canLay0 = true ∧ d.depth ≤ 60) ∨ (∃ a b xs, x = .ref a ∧ y = .ref b ∧ SqL K H a xs ∧ SqL K H b xs ∧ ∀ z ∈ xs, Pl z) ∨ (∃ a xs, x = .ref a ∧ y = .ref a ∧ SqT K H a xs ∧ ∀ z ∈ xs, Pl z) ∨
    ∃ a k i, x = .ref a ∧ y = .ref a ∧ H a = some (.dK [(k, .int i)])) ∧ Q (.bl false) H
theorem pair_eq {A : Around} {s : Shared} {xs : List V} {its its2 : List Value} (h : ∀ z ∈ xs, Pl z) (r : Vals xs its) (r2 : Vals xs its2) (j : Nat) (h1 : j < its.toArray.size) (h2 : j < its2.toArray.size) : SeqAt.EqAt A s its.toArray[j] its2.toArray[j] true := by
  have l1 := r.length
  have hj : j < xs.length := by simp at h1; omega
  have e := List.getElem?_eq_getElem hj
  obtain ⟨u, hu, ru⟩ := r.get e
  obtain ⟨u2, hu2, ru2⟩ := r2.get e
  have e1 : its.toArray[j] = u := by
    have h1' : j < its.length := by simpa using h1
    rw [List.getElem?_eq_getElem h1'] at hu
    simpa using Option.some.inj hu
  have e2 : its2.toArray[j] = u2 := by
    have h2' : j < its2.length := by simpa using h2
    rw [List.getElem?_eq_getElem h2'] at hu2
    simpa using Option.some.inj hu2
  rw [e1, e2]
  exact eq_rel (h _ (List.getElem_mem hj)) ru ru2
theorem op_neS {K : PySem.W.Frag} (hK : X.K = K) (hu : X.A.units + 100 < cLine) : OpR X (compareOp .NotEq) (rNeS K) := by
  subst hK
  intro pins s σ H x y v u Q I rx ry h
  obtain ⟨hv, q⟩ := h
  have fin : EP X pins σ Q (.bool false) s := ⟨.bl false, H, I, rfl, q⟩
  rcases hv with ⟨d, rfl, dp, c1, c2⟩ | ⟨a, b, xs, rfl, rfl, ha, hb, hp⟩ | ⟨a, xs, rfl, rfl, ha, hp⟩ | ⟨a, k, i, rfl, rfl, ha⟩
  · obtain ⟨as, ra⟩ := dp.reads I rx
    obtain ⟨bs, rb⟩ := dp.reads I ry
    refine SeqAt.compareNe_reads ra rb c1 c1 (by omega) ?_
    rw [SeqAt.eqv_refl d c1]
    exact fin
  · cases (show v = Value.ref a from rx)
    cases (show u = Value.ref b from ry)
    obtain ⟨its, r, pl, hz⟩ := I.list ha
    obtain ⟨its2, r2, pl2, hz2⟩ := I.list hb
    have l1 := r.length
    have l2 := r2.length
    have z := SeqAt.RcNeAt.lists (e := fun _ => true) pl.isList pl2.isList (by simp; omega) (show X.A.units < cLine by omega) (fun j h1 h2 => pair_eq hp r r2 j h1 h2)
    rw [all_true] at z
    exact z X.prog X.w X.xe _ fin
  · cases (show v = Value.ref a from rx)
    cases (show u = Value.ref a from ry)
    obtain ⟨its, r, pl, hz⟩ := I.tuple ha
    have z := SeqAt.RcNeAt.tuples (e := fun _ => true) pl pl (show X.A.units < cLine by omega) (fun j h1 h2 => pair_eq hp r r j h1 h2)
    rw [all_true, beq_self_eq_true] at z
    exact z X.prog X.w X.xe _ fin
  · cases (show v = Value.ref a from rx)
    cases (show u = Value.ref a from ry)
    obtain ⟨hz, hs, vs, kv, dd⟩ := (show ObjOk X.prog X.w H s.heap a (.dK [(k, .int i)]) from I.hok a _ ha)
    cases kv with
    | @cons p q' ps qs h1 h2 =>
      cases h2
      obtain ⟨k', v'⟩ := q'
      obtain ⟨e1, t, e2⟩ := h1
      simp only at e1 e2
      subst e1 e2
      refine PySem.W.keq_ne (knd := mixKind X.prog X.w) (r := true) hs hs dd dd (show X.A.units < cLine by omega) (fun _ => ?_) (by simpa using fin)
      have hy : valueAt [(k, Value.int i t)] k = some (.int i t) := by simp [valueAt]
      exact PySem.W.KeqHits.hit (e := true) (b := true) hy (SeqAt.EqAt.same _) .nil
noncomputable def rNeNil (K : PySem.W.Frag) : V → V → Hp → VK → Prop := fun x y H Q => ∃ a b xs, x = .ref a ∧ y = .ref b ∧ SqL K H a xs ∧ SqL K H b [] ∧ Q (.bl (!xs.isEmpty)) H
theorem op_neNil {K : PySem.W.Frag} (hK : X.K = K) (hu : X.A.units + 100 < cLine) : OpR X (compareOp .NotEq) (rNeNil K) := by
  subst hK
  intro pins s σ H x y v u Q I rx ry h
  obtain ⟨a, b, xs, rfl, rfl, ha, hb, q⟩ := h
  cases xs with
  | nil => exact op_neS rfl hu pins s σ H _ _ v u Q I rx ry ⟨.inr (.inl ⟨a, b, [], rfl, rfl, ha, hb, fun _ z => nomatch z⟩), q⟩
  | cons z zs =>
    cases (show v = Value.ref a from rx)
    cases (show u = Value.ref b from ry)
    obtain ⟨its, r, pl, hz⟩ := I.list ha
    obtain ⟨its2, r2, pl2, hz2⟩ := I.list hb
    have l1 := r.length
    have l2 := r2.length
    have w' := SeqAt.RcNeAt.lists_lengths pl.isList pl2.isList (by simp at l1 l2 ⊢; omega) (show X.A.units < cLine by omega)
    exact w' X.prog X.w X.xe _ ⟨.bl true, H, I, rfl, q⟩
end
end Kw
set_option Elab.async false
set_option linter.all false
set_option maxRecDepth 100000
set_option maxHeartbeats 4000000
namespace Kw
open PySem PySem.Spec PyProof.Rows L2
noncomputable abbrev FQ (K : PySem.W.Frag) (H : Hp) (p : Addr) (x : Rat) : Prop := SqT K H p [.int x.num, .int ((x.den : Nat) : Int)]
section
variable {K : PySem.W.Frag} {H H' : Hp} {p q : Addr} {x y : Rat} {m n : Nat}
theorem FQ.cast (h : FQ K H p x) (e : x = y) : FQ K H p y := e ▸ h
theorem FQ.dp (h : FQ K H p x) : Dp K H (.ref p) (.tuple [.int x.num, .int ((x.den : Nat) : Int)]) := .tup h (.cons (.int _) (.cons (.int _) .nil))
theorem FQ.fit {t b : Int} (h : b ≠ 0) (e : SqT K H p [.int (fT t b), .int (fB t b)]) : FQ K H p (Rat.divInt t b) := by
  obtain ⟨e1, e2⟩ := q_fit (t := t) h
  rw [e1, e2] at e
  exact e
theorem FQ.ofInt {i : Int} (h : SqT K H p [.int i, .int 1]) : FQ K H p (i : Rat) := h
theorem FQ.ofNeg {i : Int} (h : SqT K H p [.int i, .int ((x.den : Nat) : Int)]) (e : i = -x.num) : FQ K H p (-x) := by
  subst e
  exact h
noncomputable def FB (n : Nat) (x : Rat) : Prop := Bd n x.num ∧ Bd n ((x.den : Nat) : Int)
theorem FB.mono (h : FB m x) (l : m ≤ n) : FB n x := ⟨h.1.mono l, h.2.mono l⟩
theorem FB.cast (h : FB n x) (e : x = y) : FB n y := e ▸ h
theorem FB.fit {t b : Int} (h : b ≠ 0) (g1 : Bd n t) (g2 : Bd n b) : FB n (Rat.divInt t b) := by
  obtain ⟨e1, e2⟩ := q_fit (t := t) h
  refine ⟨?_, ?_⟩
  · rw [← e1]; exact bd_fT h g1
  · rw [← e2]; exact bd_fB h g2
theorem q_ne (x : Rat) : ((x.den : Nat) : Int) ≠ 0 := by have := q_pos x; omega
theorem q_num_ne (h : x ≠ 0) : x.num ≠ 0 := fun e => h (Rat.num_eq_zero.mp e)
theorem FB.add (h : FB m x) (g : FB n y) : FB (m + n + 1) (x + y) := by
  rw [← q_add]
  exact FB.fit (Int.mul_ne_zero (q_ne x) (q_ne y)) ((h.1.mul g.2).add ((g.1.mul h.2).mono (by omega))) ((h.2.mul g.2).mono (by omega))
theorem FB.sub (h : FB m x) (g : FB n y) : FB (m + n + 1) (x - y) := by
  rw [← q_sub]
  exact FB.fit (Int.mul_ne_zero (q_ne x) (q_ne y)) ((h.1.mul g.2).sub ((g.1.mul h.2).mono (by omega))) ((h.2.mul g.2).mono (by omega))
theorem FB.mul (h : FB m x) (g : FB n y) : FB (m + n) (x * y) := by
  rw [← q_mul]
  exact FB.fit (Int.mul_ne_zero (q_ne x) (q_ne y)) (h.1.mul g.1) (h.2.mul g.2)
theorem FB.div (h : FB m x) (g : FB n y) (y0 : y ≠ 0) : FB (m + n) (x / y) := by
  rw [← q_div]
  exact FB.fit (Int.mul_ne_zero (q_ne x) (q_num_ne y0)) (h.1.mul g.2) (h.2.mul g.1)
theorem FB.neg (h : FB n x) : FB n (-x) := by
  refine ⟨?_, h.2⟩
  have := h.1
  unfold Bd at this ⊢
  rw [(q_neg x).1]
  omega
theorem FB.ofInt {i : Int} (h : Bd n i) (l : 64 ≤ n) : FB n (i : Rat) := ⟨h, (Bd.small (i := 1) (by decide) (by decide)).mono l⟩
theorem bd_quot {b g : Int} (hb : Bd n b) (d : g ∣ b) (g0 : g ≠ 0) : Bd n (b.fdiv g) := by
  refine hb.of_le ?_
  have e := fd_mul d
  have q := natAbs_le_mul (x := b.fdiv g) g0
  rw [e] at q
  exact q
theorem bd_gcdR {a b : Int} (h : b ≠ 0) (hb : Bd n b) : Bd n ((Int.gcd a b : Nat) : Int) := by
  refine hb.of_le ?_
  have hd : Int.gcd a b ∣ b.natAbs := Nat.gcd_dvd_right _ _
  have := Nat.le_of_dvd (by omega) hd
  omega
theorem FB.mix {u v : Rat} {i j : Int} (hu : FB m u) (hv : FB n v) (a1 : 1 ≤ i) (a2 : i ≤ 10000) (b1 : 1 ≤ j) (b2 : j ≤ 10000) : FB (m + n + 129) (mixQ u v i j) :=
  (FB.add (hu.mul (FB.fit (by omega) (Bd.small (by omega) (by omega)) (Bd.small (by omega) (by omega)))) (hv.mul (FB.fit (by omega) (Bd.small (by omega) (by omega)) (Bd.small (by omega) (by omega))))).mono (by omega)
end
theorem But.fresh {b : Addr} {H H' : Hp} (h : H b = none) (s : But b H H') : Same H H' := fun a o e => s a o (ne_of_none e h) e
theorem atI_mem (ns : List Int) (d : Int) (lo : 0 ≤ d) (hi : d < (ns.length : Int)) : ∃ v, atI (ns.map V.int) d = some (.int v) ∧ v ∈ ns := by
  have hk : d.toNat < ns.length := by omega
  have ek : d = ((d.toNat : Nat) : Int) := by omega
  have z : atI (ns.map V.int) ((d.toNat : Nat) : Int) = some (.int ns[d.toNat]) := atI_nat (by rw [List.getElem?_map, List.getElem?_eq_getElem hk] <;> rfl)
  rw [← ek] at z
  exact ⟨_, z, List.getElem_mem hk⟩
theorem Scr.same {K : PySem.W.Frag} {H H' : Hp} {a : Addr} (h : Scr K H a) (s : Same H H') : Scr K H' a := by
  obtain ⟨ns, x, y⟩ := h
  exact ⟨ns, s.seq x, y⟩
theorem Fn.imp {P : Program} {w : World} {K : PySem.W.Frag} {mg : Str → Option Value} {base : Heap} {k : Nat} {x : Str} {ps : List Str} {sp sp' : Sp} (F : Fn P w K mg base k x ps sp) (h : ∀ vs H Q E, sp' vs H Q E → sp vs H Q E) : Fn P w K mg base k x ps sp' := by
  obtain ⟨f, fd, g, r⟩ := F.ex
  exact ⟨f, fd, g.imp h, r⟩
theorem if_not {c : Prop} [Decidable c] {A B : Prop} (h1 : ¬ c → A) (h2 : c → B) : if (!decide c) = true then A else B := by
  by_cases e : c
  · rw [decide_eq_true e]; exact iteF (h2 e)
  · rw [decide_eq_false e]; exact iteT (h1 e)
section
variable {X : Cx}
noncomputable def rAl (K : PySem.W.Frag) (r : Bool) : V → V → Hp → VK → Prop := fun x y H Q => ∃ d, Dp K H x d ∧ Dp K H y d ∧ d.canLay0 = true ∧ Nat.ble d.depth 60 = true ∧ Q (.bl r) H
theorem op_neA {K : PySem.W.Frag} (hK : X.K = K) (hu : X.A.units + 100 < cLine) : OpR X (compareOp .NotEq) (rAl K false) := by
  intro pins s σ H x y v u Q I rx ry h
  obtain ⟨d, hx, hy, c, dep, q⟩ := h
  refine op_neD hK hu pins s σ H x y v u Q I rx ry ⟨d, d, hx, hy, c, c, ?_, ?_⟩
  · have := Nat.le_of_ble_eq_true dep
    omega
  · rw [SeqAt.eqv_refl d c]
    exact q
theorem q_list {x y : Rat} : ([x.num, ((x.den : Nat) : Int)] = [y.num, ((y.den : Nat) : Int)]) ↔ x = y := by
  constructor
  · intro e
    simp only [List.cons.injEq, and_true] at e
    exact Rat.ext e.1 (by omega)
  · intro e
    rw [e]
theorem op_eqQ {K : PySem.W.Frag} (hK : X.K = K) (hu : X.A.units + 100 < cLine) : OpR X (compareOp .Eq) (fun a b H Q => ∃ (p q : Addr) (x y : Rat), a = .ref p ∧ b = .ref q ∧ FQ K H p x ∧ FQ K H q y ∧ Q (.bl (decide (x = y))) H) := by
  subst hK
  intro pins s σ H a b v u Q I rx ry h
  obtain ⟨p, q, x, y, rfl, rfl, hx, hy, k⟩ := h
  refine op_eqTI (by omega) pins s σ H _ _ v u Q I rx ry ⟨p, q, [x.num, ((x.den : Nat) : Int)], [y.num, ((y.den : Nat) : Int)], rfl, rfl, hx, hy, ?_⟩
  rw [decide_eq_decide.mpr q_list]
  exact k
noncomputable def IsTup2 (K : PySem.W.Frag) (H : Hp) (x c : V) (b : Bool) : Prop := IsI K H x c b ∨ ∃ a xs, x = .ref a ∧ SqT K H a xs ∧ PySem.W.kitOne K (.type "tuple") (valC c) = some b
theorem call_isiTup {K : PySem.W.Frag} (hK : X.K = K) : CallR X (.builtin "isinstance") (fun xs H Q => ∃ x c b, xs = [x, c] ∧ ((∃ T, c = .ty T) ∨ ∃ C, c = .ref C) ∧ IsTup2 K H x c b ∧ Q (.bl b) H) := by
  subst hK
  intro pins s σ H xs us Q I r h
  obtain ⟨x, c, b, e0, hc, hi, q⟩ := h
  rcases hi with hi | ⟨a, ys, rfl, ha, e⟩
  · exact call_isinst pins s σ H xs us Q I r ⟨x, c, b, e0, hc, hi, q⟩
  subst e0
  obtain ⟨u, w', rfl, rx, rc⟩ := vals2 r
  have ec : w' = valC c := by
    rcases hc with ⟨T, rfl⟩ | ⟨C, rfl⟩
    · exact rc
    · exact rc
  subst ec
  cases (show u = Value.ref a from rx)
  obtain ⟨its, _, ⟨o, h1, h2, _⟩, _⟩ := I.tuple ha
  exact PySem.W.kia_one PySem.W.kitx_tuple I.kIn ⟨o, h1, h2⟩ e (fun z => nomatch z) fun tk => ⟨.bl b, H, I.tok _, rfl, q⟩
end
end Kw
set_option Elab.async false
set_option linter.all false
set_option maxRecDepth 100000
set_option maxHeartbeats 4000000
namespace Kw
open PySem PySem.Spec PyProof.Rows L2
section
variable {K : PySem.W.Frag} {idx : List Nat} {te : TE} {σ : L2.St} {H : Hp} {Q : VK}
theorem lc_list {a : Addr} {xs : List V} (Pv : Nat → List V → Hp → Prop) (h0 : Pv 0 [] H) (hz : xs.length ≤ sizeLine) (hy : ∀ i ys H, Pv i ys H → ys.length = i) (hl : ∀ i ys H, Pv i ys H → SqL K H a xs)
    (hs : ∀ i x ys H (Q' : VK), xs[i]? = some x → Pv i ys H → (∀ v H2, Pv (i + 1) (ys ++ [v]) H2 → Q' v H2) → te (stIn (some x) idx σ) H Q') (hd : ∀ ys H, Pv xs.length ys H → ∀ p, H p = none → Q (.ref p) (upd H p (.lst ys))) :
    LcBody (Itl K a) idx te σ Q H := by
  refine ⟨fun i m ys H => m = xs.length - i ∧ i ≤ xs.length ∧ Pv i ys H, ⟨xs.length, by simp, Nat.zero_le _, h0⟩, ?_⟩
  rintro i m ys H ⟨rfl, hi, p⟩
  have q := hl i ys H p
  refine ⟨by rw [hy i ys H p]; omega, ?_⟩
  by_cases hlt : i < xs.length
  · refine .inr ⟨⟨xs, xs[i], q, by simp [hlt]⟩, fun y H' yl => ?_⟩
    obtain ⟨e, yl⟩ := yl
    subst e
    exact hs i y ys _ _ (yl xs q) p fun v H2 z => ⟨xs.length - (i + 1), by omega, rfl, hlt, z⟩
  · have e : i = xs.length := by omega
    subst e
    exact .inl ⟨⟨xs, q, Nat.le_refl _⟩, hd ys H p⟩
theorem lc_range {lo : Int} {n : Nat} (Pv : Nat → List V → Hp → Prop) (h0 : Pv 0 [] H) (hz : n ≤ sizeLine) (hy : ∀ i ys H, Pv i ys H → ys.length = i)
    (hs : ∀ i ys H (Q' : VK), i < n → Pv i ys H → (∀ v H2, Pv (i + 1) (ys ++ [v]) H2 → Q' v H2) → te (stIn (some (.int (lo + (i : Int)))) idx σ) H Q') (hd : ∀ ys H, Pv n ys H → ∀ p, H p = none → Q (.ref p) (upd H p (.lst ys))) :
    LcBody (Itr lo n) idx te σ Q H := by
  refine ⟨fun i m ys H => m = n - i ∧ i ≤ n ∧ Pv i ys H, ⟨n, by simp, Nat.zero_le _, h0⟩, ?_⟩
  rintro i m ys H ⟨rfl, hi, p⟩
  refine ⟨by rw [hy i ys H p]; omega, ?_⟩
  by_cases hlt : i < n
  · refine .inr ⟨hlt, fun y H' yl => ?_⟩
    obtain ⟨e, yl⟩ := yl
    subst e yl
    exact hs i ys _ _ hlt p fun v H2 z => ⟨n - (i + 1), by omega, rfl, hlt, z⟩
  · have e : i = n := by omega
    subst e
    exact .inl ⟨Nat.le_refl _, hd ys H p⟩
end
theorem no_free {names : List (Str × NameKind)} {cl : List (Str × Addr)} (h : names.all (fun z => z.2 != .cell && z.2 != .free) = true) : ∀ y, (names.lookup y = some .cell ∨ names.lookup y = some .free) → ∃ c, cl.lookup y = some c := fun y hy => by
  have mem : ∀ (l : List (Str × NameKind)) k, l.lookup y = some k → ∃ z ∈ l, z.2 = k := fun l => by
    induction l with
    | nil => intro k e; cases e
    | cons a r ih =>
      intro k e
      rw [List.lookup_cons] at e
      split at e
      · exact ⟨a, List.mem_cons_self, Option.some.inj e⟩
      · obtain ⟨z, hz, ez⟩ := ih k e
        exact ⟨z, List.mem_cons_of_mem _ hz, ez⟩
  rcases hy with e | e
  all_goals
    obtain ⟨z, hz, ez⟩ := mem _ _ e
    have := List.all_eq_true.mp h z hz
    rw [ez] at this
    simp at this
theorem cap_none {X : Cx} {scope : Scope} {cl : List (Str × Addr)} : Capt X scope cl [] [] := ⟨rfl, fun k y h => by simp at h⟩
end Kw
namespace Kw
open PySem PySem.Spec PyProof.Rows L2
section
variable {K : PySem.W.Frag} {H H' : Hp} {b : Addr} {v : V}
theorem kit_lst_lst : PySem.W.kitOne K (.type "list") (.type "list") = some true := by with_unfolding_all rfl
end
end Kw
namespace Kw
open PySem PySem.Spec PyProof.Rows L2
section
variable {K : PySem.W.Frag} {H H' : Hp} {b c : Addr} {x : V}
end
end Kw
namespace Kw
open PySem PySem.Spec PyProof.Rows L2
theorem cap_one {X : Cx} {scope : Scope} {cl : List (Str × Addr)} {y : Str} {j : Nat} {c : Addr} (h1 : X.N[j]? = some y) (h2 : X.env.kindOf y = some .cell) (h3 : X.env.cells.lookup y = some c) (h4 : cl.lookup y = some c)
    (h5 : (relabel scope X.env).names.lookup y = some .cell ∨ (relabel scope X.env).names.lookup y = some .free) : Capt X scope cl [y] [j] :=
  ⟨rfl, fun k z h => by
    cases k with
    | zero => cases h; exact ⟨j, c, rfl, h1, h2, h3, h4, h5⟩
    | succ k => simp at h⟩
theorem cap_fr {names : List (Str × NameKind)} {cl : List (Str × Addr)} (h : names.all (fun z => (z.2 != .cell && z.2 != .free) || (cl.lookup z.1).isSome) = true) : ∀ y, (names.lookup y = some .cell ∨ names.lookup y = some .free) → ∃ c, cl.lookup y = some c := fun y hy => by
  have mem : ∀ (l : List (Str × NameKind)) k, l.lookup y = some k → (y, k) ∈ l := fun l => by
    induction l with
    | nil => intro k e; cases e
    | cons a r ih =>
      intro k e
      rw [List.lookup_cons] at e
      split at e
      · rename_i q
        have e1 : y = a.1 := by simpa using q
        have e2 := Option.some.inj e
        rw [e1, ← e2]
        exact List.mem_cons_self
      · exact List.mem_cons_of_mem _ (ih k e)
  rcases hy with e | e
  all_goals
    have := List.all_eq_true.mp h _ (mem _ _ e)
    exact Option.isSome_iff_exists.mp (by simpa using this)
end Kw
theorem Kw.ixL {X : L2.Cx} {K : PySem.W.Frag} (hK : X.K = K) : L2.IxR X (L2.rIxL K) := by
  subst hK
  exact L2.ix_list
theorem Kw.ixT {X : L2.Cx} {K : PySem.W.Frag} (hK : X.K = K) : L2.IxR X (L2.rIxT K) := by
  subst hK
  exact L2.ix_tup
namespace Kw
open PySem PySem.Spec PyProof.Rows L2
section
variable {K : PySem.W.Frag} {H : Hp} {b : Addr} {x : V}
end
end Kw
set_option Elab.async false
set_option linter.all false
set_option maxRecDepth 100000
set_option maxHeartbeats 4000000
namespace Kw
open PySem PySem.Spec PyProof.Rows L2
noncomputable def Al2 {β : Type} (R : V → β → Prop) : List V → List β → Prop
  | [], [] => True
  | x :: xs, b :: bs => R x b ∧ Al2 R xs bs
  | _, _ => False
section
variable {β : Type} {R R' : V → β → Prop}
theorem Al2.imp (h : ∀ x b, R x b → R' x b) : ∀ {xs : List V} {bs : List β}, Al2 R xs bs → Al2 R' xs bs
  | [], [], _ => trivial
  | _ :: _, _ :: _, z => ⟨h _ _ z.1, Al2.imp h z.2⟩
  | [], _ :: _, z => z.elim
  | _ :: _, [], z => z.elim
theorem Al2.len : ∀ {xs : List V} {bs : List β}, Al2 R xs bs → xs.length = bs.length
  | [], [], _ => rfl
  | _ :: _, _ :: _, z => by simp [Al2.len z.2]
  | [], _ :: _, z => z.elim
  | _ :: _, [], z => z.elim
theorem Al2.get : ∀ {xs : List V} {bs : List β} {i : Nat} {x : V}, Al2 R xs bs → xs[i]? = some x → ∃ b, bs[i]? = some b ∧ R x b
  | [], _, _, _, _, e => by simp at e
  | _ :: _, [], _, _, z, _ => z.elim
  | _ :: _, b :: _, 0, _, z, e => by
    simp only [List.getElem?_cons_zero, Option.some.injEq] at e
    subst e
    exact ⟨b, rfl, z.1⟩
  | _ :: _, _ :: _, i + 1, _, z, e => by
    simp only [List.getElem?_cons_succ] at e
    obtain ⟨b, h1, h2⟩ := Al2.get z.2 e
    exact ⟨b, by simpa using h1, h2⟩
theorem Al2.snoc : ∀ {xs : List V} {bs : List β} {x : V} {b : β}, Al2 R xs bs → R x b → Al2 R (xs ++ [x]) (bs ++ [b])
  | [], [], _, _, _, h => ⟨h, trivial⟩
  | _ :: _, _ :: _, _, _, z, h => ⟨z.1, Al2.snoc z.2 h⟩
  | [], _ :: _, _, _, z, _ => z.elim
  | _ :: _, [], _, _, z, _ => z.elim
theorem take_snoc {bs : List β} {i : Nat} {b : β} (h : bs[i]? = some b) : bs.take (i + 1) = bs.take i ++ [b] := by
  rw [List.take_add_one, h]
  rfl
end
noncomputable def FrQ (K : PySem.W.Frag) (H : Hp) (n : Nat) (x : V) (q : Rat) : Prop := ∃ p, x = .ref p ∧ FQ K H p q ∧ FB n q
noncomputable def BdQ (K : PySem.W.Frag) (H : Hp) (n : Nat) (x : V) (b : Rat × Rat × Int) : Prop := ∃ p a c, x = .ref p ∧ SqT K H p [.ref a, .ref c, .int b.2.2] ∧ FQ K H a b.1 ∧ FQ K H c b.2.1 ∧ FB n b.1 ∧ FB n b.2.1 ∧ 1 ≤ b.2.2 ∧ b.2.2 ≤ 10000
section
variable {K : PySem.W.Frag} {H H' : Hp} {n m : Nat} {x : V} {q : Rat} {b : Rat × Rat × Int}
theorem FrQ.same (h : FrQ K H n x q) (s : Same H H') : FrQ K H' n x q := by
  obtain ⟨p, e, g, d⟩ := h
  exact ⟨p, e, Kw.Same.tup s g, d⟩
theorem BdQ.same (h : BdQ K H n x b) (s : Same H H') : BdQ K H' n x b := by
  obtain ⟨p, a, c, e, h1, h2, h3, r⟩ := h
  exact ⟨p, a, c, e, Kw.Same.tup s h1, Kw.Same.tup s h2, Kw.Same.tup s h3, r⟩
theorem frs_same {xs : List V} {qs : List Rat} (h : Al2 (FrQ K H n) xs qs) (s : Same H H') : Al2 (FrQ K H' n) xs qs := Al2.imp (fun _ _ z => z.same s) h
theorem bds_same {xs : List V} {bs : List (Rat × Rat × Int)} (h : Al2 (BdQ K H n) xs bs) (s : Same H H') : Al2 (BdQ K H' n) xs bs := Al2.imp (fun _ _ z => z.same s) h
end
section
variable {X : Cx} {K : PySem.W.Frag}
noncomputable def tGlobT (K : PySem.W.Frag) (t b : Int) : TE := fun _ H Q => ∀ N, (∀ H1, SqT K H1 N [.int t, .int b]) → Q (.ref N) H
theorem pe_globT {x : Str} {t b : Int} {pos : Pos} (hK : X.K = K) (hg : Gl X x) (hm : ∃ N, X.mg x = some (.ref N) ∧ ∀ H, SqT K H N [.int t, .int b]) (hd : (x == ("__debug__" : Str)) = false := by decide) : PE X (.Name x pos) (tGlobT K t b) := by
  obtain ⟨N, hm, hN⟩ := hm
  intro pins s σ H Q I h
  exact pe_glob hg hm (v := .ref N) rfl hd pins s σ H Q I (h N hN)
theorem sqt_const {A : Addr} {o : Option Addr} {t b : Int} {k1 k2 : Tok} {n : Nat} {sl : Array (Option Value)} (h : K.lookup A = some ⟨.type "tuple", o, .seq #[.int t k1, .int b k2] n, sl⟩) : ∀ H, SqT K H A [.int t, .int b] := fun H =>
  .inr ⟨_, _, _, h, rfl, rfl, by show 2 ≤ sizeLine; decide, .cons ⟨_, rfl⟩ (.cons ⟨_, rfl⟩ .nil)⟩
end
end Kw
set_option Elab.async false
set_option linter.all false
set_option maxRecDepth 100000
set_option maxHeartbeats 4000000
namespace Kw
open PySem PySem.Spec PyProof.Rows L2
section
variable {pr : Program} {wd : World} {Ar : Around} {Er : Value → Shared → Prop}
end
section
variable {X : Cx} {pos : Pos}
end
end Kw
set_option Elab.async false
set_option linter.all false
set_option maxRecDepth 100000
set_option maxHeartbeats 4000000
namespace Kw
open PySem PySem.Spec PyProof.Rows L2
section
variable {K : PySem.W.Frag} {te : TE} {σ : L2.St} {H : Hp} {Q : VK} {idx : List Nat}
end
end Kw
set_option Elab.async false
set_option linter.all false
set_option maxRecDepth 100000
set_option maxHeartbeats 4000000
namespace Kw
open PySem PySem.Spec PyProof.Rows L2
section
variable {K : PySem.W.Frag} {H H' : Hp} {n : Nat} {x : V} {q : Rat} {b : Rat × Rat × Int} {c : Addr} {zs xs : List V} {bs : List (Rat × Rat × Int)}
theorem BdQ.but (h : BdQ K H n x b) (s : But c H H') (hc : H c = some (.lst zs)) : BdQ K H' n x b := by
  obtain ⟨p, a, e, z, h1, h2, h3, r⟩ := h
  exact ⟨p, a, e, z, s.tup hc h1, s.tup hc h2, s.tup hc h3, r⟩
theorem bds_but (h : Al2 (BdQ K H n) xs bs) (s : But c H H') (hc : H c = some (.lst zs)) : Al2 (BdQ K H' n) xs bs := Al2.imp (fun _ _ z => z.but s hc) h
theorem newB {H : Hp} {p : Addr} (o : HO) : ∃ H', upd H p o = H' ∧ But p H H' ∧ H' p = some o := ⟨_, rfl, but_upd _, upd_same⟩
theorem none_of_but {H H' : Hp} {a c : Addr} (s : But c H H') (h : H' a = none) (n : a ≠ c) : H a = none := by
  cases e : H a with
  | none => rfl
  | some o => have := s _ _ n e; rw [h] at this; cases this
noncomputable def Asc (bs : List (Rat × Rat × Int)) : Prop := List.Pairwise (fun a b => a.1 < b.1) bs
theorem Asc.snoc (h : Asc bs) (k : ∀ a ∈ bs, a.1 < b.1) : Asc (bs ++ [b]) := by
  unfold Asc
  rw [List.pairwise_append]
  exact ⟨h, List.pairwise_singleton _ _, fun a ha z hz => by rw [List.mem_singleton.mp hz]; exact k a ha⟩
end
section
end
theorem most_of (ns : List Int) (N : Int) (h : 1 ≤ N) : ∃ m : Int, (if (if N < (((ns.map V.int).length : Nat) : Int) then N else (((ns.map V.int).length : Nat) : Int)) > 1 then (if N < (((ns.map V.int).length : Nat) : Int) then N else (((ns.map V.int).length : Nat) : Int)) else 1) = m ∧ 1 ≤ m ∧ m ≤ N := by
  refine ⟨_, rfl, ?_⟩
  split
  · split <;> omega
  · omega
end Kw
set_option Elab.async false
set_option linter.all false
set_option maxRecDepth 100000
set_option maxHeartbeats 4000000
namespace Kw
open PySem PySem.Spec PyProof.Rows L2
noncomputable def stL (loc : List (Option V)) (idx : List Nat) (σ : L2.St) : L2.St := loc ++ idx.map fun j => (σ[j]?).join
noncomputable def LcBodyG (J : It) (k : Nat) (idx : List Nat) (g : TG) (tt : TT) (te : TE) (σ : L2.St) (Q : VK) (H1 : Hp) : Prop := ∃ W : Nat → Nat → List V → Hp → Prop, (∃ m, W 0 m [] H1) ∧ ∀ i m ys H, W i m ys H → ys.length ≤ sizeLine ∧
  ((J.stop i H ∧ ∀ p, H p = none → Q (.ref p) (upd H p (.lst ys))) ∨ (J.go i H ∧ ∀ y H', J.yld i H y H' → ∀ loc : List (Option V), loc.length = k → g y (stL loc idx σ) H' fun σ2 H2 => (∃ loc2 : List (Option V), loc2.length = k ∧ σ2 = stL loc2 idx σ) ∧ tt σ2 H2 fun b H3 => if b = true then te σ2 H3 fun v H4 => ∃ m', m' < m ∧ W (i + 1) m' (ys ++ [v]) H4
    else ∃ m', m' < m ∧ W (i + 1) m' ys H3))
noncomputable def tLcG (wi : TI) (k : Nat) (idx : List Nat) (g : TG) (tt : TT) (te : TE) : TE := fun σ H Q => wi σ H fun J H1 => LcBodyG J k idx g tt te σ Q H1
section
variable {X : Cx} {pins : List (Addr × Obj)} {σ : L2.St} {H : Hp} {s : Shared} {N ns xs : List Str} {scope : Scope} {cl : List (Str × Addr)} {C : Addr} {fp : List Addr} {idx : List Nat}
theorem invCL {D : Addr} {h1 : Heap} {t : Nat} {o : Obj} {mC : Str → Option Value} (I : Inv X pins σ H s) (ok : (cxC X (xs ++ ns) scope cl C s H fp).Ok) (cap : Capt X scope cl ns idx) (hcl : ∀ y c, cl.lookup y = some c → X.env.cells.lookup y = some c)
    (keep : ∀ b u, s.heap.get? b = some u → h1.get? b = some u) (hC : s.heap.objs.size ≤ C) (hns : h1.Ns C mC) (hD : h1.get? D = some o) (hDs : s.heap.objs.size ≤ D) (hDC : D ≠ C) (hod : ∀ v, o.data ≠ .cell v) :
    Inv (cxC X (xs ++ ns) scope cl C s H fp) [(D, o)] (stL (xs.map fun _ => none) idx σ) H { s with heap := h1, toks := t } := by
  have cellK : ∀ y c, cl.lookup y = some c → ∀ v, s.heap.IsCell c v → h1.IsCell c v := fun y c e v ⟨o, ho, hd⟩ => ⟨o, keep _ _ ho, hd⟩
  refine ⟨ok, rfl, I.bare, Un.kept keep, ⟨mC, hns, fun i y v e1 e2 e3 => ?_⟩, fun y c e => ?_, I.hok.fresh hC, fun y c e => I.freeC y c (hcl y c e), fun p hp => ?_, I.hok.kept keep, ?_⟩
  · by_cases hlt : i < xs.length
    · have e2' : (xs.map (fun _ => (none : Option V)))[i]? = some (some v) := by
        have z : (stL (xs.map fun _ => none) idx σ)[i]? = some (some v) := e2
        unfold stL at z
        rwa [List.getElem?_append_left (by simpa using hlt)] at z
      rw [List.getElem?_map] at e2'
      cases q : xs[i]? with
      | none => rw [q] at e2'; cases e2'
      | some w => rw [q] at e2'; cases e2'
    · obtain ⟨k, rfl⟩ : ∃ k, i = xs.length + k := ⟨i - xs.length, by omega⟩
      have e1' : ns[k]? = some y := by
        have z : (xs ++ ns)[xs.length + k]? = some y := e1
        rwa [List.getElem?_append_right (by omega), Nat.add_sub_cancel_left] at z
      obtain ⟨j, c, h1', h2, h3, h4, h5, h6⟩ := cap.2 k y e1'
      have e2' : (idx.map fun j => (σ[j]?).join)[k]? = some (some v) := by
        have z : (stL (xs.map fun _ => none) idx σ)[xs.length + k]? = some (some v) := e2
        unfold stL at z
        rwa [List.getElem?_append_right (by simp), List.length_map, Nat.add_sub_cancel_left] at z
      rw [List.getElem?_map, h1'] at e2'
      have e4 : (σ[j]?).join = some v := Option.some.inj e2'
      have e5 : σ[j]? = some (some v) := by
        cases q : σ[j]? with
        | none => rw [q] at e4; cases e4
        | some z => rw [q] at e4; exact congrArg some e4
      obtain ⟨m, hn, hl⟩ := I.loc
      obtain ⟨u, r, lk⟩ := hl j y v h2 e5 (.inr (.inl h3))
      refine ⟨u, r, .inr ⟨h6, c, h5, ?_⟩⟩
      rcases lk with ⟨z, _⟩ | ⟨_, c', z, ic⟩
      · rw [h3] at z; cases z
      · rw [h4] at z; cases z
        exact cellK y c h5 _ ic
  · obtain ⟨v, ic⟩ := I.cell y c (hcl y c e)
    exact ⟨v, cellK y c e v ic⟩
  · have e : p = (D, o) := by simpa [cxC] using hp
    subst e
    refine ⟨hD, I.hok.fresh hDs, hDC, fun hs => ?_, hod⟩
    obtain ⟨_, o', ho', _⟩ := I.stack.mem hs
    exact absurd (Heap.lt_size ho') (Nat.not_lt.mpr hDs)
  · unfold stL
    rw [List.length_append, List.length_map, List.length_map, cap.1]
    exact (List.length_append ..).symm
end
section
variable {X : Cx} {elt iter tg : Expr} {ifs : List Expr} {xs : List Str} {pos : Pos} {scope : Scope} {cl : List (Str × Addr)} {wi : TI} {g : TG} {tt : TT} {te : TE} {ns : List Str} {idx : List Nat}
theorem lc_mainG (hc : X.calm = true) (hi : PI X tg iter wi) (hclos : closureFor scope X.env = pure cl) (hcell : ∀ y ∈ scope.names, y.2 ≠ .cell) (hkind : scope.kind = .function)
    (hnames : ∀ y ∈ scope.names, y.2 = .local → scope.names.lookup y.1 = some .local) (hg : ∀ (C : Addr) (s : Shared) (H : Hp) (fp : List Addr), PG (cxC X (xs ++ ns) scope cl C s H fp) tg g) (cap : Capt X scope cl ns idx)
    (hcl : ∀ y c, cl.lookup y = some c → X.env.cells.lookup y = some c) (hfr : ∀ y, ((relabel scope X.env).names.lookup y = some .cell ∨ (relabel scope X.env).names.lookup y = some .free) → ∃ c, cl.lookup y = some c)
    (htt : ∀ (C : Addr) (s : Shared) (H : Hp) (fp : List Addr), PTs (cxC X (xs ++ ns) scope cl C s H fp) ifs tt) (hel : ∀ (C : Addr) (s : Shared) (H : Hp) (fp : List Addr), PE (cxC X (xs ++ ns) scope cl C s H fp) elt te)
    {pins : List (Addr × Obj)} {σ : L2.St} {Q : VK} {itv : Value} {s2 : Shared} {E : Value → Shared → Prop} {RR : Value → Addr → Result → Shared → Prop} (h2 : PIE X pins σ tg (fun J H1 => LcBodyG J xs.length idx g tt te σ Q H1) itv s2)
    (hRR : ∀ fp H2 H4 s5 C D ys, Inv X pins σ H2 s2 → (∀ b ∈ fp, FpOk X pins H2 b) → LcEnd X fp H2 H4 s2 s5 C D ys → Q (.ref D) (upd H4 D (.lst ys)) → RR (.ref D) C (.ok .next) s5) :
    wpAny (model X.prog X.w) X.A (newList []) (fun acc s3 => wpAny (model X.prog X.w) X.A (newFunctionEnv scope X.env.globals cl [] X.env.qual none .none (some X.env)) (fun cenv s4 =>
      codeAny (model X.prog X.w) X.A (.compStart (.ListComp elt [⟨tg, iter, ifs, 0⟩] scope pos) 0 itv acc { cenv with scope := relabel scope X.env }) (RR acc cenv.locals) s4) E s3) E s2 := by
  obtain ⟨it, fp, tn, J, H2, e, I2, T, st2, f2, W, ⟨m0, w0⟩, turn⟩ := h2
  subst e
  refine wpAny_newObj_type (wpAny_newFunctionEnv hcell (by intro y hy; simp at hy) (fun h1 hns1 hsb1 => ?_) hkind)
  dsimp only at hns1 hsb1 ⊢
  generalize hH2 : s2.heap.push { cls := .type "list", dict := none, data := .seq ([] : List Value).toArray } = g2 at hns1 hsb1 ⊢
  have hC : g2.objs.size = s2.heap.objs.size + 1 := by rw [← hH2, Heap.size_push]
  have hDC : s2.heap.objs.size ≠ g2.objs.size := by rw [hC]; exact Nat.ne_of_lt (Nat.lt_succ_self _)
  have hCle : s2.heap.objs.size ≤ g2.objs.size := by rw [hC]; exact Nat.le_succ _
  have keep1 : ∀ b o, s2.heap.get? b = some o → h1.get? b = some o := fun b o e => hsb1.extBut b o (Nat.ne_of_lt (Nat.lt_of_lt_of_le (Heap.lt_size e) hCle)) (Heap.get?_push_of_some _ (hH2 ▸ Heap.get?_push_of_some _ e))
  have hacc : h1.get? s2.heap.objs.size = some { cls := .type "list", data := .seq ([] : List Value).toArray 0 } := hsb1.extBut _ _ hDC (Heap.get?_push_of_some _ (hH2 ▸ Heap.get?_push_size _ rfl))
  have lt : ∀ b ∈ fp, b < s2.heap.objs.size := fun b hb => by
    obtain ⟨o, e, _⟩ := T.obj _ _ st2 b hb
    exact Heap.lt_size e
  have ok := okC (N := xs ++ ns) (scope := scope) (cl := cl) (C := g2.objs.size) I2 f2 lt hCle hkind hcl hfr
  have I3 := invCL (D := s2.heap.objs.size) (t := s2.toks + ([] : List (Str × Value)).length) I2 ok cap hcl keep1 hCle hns1 hacc (Nat.le_refl _) hDC (fun v z => by cases z)
  have fC : ∀ {H' : Hp} {pl : List (Addr × Obj)}, (∀ p ∈ pl, p.1 = s2.heap.objs.size) → (∀ b ∈ fp, H' b = none) → ∀ b ∈ fp, FpOk (cxC X (xs ++ ns) scope cl g2.objs.size s2 H2 fp) pl H' b := fun {H' pl} hpl hn b hb =>
    ⟨hn b hb, (ok.exf b hb).1, fun z => ok.exfs b hb z, .inl hb, (ok.exf b hb).2, fun p hp z => by
      have q := hpl p (by simpa [cxC] using hp)
      have := lt b hb
      rw [← z, q] at this
      exact Nat.lt_irrefl _ this⟩
  have lnc : ∀ us : List Value, ∀ v, (LCg.lst us).data ≠ .cell v := fun us v z => by cases z
  have loop : ∀ s3 : Shared, s3 = { s2 with heap := h1, toks := s2.toks + ([] : List (Str × Value)).length } →
      codeAny (model X.prog X.w) X.A (.compLoop (.ListComp elt [⟨tg, iter, ifs, 0⟩] scope pos) 0 (.ref it) (.ref s2.heap.objs.size) (compEnvC scope cl g2.objs.size X.env))
        (RR (.ref s2.heap.objs.size) g2.objs.size) s3 := by
    rintro s3 rfl
    refine lc_loop (fun n s' => ∃ i ys us r H', r.length = xs.length ∧ Inv (cxC X (xs ++ ns) scope cl g2.objs.size s2 H2 fp) [(s2.heap.objs.size, LCg.lst us)] (stL r idx σ) H' s' ∧ tn i s'.heap ∧ (∀ b ∈ fp, H' b = none) ∧ Vals ys us ∧ W i n ys H') ?_ m0
      ⟨0, [], [], xs.map fun _ => none, H2, by simp, I3, T.keep _ _ _ st2 fun b _ o e => keep1 b o e, fun b hb => (f2 b hb).1, .nil, w0⟩
    rintro n s4 ⟨i, ys, us, r, H4, lr, I4, st4, fr4, vs4, w4⟩
    obtain ⟨hz, ⟨stop, qn⟩ | ⟨go, step⟩⟩ := turn i n ys H4 w4
    · refine thn (T.done (cxC X (xs ++ ns) scope cl g2.objs.size s2 H2 fp) rfl rfl rfl hc i _ s4 _ H4 NoE I4 (fC (fun p hp => by rw [List.mem_singleton.mp hp]) fr4) st4 stop) fun r5 s5 zz => ?_
      obtain ⟨hr5, I5⟩ := zz
      subst hr5
      obtain ⟨mC, hnC, _⟩ := I5.loc
      obtain ⟨pD1, pD2, _⟩ := I5.pin (s2.heap.objs.size, LCg.lst us) (List.mem_append_right _ (List.mem_singleton.mpr rfl))
      exact hRR fp H2 H4 s5 g2.objs.size s2.heap.objs.size ys I2 f2 ⟨rfl, hCle, hDC, I5.base, I5.hok, I5.free, pD2, I5.os, I5.bare, ⟨mC, hnC⟩, ⟨us, vs4, pD1⟩, hz⟩ (qn _ pD2)
    · refine thn (T.item (cxC X (xs ++ ns) scope cl g2.objs.size s2 H2 fp) rfl rfl rfl hc i _ s4 _ H4 NoE I4 (fC (fun p hp => by rw [List.mem_singleton.mp hp]) fr4) st4 go) fun r5 s5 zz => ?_
      obtain ⟨u, hr5, k5⟩ := zz
      subst hr5
      refine thn k5 fun _ s6 zz => ?_
      obtain ⟨y, H6, I6, r6, y6, st6, fr6⟩ := zz
      have I6' := I6.pinned (fC (fun p hp => by rw [List.mem_singleton.mp hp]) fr6) (T.obj _ _ st6)
      refine thn (hg g2.objs.size s2 H2 fp _ s6 _ H6 y u _ I6' r6 (step y _ y6 r lr)) fun _ s7 ⟨σ7, H7, I7, ⟨loc2, l2, e7⟩, k7⟩ => ?_
      subst e7
      refine thn (htt g2.objs.size s2 H2 fp _ s7 _ _ _ I7 k7) fun ok s71 zz => ?_
      obtain ⟨H71, I71, k71⟩ := zz
      cases ok with
      | false =>
        obtain ⟨m', lm, w8⟩ := (show ∃ m', m' < n ∧ W (i + 1) m' ys H71 from k71)
        have kf : ∀ b ∈ fp, ∀ o, s6.heap.get? b = some o → s71.heap.get? b = some o ∧ H71 b = none := fun b hb o e => by
          have q := I71.pin (b, o) (List.mem_append_right _ (List.mem_append_right _ (mem_pinsAt hb e)))
          exact ⟨q.1, q.2.1⟩
        obtain ⟨pD1, pD2, pD3, pD4, _⟩ := I71.pin (s2.heap.objs.size, LCg.lst us) (by simp [cxC])
        refine ⟨m', lm, i + 1, ys, us, loc2, H71, l2, I71.pins_of fun p hp => ?_, ?_, fun b hb => ?_, vs4, w8⟩
        · rw [List.mem_singleton.mp hp]
          exact ⟨pD1, pD2, pD3, pD4, lnc _⟩
        · exact T.keep _ _ _ st6 fun b hb o e => (kf b hb o e).1
        · obtain ⟨o, e, _⟩ := T.obj _ _ st6 b hb
          exact (kf b hb o e).2
      | true =>
      refine thn (hel g2.objs.size s2 H2 fp _ s71 _ _ _ I71 k71) fun y8 s8 zz => ?_
      obtain ⟨v, H8, I8, r8, m', lm, w8⟩ := zz
      obtain ⟨pD1, pD2, pD3, pD4, _⟩ := I8.pin (s2.heap.objs.size, LCg.lst us) (by simp [cxC])
      have kf : ∀ b ∈ fp, ∀ o, s6.heap.get? b = some o → s8.heap.get? b = some o ∧ H8 b = none := fun b hb o e => by
        have q := I8.pin (b, o) (List.mem_append_right _ (List.mem_append_right _ (mem_pinsAt hb e)))
        exact ⟨q.1, q.2.1⟩
      refine append_at (hsz := by show us.toArray.size ≤ sizeLine; rw [List.size_toArray, ← vs4.length]; exact hz) pD1 fun h9 sb9 hD9 => ?_
      have I8' : Inv (cxC X (xs ++ ns) scope cl g2.objs.size s2 H2 fp) [] (stL loc2 idx σ) H8 s8 := I8.pins_of fun p hp => nomatch hp
      have I9 := I8'.turned (it := s2.heap.objs.size) (h' := h9) (t' := s8.toks) (fun b o hb e => (sb9.2 b hb).trans e) pD2 pD3 (.inr (Nat.le_refl _)) (fun y c e z => by
          obtain ⟨v, q⟩ := I2.cell y c (hcl y c e)
          exact absurd q.lt (by rw [z]; exact Nat.lt_irrefl _)) (fun p hp => by simp [cxC] at hp)
      refine ⟨m', lm, i + 1, ys ++ [v], us ++ [y8], loc2, H8, l2, I9.pins_of fun p hp => ?_, ?_, fun b hb => ?_, vs4.append (.cons r8 .nil), w8⟩
      · rw [List.mem_singleton.mp hp]
        exact ⟨hD9.trans (congrArg some (LCg.lst_snoc us y8)), pD2, pD3, pD4, lnc _⟩
      · exact T.keep _ _ _ st6 fun b hb o e => (sb9.2 b (Nat.ne_of_lt (lt b hb))).trans (kf b hb o e).1
      · obtain ⟨o, e, _⟩ := T.obj _ _ st6 b hb
        exact (kf b hb o e).2
  exact codeAny_compStart_list (loop _ rfl) (T.self _ 0 _ _ _ (T.keep _ _ _ st2 fun b _ o e => keep1 b o e) (loop _ rfl))
theorem pe_lcG (hc : X.calm = true) (hi : PI X tg iter wi) (hclos : closureFor scope X.env = pure cl) (hcell : ∀ y ∈ scope.names, y.2 ≠ .cell) (hkind : scope.kind = .function)
    (hnames : ∀ y ∈ scope.names, y.2 = .local → scope.names.lookup y.1 = some .local) (hg : ∀ (C : Addr) (s : Shared) (H : Hp) (fp : List Addr), PG (cxC X (xs ++ ns) scope cl C s H fp) tg g) (cap : Capt X scope cl ns idx)
    (hcl : ∀ y c, cl.lookup y = some c → X.env.cells.lookup y = some c) (hfr : ∀ y, ((relabel scope X.env).names.lookup y = some .cell ∨ (relabel scope X.env).names.lookup y = some .free) → ∃ c, cl.lookup y = some c)
    (htt : ∀ (C : Addr) (s : Shared) (H : Hp) (fp : List Addr), PTs (cxC X (xs ++ ns) scope cl C s H fp) ifs tt) (hel : ∀ (C : Addr) (s : Shared) (H : Hp) (fp : List Addr), PE (cxC X (xs ++ ns) scope cl C s H fp) elt te) (hs : ∀ v, foldedSetIterable iter X.env v = pure v := by intro _; rfl) :
    PE X (.ListComp elt [⟨tg, iter, ifs, 0⟩] scope pos) (tLcG wi xs.length idx g tt te) := by
  intro pins s σ H Q I h
  rw [eval_ListComp]
  refine wpAny_comprehension_free (use := none) rfl hs hclos hkind hnames (thn (hi pins s σ H _ I h) fun v s1 h1 => thn h1 fun itv s2 h2 => ?_)
  refine lc_mainG hc hi hclos hcell hkind hnames hg cap hcl hfr htt hel (RR := fun acc C => compPost (model X.prog X.w) X.A X.xe none (EP X pins σ Q) acc C) h2 fun fp H2 H4 s5 C D ys I2 f2 L q => ?_
  obtain ⟨mC, hnC⟩ := L.ns
  exact ⟨mC, hnC, fun h' sb => ⟨.ref D, _, L.inv I2 f2 sb, rfl, q⟩⟩
end
section
variable {K : PySem.W.Frag} {te : TE} {tt : TT} {g : TG} {σ : L2.St} {H : Hp} {Q : VK} {idx : List Nat} {k : Nat}
theorem lcg_list {a : Addr} {xs : List V} (Pv : Nat → List V → Hp → Prop) (h0 : Pv 0 [] H) (hz : xs.length ≤ sizeLine) (hy : ∀ i ys H, Pv i ys H → ys.length = i) (hl : ∀ i ys H, Pv i ys H → SqL K H a xs)
    (hs : ∀ i x ys H (Q' : VK) (loc : List (Option V)), loc.length = k → xs[i]? = some x → Pv i ys H → (∀ v H2, Pv (i + 1) (ys ++ [v]) H2 → Q' v H2) → g x (stL loc idx σ) H fun σ2 H2 => (∃ loc2 : List (Option V), loc2.length = k ∧ σ2 = stL loc2 idx σ) ∧ te σ2 H2 Q') (hd : ∀ ys H, Pv xs.length ys H → ∀ p, H p = none → Q (.ref p) (upd H p (.lst ys))) :
    LcBodyG (Itl K a) k idx g ttNil te σ Q H := by
  refine ⟨fun i m ys H => m = xs.length - i ∧ i ≤ xs.length ∧ Pv i ys H, ⟨xs.length, by simp, Nat.zero_le _, h0⟩, ?_⟩
  rintro i m ys H ⟨rfl, hi, p⟩
  have q := hl i ys H p
  refine ⟨by rw [hy i ys H p]; omega, ?_⟩
  by_cases hlt : i < xs.length
  · refine .inr ⟨⟨xs, xs[i], q, by simp [hlt]⟩, fun y H' yl loc ll => ?_⟩
    obtain ⟨e, yl⟩ := yl
    subst e
    have z := hs i y ys _ (fun v H4 => ∃ m', m' < xs.length - i ∧ m' = xs.length - (i + 1) ∧ i + 1 ≤ xs.length ∧ Pv (i + 1) (ys ++ [v]) H4) loc ll (yl xs q) p fun v H2 z => ⟨xs.length - (i + 1), by omega, rfl, hlt, z⟩
    exact z
  · have e : i = xs.length := by omega
    subst e
    exact .inl ⟨⟨xs, q, Nat.le_refl _⟩, hd ys H p⟩
end
section
variable {X : Cx} {pos : Pos}
theorem pg_tupK {K : PySem.W.Frag} (hK : X.K = K) {es : List Expr} {k : Nat} {t : TGs} {n : Nat} (hc : X.calm = true) (h : PGs X es t) (hn : (assignEach es X.env).length = n := by rfl) (hst : (assignEach es X.env).findIdx? (·.1) = none := by rfl) : PG X (.Tuple es k pos) (gTup K n t) := by
  subst hK
  exact pg_tup hc h hn hst
end
theorem Al2.set {β : Type} {R : V → β → Prop} : ∀ {xs : List V} {bs : List β} {j : Nat} {x : V} {b : β}, Al2 R xs bs → R x b → Al2 R (xs.set j x) (bs.set j b)
  | [], [], _, _, _, _, _ => trivial
  | _ :: _, _ :: _, 0, _, _, z, h => ⟨h, z.2⟩
  | _ :: _, _ :: _, j + 1, _, _, z, h => ⟨z.1, Al2.set z.2 h⟩
  | [], _ :: _, _, _, _, z, _ => z.elim
  | _ :: _, [], _, _, _, z, _ => z.elim
end Kw
set_option Elab.async false
set_option linter.all false
set_option maxRecDepth 100000
set_option maxHeartbeats 4000000
namespace Kw
open PySem PySem.Spec PyProof.Rows L2
noncomputable def Ite (K : PySem.W.Frag) (a : Addr) : It where
  go := fun i H => ∃ xs x, SqL K H a xs ∧ xs[i]? = some x
  yld := fun i H v H' => ∃ p x, v = .ref p ∧ H p = none ∧ H' = upd H p (.tup [.int (i : Int), x]) ∧ ∀ xs, SqL K H a xs → xs[i]? = some x
  stop := fun i H => ∃ xs, SqL K H a xs ∧ xs.length ≤ i
structure EnumAt (e it a : Addr) (i : Nat) (h : Heap) : Prop where
  en : ∃ old, IsEnum h e it (i : Int) old
  ji : h.IsListIter it a i
theorem turn_enum {P : Program} {w : World} {K : PySem.W.Frag} {elts : List Expr} {x1} {pos : Pos} (e it a : Addr) (ne : e ≠ it) :
    Turn P w K (.Tuple elts x1 pos) (Ite K a) [e, it] e (fun i h => EnumAt e it a i h) where
  mem := by simp
  obj := fun i h st c hc => by
    obtain ⟨⟨old, en⟩, ⟨o1, e1, _, c1⟩⟩ := st
    simp only [List.mem_cons, List.not_mem_nil, or_false] at hc
    rcases hc with rfl | rfl
    · exact ⟨_, en, fun v q => nomatch q⟩
    · exact ⟨_, e1, fun v q => by rw [c1] at q; cases q⟩
  keep := fun i h h' st k => by
    obtain ⟨⟨old, en⟩, ⟨o1, e1, b1, c1⟩⟩ := st
    exact ⟨⟨old, k e (by simp) _ en⟩, ⟨o1, k it (by simp) _ e1, b1, c1⟩⟩
  item := by
    intro X hP hw hK hc i pins s σ H E I hf st hg
    subst hP hw hK
    obtain ⟨xs, x, hx, ex⟩ := hg
    obtain ⟨its, rv, p, hz⟩ := I.list hx
    obtain ⟨u, hu, ru⟩ := rv.get ex
    obtain ⟨⟨old, en⟩, ji⟩ := st
    refine wpAny_pyNext_enum_item en ji p.isList (x := u) (by simpa using hu) ne fun h1 eo j1 pt sz kp => ?_
    refine ⟨_, rfl, wpAny_letOwnedTupleGo_enum eo fun h2 e2 sb => ?_⟩
    have I1 : Inv X pins σ H { s with heap := h1, toks := s.toks + 1 } := Kw.Inv.turnedL (t' := s.toks + 1) (ch := [e, it]) I (fun c o hc q => by
      simp only [List.mem_cons, List.not_mem_nil, or_false, not_or] at hc
      exact kp c o hc.1 hc.2 q) hf
    have I2 : Inv X pins σ H { s with heap := h2, toks := s.toks + 1 } := Kw.Inv.turnedL (s := { s with heap := h1, toks := s.toks + 1 }) (t' := s.toks + 1) (ch := [e, it]) I1 (fun c o hc q => by
      simp only [List.mem_cons, List.not_mem_nil, or_false, not_or] at hc
      exact (sb.2 c hc.1).trans q) hf
    have nn : H s.heap.objs.size = none := I.hok.fresh (Nat.le_refl _)
    have zl : e ≠ s.heap.objs.size := Nat.ne_of_lt (Heap.lt_size en)
    have kk : ∀ c, c ≠ e → h2.get? c = h1.get? c := fun c hc => sb.2 c hc
    have pp2 : h2.get? s.heap.objs.size = some { cls := .type "tuple", data := .seq #[.int i s.toks, u] } := (kk _ (Ne.symm zl)).trans pt
    have I3 : Inv X pins σ (upd H s.heap.objs.size (.tup [.int (i : Int), x])) { s with heap := h2, toks := s.toks + 1 } := by
      refine Kw.Inv.adopt (fun q c hq z' => ?_) I2 (Heap.get?_none_of_le I.sz) nn (fun z' => ?_) (fun q hq z' => ?_) ⟨by show 2 ≤ sizeLine; decide, [.int i s.toks, u], .cons ⟨_, rfl⟩ (.cons ru .nil), ⟨_, pp2, rfl, 0, rfl⟩⟩
      · obtain ⟨_, o, q, _⟩ := I.cell q c hq
        exact absurd (Heap.lt_size q) (by rw [z']; exact Nat.lt_irrefl _)
      · exact absurd I.lt (by rw [← z']; exact Nat.lt_irrefl _)
      · exact absurd (Heap.lt_size (I.pin q hq).1) (by rw [z']; exact Nat.lt_irrefl _)
    refine ⟨.ref s.heap.objs.size, _, I3, rfl, ⟨_, x, rfl, nn, rfl, fun zs hzs => by rw [I.list_inj hzs hx]; exact ex⟩, ⟨⟨u, by simpa using e2⟩, ?_⟩, fun c hc => ?_⟩
    · obtain ⟨o1, q1, r1⟩ := j1
      exact ⟨o1, (kk _ (Ne.symm ne)).trans q1, r1⟩
    · have lc : c ≠ s.heap.objs.size := by
        simp only [List.mem_cons, List.not_mem_nil, or_false] at hc
        obtain ⟨o1, q1, _⟩ := ji
        rcases hc with rfl | rfl
        · exact zl
        · exact Nat.ne_of_lt (Heap.lt_size q1)
      rw [upd_ne lc]
      exact (hf c hc).1
  done := by
    intro X hP hw hK hc i pins s σ H E I hf st hg
    subst hP hw hK
    obtain ⟨xs, hx, hl⟩ := hg
    obtain ⟨its, rv, p, hz⟩ := I.list hx
    obtain ⟨⟨old, en⟩, ji⟩ := st
    have l1 := rv.length
    exact wpAny_pyNext_enum_end (I.ok.hd hc) en ji p.isList (by simp; omega) fun h1 eb => ⟨rfl, Kw.Inv.turnedL (t' := s.toks) (ch := [e, it]) I (fun c o hc q => by
      simp only [List.mem_cons, List.not_mem_nil, or_false, not_or] at hc
      exact eb c o hc.2 q) hf⟩
  self := fun _ _ _ _ _ st h => let ⟨_, q⟩ := st.en; wpAny_pyIter_enum q h
noncomputable def iEnum (K : PySem.W.Frag) (ta : TA) : TI := fun σ H R => ta σ H fun vs H1 => ∃ a xs, vs = [.ref a] ∧ SqL K H1 a xs ∧ R (Ite K a) H1
theorem pi_enum {X : Cx} {elts : List Expr} {x1} {tpos p pos : Pos} {e1 : Expr} {ta : TA} (hg : Gl X "enumerate") (hm : X.mg "enumerate" = none) (ha : PA X [e1] ta) (hs : starEach [e1] X.env = [(false, eval e1 X.env)] := by rfl) :
    PI X (.Tuple elts x1 tpos) (.Call (.Name "enumerate" p) [e1] [] pos) (iEnum X.K ta) := by
  intro pins s σ H R I h
  refine Call_ (ld_blt I hg hm PyProof.Rows.Boot.«enumerate» (PyProof.Rows.callWith_type1 (thn (ha pos pins s σ H _ I h) fun us s1 ⟨vs, H1, I1, r1, q1⟩ => ?_) hs rfl))
  obtain ⟨a, xs, rfl, hx, q⟩ := q1
  obtain ⟨u, rfl, ru⟩ := vals1 r1
  cases (show u = Value.ref a from ru)
  obtain ⟨its, _, pa, _⟩ := I1.list hx
  refine call_enumerate_list pa.isList fun h' en ji sz kp => ?_
  refine wpAny_pyIter_enum en ?_
  refine ⟨_, [s1.heap.objs.size + 1, s1.heap.objs.size], _, _, H1, rfl, I1.kept (t' := s1.toks) kp, turn_enum _ _ a (Nat.succ_ne_self _), ⟨⟨_, en⟩, ji⟩, fun c hc => ?_, q⟩
  have lc : s1.heap.objs.size ≤ c := by
    simp only [List.mem_cons, List.not_mem_nil, or_false] at hc
    rcases hc with rfl | rfl
    · exact Nat.le_succ _
    · exact Nat.le_refl _
  exact I1.fpOk lc (I1.hok.fresh lc)
theorem for_enum {K : PySem.W.Frag} {a : Addr} {xs : List V} {g : TG} {tb : TS} {D : Ends} {σ : L2.St} {H : Hp} (Pv : Nat → L2.St → Hp → Prop) (h0 : Pv 0 σ H) (hl : ∀ i σ H, Pv i σ H → SqL K H a xs)
    (hs : ∀ i x σ H, xs[i]? = some x → Pv i σ H → ∀ p H', Same H H' → H p = none → H' p = some (.tup [.int (i : Int), x]) → g (.ref p) σ H' fun σ2 H2 => tb { D with nx := Pv (i + 1), ct := Pv (i + 1), bk := D.nx } σ2 H2) (hd : ∀ σ H, Pv xs.length σ H → D.nx σ H) :
    ∃ W : Nat → Nat → L2.St → Hp → Prop, (∃ m, W 0 m σ H) ∧ ∀ i m σ H, W i m σ H →
      ((Ite K a).stop i H ∧ D.nx σ H) ∨ ((Ite K a).go i H ∧ ∃ N : L2.St → Hp → Prop, (∀ σ' H', N σ' H' → ∃ m', m' < m ∧ W (i + 1) m' σ' H') ∧ ∀ x H', (Ite K a).yld i H x H' → g x σ H' fun σ2 H2 => tb { D with nx := N, ct := N, bk := D.nx } σ2 H2) := by
  refine ⟨fun i m σ H => m + i = xs.length ∧ Pv i σ H, ⟨xs.length, rfl, h0⟩, ?_⟩
  rintro i m σ H ⟨hm, pv⟩
  have l1 := hl i σ H pv
  by_cases hlt : i < xs.length
  · refine .inr ⟨⟨xs, xs[i], l1, List.getElem?_eq_getElem hlt⟩, Pv (i + 1), fun σ' H' p' => ⟨m - 1, by omega, by omega, p'⟩, fun v H' y => ?_⟩
    obtain ⟨q, x', rfl, hq, rfl, ex⟩ := y
    exact hs i x' σ H (ex xs l1) pv q _ (same_new hq _) hq upd_same
  · have e : i = xs.length := by omega
    subst e
    exact .inl ⟨⟨xs, l1, Nat.le_refl _⟩, hd σ H pv⟩
end Kw
set_option Elab.async false
set_option linter.all false
set_option maxRecDepth 100000
set_option maxHeartbeats 4000000
namespace Kw
open PySem PySem.Spec PyProof.Rows L2
section
variable {prog : Program} {w : World} {A : Around} {E : Value → Shared → Prop} {h : Heap} {g : Array GenState} {d : Drawn} {t : Nat} {os : OsState} {C f : Addr} {K : PySem.W.Frag}
end
end Kw
namespace Kw
open PySem PySem.Spec PyProof.Rows L2
section
variable {prog : Program} {w : World} {A : Around} {E : Value → Shared → Prop} {h : Heap} {g : Array GenState} {d : Drawn} {t : Nat} {os : OsState} {C e : Addr} {K : PySem.W.Frag} {oe : Obj} {vs : Array Value}
end
end Kw
namespace Kw
open PySem PySem.Spec PyProof.Rows L2 PySem.Builtin PySem.Builtin.ObjectAttr
section
variable {prog : Program} {w : World} {A : Around} {R : Result → Shared → Prop} {s : Shared} {K : PySem.W.Frag} {x C : Addr} {ox : Obj} {od : Option Obj} {name : Str} {tk : Tok} {v : Value}
end
end Kw
set_option Elab.async false
set_option linter.all false
set_option maxRecDepth 100000
set_option maxHeartbeats 4000000
namespace Kw
open PySem PySem.Spec PyProof.Rows L2 PySem.Builtin PySem.Builtin.ObjectAttr
section
variable {prog : Program} {w : World} {A : Around} {R : Result → Shared → Prop} {s : Shared} {K : PySem.W.Frag} {x C : Addr} {ox : Obj} {od : Option Obj} {name : Str} {tk : Tok} {v : Value}
end
end Kw
set_option Elab.async false
set_option linter.all false
set_option maxRecDepth 100000
set_option maxHeartbeats 4000000
namespace Kw
open PySem PySem.Spec PyProof.Rows L2 PySem.Builtin PySem.Builtin.ObjectAttr
section
variable {prog : Program} {w : World} {A : Around} {E : Value → Shared → Prop} {s : Shared} {K : PySem.W.Frag} {x C : Addr} {ox : Obj} {odx : Obj} {name : Str} {v : Value}
end
end Kw
set_option Elab.async false
set_option linter.all false
set_option maxRecDepth 100000
set_option maxHeartbeats 4000000
namespace Kw
open PySem PySem.Spec PyProof.Rows L2
section
variable {P : Program} {w : World} {H : Hp} {h : Heap} {x C d : Addr} {od : Option Addr} {fs : List (Str × V)}
end
section
variable {P : Program} {w : World} {K : PySem.W.Frag} {mg : Str → Option Value} {base : Heap} {C : Addr} {qual : Str} {st : Stmt} {N ps : List Str} {k : Nat} {sp : Sp}
end
section
variable {X : Cx} {pins : List (Addr × Obj)} {σ : L2.St} {H : Hp} {s : Shared} {k k' : Nat} {f C CK : Addr} {fd : FuncData} {ps : List Str} {sp : Sp} {E : XK} {x : Str} {p pos apos : Pos} {e : Expr} {es : List Expr} {t : TA}
variable {o value : Expr} {f : Str} {pos' : Pos} {ta tv : TE}
end
end Kw
set_option Elab.async false
set_option linter.all false
set_option maxRecDepth 100000
set_option maxHeartbeats 4000000
namespace Kw
open PySem PySem.Spec PyProof.Rows L2
noncomputable def clsAt (l : List Addr) (n : Nat) : Addr := l.getD n 0
end Kw
set_option Elab.async false
set_option linter.all false
set_option maxRecDepth 100000
set_option maxHeartbeats 4000000
namespace Kw
open PySem PySem.Spec PyProof.Rows L2
section
variable {X : Cx} {E : XK} {e : Expr} {te : TE} {pos : Pos}
variable {o : Expr} {f : Str} {ta : TE}
end
end Kw
set_option Elab.async false
set_option linter.all false
set_option maxRecDepth 100000
set_option maxHeartbeats 4000000
namespace Kw
open PySem PySem.Spec PyProof.Rows L2
section
variable {X : Cx} {pins pins' : List (Addr × Obj)} {σ : L2.St} {H : Hp} {s : Shared} {E0 : Value → Shared → Prop}
end
section
variable {X : Cx} {pins : List (Addr × Obj)} {H : Hp} {s : Shared} {hc : Heap} {x CA : Addr} {od : Option Addr}
end
section
variable {X : Cx} {pins : List (Addr × Obj)} {σ : L2.St} {H : Hp} {s : Shared}
end
section
variable {X : Cx} {j : Nat} {n xK : Str} {CK : Addr} {ts : TS} {b₀ : Stmt} {suite : List Stmt} {kp hpos pos : Pos} {rest : List ExceptHandler} {tr : Ends → Addr → Option Addr → Hp → Prop}
variable {body : List Stmt} {tb : XK → TS} {th : Ends → Addr → Option Addr → Hp → Prop} {h₀ : ExceptHandler} {hs : List ExceptHandler}
end
end Kw
set_option Elab.async false
set_option linter.all false
set_option maxRecDepth 100000
set_option maxHeartbeats 4000000
namespace Kw
open PySem PySem.Spec PyProof.Rows L2
section
variable {X : Cx}
end
section
variable {K : PySem.W.Frag} {idx : List Nat} {tt : TT} {te : TE} {σ : L2.St} {H : Hp} {Q : VK}
theorem lc_filter {a : Addr} {xs : List V} (p : V → Bool) (hl : SqL K H a xs) (hz : xs.length ≤ sizeLine) (ht : ∀ x ∈ xs, ∀ Q' : Bool → Hp → Prop, Q' (p x) H → tt (stIn (some x) idx σ) H Q') (he : ∀ x ∈ xs, ∀ Q' : VK, Q' x H → te (stIn (some x) idx σ) H Q')
    (hd : ∀ q, H q = none → Q (.ref q) (upd H q (.lst (xs.filter p)))) : LcBodyT (Itl K a) idx tt te σ Q H := by
  refine ⟨fun i m ys H' => m = xs.length - i ∧ i ≤ xs.length ∧ H' = H ∧ ys = (xs.take i).filter p, ⟨xs.length, by simp, Nat.zero_le _, rfl, by simp⟩, ?_⟩
  rintro i m ys H' ⟨rfl, hi, rfl, rfl⟩
  refine ⟨Nat.le_trans (List.length_filter_le _ _) (by rw [List.length_take]; omega), ?_⟩
  by_cases hlt : i < xs.length
  · refine .inr ⟨⟨xs, xs[i], hl, by simp [hlt]⟩, fun y H' yl => ?_⟩
    obtain ⟨e, yl⟩ := yl
    subst e
    have hy := yl xs hl
    have hm : y ∈ xs := List.mem_of_getElem? hy
    have tk := take_succ_filter p xs i y hy
    refine ht y hm _ ?_
    cases hp : p y with
    | true =>
      rw [hp] at tk
      rw [if_pos rfl]
      exact he y hm _ ⟨xs.length - (i + 1), by omega, rfl, hlt, rfl, by rw [tk]; rfl⟩
    | false =>
      rw [hp] at tk
      rw [if_neg (by decide)]
      exact ⟨xs.length - (i + 1), by omega, rfl, hlt, rfl, by rw [tk]; simp⟩
  · have e : i = xs.length := by omega
    subst e
    refine .inl ⟨⟨xs, hl, Nat.le_refl _⟩, ?_⟩
    rw [List.take_length]
    exact hd
end
end Kw
set_option Elab.async false
set_option linter.all false
set_option maxRecDepth 100000
set_option maxHeartbeats 4000000
namespace Kw
open PySem PySem.Spec PyProof.Rows L2
noncomputable abbrev Bod := Rat × Rat × Int
theorem atI_z {xs : List V} {j : Nat} {x : V} (h : xs[j]? = some x) : atI xs (0 + (j : Int)) = some x := by
  rw [Int.zero_add]
  exact atI_nat h
section
variable {K : PySem.W.Frag} {te : TE} {tt : TT} {σ : L2.St} {H : Hp} {Q : VK} {idx : List Nat} {n : Nat}
end
section
variable {K : PySem.W.Frag} {H : Hp} {m n : Nat} {x : V} {b : Bod}
theorem BdQ.mono (h : BdQ K H m x b) (l : m ≤ n) : BdQ K H n x b := by
  obtain ⟨p, a, c, e, h1, h2, h3, d1, d2, r⟩ := h
  exact ⟨p, a, c, e, h1, h2, h3, d1.mono l, d2.mono l, r⟩
theorem bds_mono {xs : List V} {bs : List Bod} (h : Al2 (BdQ K H m) xs bs) (l : m ≤ n) : Al2 (BdQ K H n) xs bs := Al2.imp (fun _ _ z => z.mono l) h
theorem Asc.of_places {as bs : List Bod} (h : Asc as) (e : bs.map (·.1) = as.map (·.1)) : Asc bs := by
  have h1 : List.Pairwise (fun a b : Rat => a < b) (as.map (·.1)) := List.pairwise_map.mpr h
  rw [← e] at h1
  exact List.pairwise_map.mp h1
end
end Kw
set_option Elab.async false
set_option linter.all false
set_option maxRecDepth 100000
set_option maxHeartbeats 4000000
namespace Kw
open PySem PySem.Spec PyProof.Rows L2
noncomputable def Six (B : Int) (x : Rat) : Prop := ∃ n : Int, x = (n : Rat) / 6 ∧ -B ≤ n ∧ n ≤ B
section
variable {B C : Int} {x y : Rat}
theorem Six.add (h : Six B x) (g : Six C y) : Six (B + C) (x + y) := by
  obtain ⟨n, rfl, a, b⟩ := h
  obtain ⟨m, rfl, c, d⟩ := g
  refine ⟨n + m, ?_, by omega, by omega⟩
  rw [Rat.intCast_add]
  grind
theorem Six.sub (h : Six B x) (g : Six C y) : Six (B + C) (x - y) := by
  obtain ⟨n, rfl, a, b⟩ := h
  obtain ⟨m, rfl, c, d⟩ := g
  refine ⟨n - m, ?_, by omega, by omega⟩
  rw [Rat.intCast_sub]
  grind
theorem Six.mono (h : Six B x) (l : B ≤ C) : Six C x := by
  obtain ⟨n, e, a, b⟩ := h
  exact ⟨n, e, by omega, by omega⟩
theorem six_dv (n : Int) : Rat.divInt n 6 = (n : Rat) / 6 := q_dv n 6
theorem Six.fb (h : Six B x) (l : B ≤ 1000000000) : FB 64 x := by
  obtain ⟨n, rfl, a, b⟩ := h
  rw [← six_dv]
  exact FB.fit (by decide) (Bd.small (by omega) (by omega)) (Bd.small (by decide) (by decide))
theorem six_fit {n d N : Int} (d1 : 1 ≤ d) (d3 : d ≤ 3) (a : -N ≤ n) (b : n ≤ N) : Six (6 * N) (Rat.divInt n d) := by
  rw [q_dv]
  rcases (show d = 1 ∨ d = 2 ∨ d = 3 by omega) with rfl | rfl | rfl
  · refine ⟨6 * n, ?_, by omega, by omega⟩
    rw [Rat.intCast_mul]
    show (n : Rat) / 1 = 6 * n / 6
    grind
  · refine ⟨3 * n, ?_, by omega, by omega⟩
    rw [Rat.intCast_mul]
    show (n : Rat) / 2 = 3 * n / 6
    grind
  · refine ⟨2 * n, ?_, by omega, by omega⟩
    rw [Rat.intCast_mul]
    show (n : Rat) / 3 = 2 * n / 6
    grind
theorem six_over {c d : Int} (h : Six B x) (l : B ≤ 1000000000) (c1 : 1 ≤ c) (c9 : c ≤ 100) (d1 : 1 ≤ d) (d9 : d ≤ 100) : FB 64 (x / Rat.divInt c d) := by
  obtain ⟨n, rfl, a, b⟩ := h
  have e : (n : Rat) / 6 / Rat.divInt c d = Rat.divInt (n * d) (6 * c) := by
    rw [q_dv, q_dv, Rat.intCast_mul, Rat.intCast_mul]
    have hc := q_wpos c1
    have hd := q_wpos d1
    show (n : Rat) / 6 / ((c : Rat) / d) = n * d / (6 * c)
    grind
  rw [e]
  have p1 : n * d ≤ 100000000000 := by
    have := Int.mul_le_mul (show n ≤ 1000000000 by omega) d9 (by omega) (by decide)
    omega
  have p2 : -100000000000 ≤ n * d := by
    have := Int.mul_le_mul (show -n ≤ 1000000000 by omega) d9 (by omega) (by decide)
    rw [Int.neg_mul] at this
    omega
  exact FB.fit (by omega) (Bd.small (by omega) (by omega)) (Bd.small (by omega) (by omega))
end
end Kw
set_option Elab.async false
set_option linter.all false
set_option maxRecDepth 100000
set_option maxHeartbeats 4000000
namespace Kw
open PySem PySem.Spec PyProof.Rows L2
end Kw
set_option maxRecDepth 100000
set_option linter.all false
namespace Kw
end Kw
namespace Kw
end Kw
set_option Elab.async false
set_option linter.all false
set_option maxRecDepth 100000
set_option maxHeartbeats 4000000
namespace Kw
open PySem PySem.Spec PyProof.Rows L2
section
variable {X : Cx}
noncomputable def rBits : V → List V → Hp → VK → Prop := fun x vs H Q => ∃ i : Int, x = .int i ∧ vs = [] ∧ Q (.int ((Builtin.Int.intBits i : Nat) : Int)) H
theorem mt_bits : MtR X "int.bit_length" rBits := by
  intro pins s σ H x vs v us Q I rx rv h
  obtain ⟨i, rfl, rfl, q⟩ := h
  obtain ⟨t, rfl⟩ := rx
  cases rv
  exact call_gives PySem.F.slot_int_bit_length (typeIs_int s i t) PySem.F.entry_int_bit_length (PySem.F.args_int_bit_length_1 _) (PySem.AutoIntG2.int_bit_length_int_0 i t) ⟨.int ((Builtin.Int.intBits i : Nat) : Int), H, I.tok _, ⟨_, rfl⟩, q⟩
end
noncomputable def spGcdB : Sp := fun vs H Q _ => ∃ a b : Int, vs = [.int a, .int b] ∧ Bd 4000 b ∧ Q (.int ((Int.gcd a b : Nat) : Int)) H
theorem short_min {a b : Int} (h : Bd 4000 b) : ¬ (((Builtin.Int.intBits (if (if b < 0 then -b else b) < (if a < 0 then -a else a) then (if b < 0 then -b else b) else (if a < 0 then -a else a)) : Nat) : Int) > 4000) := by
  have l : Bd 4000 (if (if b < 0 then -b else b) < (if a < 0 then -a else a) then (if b < 0 then -b else b) else (if a < 0 then -a else a)) := by
    refine h.of_le ?_
    split <;> split <;> (try split) <;> omega
  have := l.bits
  omega
end Kw
set_option Elab.async false
set_option linter.all false
set_option maxRecDepth 100000
set_option maxHeartbeats 4000000
namespace Kw
open PySem PySem.Spec PyProof.Rows L2
theorem q_invp {y : Rat} (h : 0 < y.num) : (y⁻¹).num = ((y.den : Nat) : Int) ∧ (((y⁻¹).den : Nat) : Int) = y.num := by
  have e : y⁻¹ = Rat.inv y := rfl
  rw [e]
  unfold Rat.inv
  rw [dif_neg (by omega), dif_pos h]
  exact ⟨rfl, by show ((y.num.natAbs : Nat) : Int) = y.num; omega⟩
theorem q_invn {y : Rat} (h : y.num < 0) : (y⁻¹).num = -((y.den : Nat) : Int) ∧ (((y⁻¹).den : Nat) : Int) = -y.num := by
  have e : y⁻¹ = Rat.inv y := rfl
  rw [e]
  unfold Rat.inv
  rw [dif_pos h]
  exact ⟨rfl, by show ((y.num.natAbs : Nat) : Int) = -y.num; omega⟩
theorem FB.inv {n : Nat} {y : Rat} (h : FB n y) (y0 : y ≠ 0) : FB n y⁻¹ := (FB.fit (q_num_ne y0) h.2 h.1).cast (q_inv y)
noncomputable def mixS (u v : Rat) (m w : Int) (s : Rat) : Rat := u * Rat.divInt (m * ((s.den : Nat) : Int) - w * s.num) ((m + w) * ((s.den : Nat) : Int)) + v * Rat.divInt (w * (((s.den : Nat) : Int) + s.num)) ((m + w) * ((s.den : Nat) : Int))
theorem mixS_one (u v : Rat) (m w : Int) : mixS u v m w ((1 : Int) : Rat) = mixQ u v m w := by
  have e1 : (((1 : Int) : Rat)).num = 1 := rfl
  have e2 : (((((1 : Int) : Rat)).den : Nat) : Int) = 1 := rfl
  unfold mixS mixQ
  rw [e1, e2]
  simp only [Int.mul_one]
  rw [show w * (1 + 1) = 2 * w by omega]
theorem both_ne {m w : Int} {s : Rat} (hm : 1 ≤ m) (hw : 1 ≤ w) : (m + w) * ((s.den : Nat) : Int) ≠ 0 := Int.mul_ne_zero (by omega) (q_ne s)
end Kw
namespace Kw
open PySem PySem.Spec PyProof.Rows L2
theorem cap_two {X : Cx} {scope : Scope} {cl : List (Str × Addr)} {y y' : Str} {j j' : Nat} {c c' : Addr} (h1 : X.N[j]? = some y) (h2 : X.env.kindOf y = some .cell) (h3 : X.env.cells.lookup y = some c) (h4 : cl.lookup y = some c)
    (h5 : (relabel scope X.env).names.lookup y = some .cell ∨ (relabel scope X.env).names.lookup y = some .free)
    (g1 : X.N[j']? = some y') (g2 : X.env.kindOf y' = some .cell) (g3 : X.env.cells.lookup y' = some c') (g4 : cl.lookup y' = some c')
    (g5 : (relabel scope X.env).names.lookup y' = some .cell ∨ (relabel scope X.env).names.lookup y' = some .free) : Capt X scope cl [y, y'] [j, j'] :=
  ⟨rfl, fun k z h => by
    match k with
    | 0 => cases h; exact ⟨j, c, rfl, h1, h2, h3, h4, h5⟩
    | 1 => cases h; exact ⟨j', c', rfl, g1, g2, g3, g4, g5⟩
    | k + 2 => simp at h⟩
end Kw
namespace Kw
theorem cl_two {cells : List (PySem.Str × PySem.Addr)} {y1 y2 : PySem.Str} {c1 c2 : PySem.Addr} (h1 : cells.lookup y1 = some c1) (h2 : cells.lookup y2 = some c2) : ∀ y c, List.lookup y [(y1, c1), (y2, c2)] = some c → cells.lookup y = some c := by
  intro y c e
  rw [List.lookup_cons] at e
  split at e
  · rename_i q
    have e1 : y = y1 := by simpa using q
    cases e
    rw [e1]
    exact h1
  · rw [List.lookup_cons] at e
    split at e
    · rename_i q
      have e1 : y = y2 := by simpa using q
      cases e
      rw [e1]
      exact h2
    · cases e
end Kw
set_option Elab.async false
set_option linter.all false
set_option maxRecDepth 100000
set_option maxHeartbeats 4000000
namespace Kw
open PySem PySem.Spec PyProof.Rows L2
end Kw
namespace Kw
open PySem PySem.Spec PyProof.Rows L2
end Kw
namespace Kw
open PySem PySem.Spec PyProof.Rows L2
theorem atI_neg {xs : List V} {k : Nat} {x : V} (h1 : 1 ≤ k) (h2 : k ≤ xs.length) (e : xs[xs.length - k]? = some x) : atI xs (-(k : Int)) = some x := by
  have z : ixN xs.length (-(k : Int)) = some (xs.length - k) := by
    unfold ixN
    rw [if_neg (by omega), if_pos (by omega)]
    congr 1
    omega
  unfold atI
  rw [z]
  exact e
end Kw
set_option Elab.async false
set_option linter.all false
set_option maxRecDepth 100000
set_option maxHeartbeats 4000000
namespace Kw
open PySem PySem.Spec PyProof.Rows L2
section
variable {S : V → Prop} {lt : V → V → Bool} {x y : V} {row : List V}
end
end Kw
set_option Elab.async false
set_option linter.all false
set_option maxRecDepth 100000
set_option maxHeartbeats 4000000
namespace Kw
open PySem PySem.Spec PyProof.Rows L2
section
variable {K : PySem.W.Frag} {H H' : Hp} {c : Addr} {x : V} {k k' : Int × Int} {xs ys : List V} {key : V → Int × Int}
end
end Kw
set_option Elab.async false
set_option linter.all false
set_option maxRecDepth 100000
set_option maxHeartbeats 4000000
namespace Kw
open PySem PySem.Spec PyProof.Rows L2
section
variable {K : PySem.W.Frag} {H H' : Hp} {b c : Addr} {x : V} {xs ys : List V}
theorem cut_sub {xs : List V} {lo hi : Option Int} {x : V} (h : x ∈ cutV xs lo hi) : x ∈ xs := List.mem_of_mem_drop (List.mem_of_mem_take h)
end
end Kw
namespace Kw
open PySem PySem.Spec PyProof.Rows L2
end Kw
namespace Kw
open PySem PySem.Spec PyProof.Rows L2
end Kw
namespace Kw
open PySem PySem.Spec PyProof.Rows L2
end Kw
namespace Kw
open PySem PySem.Spec PyProof.Rows L2
theorem g_go {i : Nat} {x : V} {σ : L2.St} {H : Hp} {Q : L2.St → Hp → Prop} (h : Q (σ.set i (some x)) H) : gName i x σ H Q := h
end Kw
set_option Elab.async false
set_option linter.all false
set_option maxRecDepth 100000
set_option maxHeartbeats 4000000
namespace Kw
open PySem PySem.Spec PyProof.Rows L2
theorem cl_one {cells : List (PySem.Str × PySem.Addr)} {y1 : PySem.Str} {c1 : PySem.Addr} (h1 : cells.lookup y1 = some c1) : ∀ y c, List.lookup y [(y1, c1)] = some c → cells.lookup y = some c := by
  intro y c e
  rw [List.lookup_cons] at e
  split at e
  · rename_i q
    have e1 : y = y1 := by simpa using q
    cases e
    rw [e1]
    exact h1
  · cases e
section
variable {idx : List Nat} {tt : TT} {te : TE} {σ : L2.St} {H : Hp} {Q : VK}
theorem lc_rangeF {n : Nat} (f : Nat → Bool) (hz : n ≤ sizeLine) (ht : ∀ i, i < n → ∀ Q' : Bool → Hp → Prop, Q' (f i) H → tt (stIn (some (.int (0 + (i : Int)))) idx σ) H Q') (he : ∀ i, i < n → ∀ Q' : VK, Q' (.int (0 + (i : Int))) H → te (stIn (some (.int (0 + (i : Int)))) idx σ) H Q')
    (hd : ∀ q, H q = none → Q (.ref q) (upd H q (.lst (((List.range n).filter f).map fun i : Nat => V.int (0 + (i : Int)))))) : LcBodyT (Itr 0 n) idx tt te σ Q H := by
  refine ⟨fun i m ys H' => m = n - i ∧ i ≤ n ∧ H' = H ∧ ys = ((List.range i).filter f).map fun i : Nat => V.int (0 + (i : Int)), ⟨n, by simp, Nat.zero_le _, rfl, rfl⟩, ?_⟩
  rintro i m ys H' ⟨rfl, hi, rfl, rfl⟩
  refine ⟨by rw [List.length_map]; exact Nat.le_trans (List.length_filter_le _ _) (by rw [List.length_range]; omega), ?_⟩
  by_cases hlt : i < n
  · refine .inr ⟨hlt, fun y H2 yl => ?_⟩
    obtain ⟨e, yl⟩ := yl
    subst e yl
    have tk : (List.range (i + 1)).filter f = (List.range i).filter f ++ (if f i = true then [i] else []) := by
      rw [List.range_succ, List.filter_append]
      congr 1
      show (match f i with | true => i :: [] | false => []) = _
      cases f i <;> rfl
    refine ht i hlt _ ?_
    cases hp : f i with
    | true =>
      rw [hp] at tk
      rw [if_pos rfl]
      exact he i hlt _ ⟨n - (i + 1), by omega, rfl, hlt, rfl, by rw [tk, if_pos rfl, List.map_append]; rfl⟩
    | false =>
      rw [hp] at tk
      rw [if_neg (by decide)]
      exact ⟨n - (i + 1), by omega, rfl, hlt, rfl, by rw [tk, if_neg (by decide), List.append_nil]⟩
  · have e : i = n := by omega
    subst e
    exact .inl ⟨Nat.le_refl _, hd⟩
end
end Kw
set_option Elab.async false
set_option linter.all false
set_option maxRecDepth 100000
set_option maxHeartbeats 4000000
namespace Kw
open PySem PySem.Spec PyProof.Rows L2
section
variable {X : Cx}
end
end Kw
namespace Kw
open PySem PySem.Spec PyProof.Rows L2
section
variable {X : Cx} {pos : Pos}
end
end Kw
set_option Elab.async false
set_option linter.all false
set_option maxRecDepth 100000
set_option maxHeartbeats 4000000
namespace Kw
open PySem PySem.Spec PyProof.Rows L2
noncomputable def mthAt (s : Stmt) (j : Nat) : Stmt := match s with
  | .ClassDef _ _ _ b _ _ _ _ _ _ _ => b.getD j (.Pass ⟨0, 0, 0, 0⟩)
  | _ => .Pass ⟨0, 0, 0, 0⟩
noncomputable def DfM (K : PySem.W.Frag) (C : Addr) (m qual : Str) (st : Stmt) (ps : List Str) : Prop :=
  ∃ (f : Addr) (oc : Value) (od : Option Addr) (kV doc pm : Value) (an : Option Addr) (cdv ct : Value) (osl : Array (Option Value)),
    K.lookup f = some ⟨oc, od, .func (PySem.W.fnOf m qual (defArgs st) (defBody st) (defScope st) .none kV doc pm an cdv ct), osl⟩ ∧ PySem.W.codeIn K cdv qual = true ∧ Meth K C m f ∧
    Binds K (PySem.W.fnOf m qual (defArgs st) (defBody st) (defScope st) .none kV doc pm an cdv ct) ps []
noncomputable def FnM (P : Program) (w : World) (K : PySem.W.Frag) (mg : Str → Option Value) (base : Heap) (k : Nat) (C : Addr) (m : Str) (ps : List Str) (sp : Sp) : Prop :=
  ∃ f fd, FnOk P w K mg base (CXE P w) k f fd ps sp ∧ Meth K C m f ∧ Binds K fd ps []
section
variable {P : Program} {w : World} {K : PySem.W.Frag} {mg : Str → Option Value} {base : Heap} {C : Addr} {m qual : Str} {st : Stmt} {N ps : List Str} {k : Nat} {sp : Sp}
theorem DfM.ok0 (D : DfM K C m qual st ps) (S : FnScope N ps (defScope st)) (len : ∀ vs H Q E, sp vs H Q E → vs.length = ps.length)
    (hbody : ∀ (f : Addr) (cdv : Value) (A : Around) (outer : List Env) (s : Shared) (H : Hp) (vs : List V) (Q : VK) (E : XK), Room k (A.deeper (envOfC qual (defScope st) s.heap.objs.size f cdv)) → sp vs H Q E →
      ∃ t, PSs (cxOf (CXE P w) P w K mg base N qual (defScope st) f cdv A outer s H E).nox (defBody st) t ∧ t { nx := fun _ H' => Q .non H', rt := Q } (start N vs) H) : FnM P w K mg base (k + 1) C m ps sp := by
  obtain ⟨f, oc, od, kV, doc, pm, an, cdv, ct, osl, lk, hcd, M, bd⟩ := D
  refine ⟨f, _, fn_of lk hcd S len fun A outer s H vs Q E hr hsp => ?_, M, bd⟩
  obtain ⟨t, h, q⟩ := hbody f cdv A outer s H vs Q E hr hsp
  exact ⟨t, h.nox, q⟩
theorem dfm_mk {f : Addr} {od an : Option Addr} {sl : Array (Option Value)} {oc kV dc pm cd ct : Value} (i : PySem.W.findIn K (.ref C) m = some (some (.ref f)))
    (t : PySem.W.isFn K (.ref f) = true) (l : K.lookup f = some ⟨oc, od, .func (PySem.W.fnOf m qual (defArgs st) (defBody st) (defScope st) .none kV dc pm an cd ct), sl⟩) (q : PySem.W.codeIn K cd qual = true) (kp : PySem.W.keepIn K (.ref f) = true)
    (b : ∀ us : List Value, us.length = ps.length → bindArgs (PySem.W.fnOf m qual (defArgs st) (defBody st) (defScope st) .none kV dc pm an cd ct) ⟨us, []⟩ = pure (ps.zip us)) : DfM K C m qual st ps :=
  ⟨f, oc, od, kV, dc, pm, an, cd, ct, sl, l, q, ⟨i, t, kp⟩, .all b⟩
end
section
variable {X : Cx} {k k' : Nat} {C : Addr} {m x f : Str} {ps : List Str} {sp : Sp} {E : XK} {p pos apos pos' tpos : Pos} {o e value : Expr} {es : List Expr} {t : TA} {ta tv : TE}
theorem pe_mt {pl : Sem Bool} (c : Cls X.K C) (F : FnM X.prog X.w X.K X.mg X.base k C m ps sp) (hk : k ≤ k') (hr : Room k' X.A) (hx : Passes (CXE X.prog X.w) X E) (he : PE X o ta) (ha : PA X (e :: es) t)
    (hst : starEach (e :: es) X.env = (false, eval e X.env) :: starEach es X.env := by rfl) (hpl : (backTo pos (starEach es X.env)).any (·.1) = false := by rfl)
    (ht : eval (.Call (.Attribute o m apos) (e :: es) [] pos) X.env = (do
      let ov ← eval o X.env
      standAt apos.atName
      let (f, first) ← holding [ov] (getMethod ov m pl)
      callWith pos f first (backTo pos (starEach (e :: es) X.env)) (backToKw pos (keywordEach [] X.env))) := by rfl) :
    PE X (.Call (.Attribute o m apos) (e :: es) [] pos) (tMeth C m sp [] E ta t) := by
  obtain ⟨f, fd, G, hm, bd⟩ := F
  exact pe_meth he c hm G (hr.mono hk) bd .nil hx ha hst hpl ht
theorem pe_mt0 {pl : Sem Bool} (c : Cls X.K C) (F : FnM X.prog X.w X.K X.mg X.base k C m ps sp) (hk : k ≤ k') (hr : Room k' X.A) (hx : Passes (CXE X.prog X.w) X E) (he : PE X o ta)
    (ht : eval (.Call (.Attribute o m apos) [] [] pos) X.env = (do
      let ov ← eval o X.env
      standAt apos.atName
      let (f, first) ← holding [ov] (getMethod ov m pl)
      callWith pos f first (backTo pos (starEach [] X.env)) (backToKw pos (keywordEach [] X.env))) := by rfl) :
    PE X (.Call (.Attribute o m apos) [] [] pos) (tMeth C m sp [] E ta tNil) := by
  obtain ⟨f, fd, G, hm, bd⟩ := F
  exact pe_meth0 he c hm G (hr.mono hk) bd .nil hx ht
theorem pe_mko (mk : PySem.W.makesIn X.K C = true) (kp : PySem.W.keepIn X.K (.ref C) = true) (F : FnM X.prog X.w X.K X.mg X.base k C "__init__" ps sp) (hk : k + 1 ≤ k') (hr : Room k' X.A) (hg : Gl X x) (hm : X.mg x = some (.ref C)) (hx : Passes (CXE X.prog X.w) X E)
    (ha : PA X (e :: es) t) (hdb : (x == ("__debug__" : Str)) = false := by decide) (he : starEach (e :: es) X.env = (false, eval e X.env) :: starEach es X.env := by rfl) (hpl : (backTo pos (starEach es X.env)).any (·.1) = false := by rfl) :
    PE X (.Call (.Name x p) (e :: es) [] pos) (tMake C sp [] E t) := by
  obtain ⟨f, fd, G, hf, bd⟩ := F
  exact pe_make ⟨mk, hf.at_, hf.fn, kp⟩ G (hr.mono hk) hg hm bd .nil hx ha hdb he hpl
noncomputable def tFldC (C : Addr) (ta : TE) (f : Str) : TE := fun σ H Q => ta σ H fun x H1 => ∃ a dx fs v, x = .ref a ∧ H1 a = some (.ins C dx fs) ∧ fs.lookup f = some v ∧ Q v H1
theorem pe_fldC (c : Cls X.K C) (n : NoAttr X.K C f) (he : PE X e ta) (hb : attributeBase e f X.env (eval e X.env) = eval e X.env := by rfl) : PE X (.Attribute e f pos) (tFldC C ta f) := by
  intro pins s σ H Q I h
  refine attr_of hb (thn (he pins s σ H _ I h) fun u s1 zz => ?_)
  obtain ⟨x, H1, I1, rx, a, dx, fs, v, ex, ea, l, q⟩ := zz
  subst ex
  obtain rfl : u = Value.ref a := rx
  exact getattr_ok I1 ea c n l fun u' s2 I2 ru => ⟨v, H1, I2, ru, q⟩
noncomputable def sFldC (C : Addr) (ta tv : TE) (f : Str) : TS := fun D σ H => tv σ H fun y H1 => ta σ H1 fun x H2 => ∃ a dx fs, x = .ref a ∧ H2 a = some (.ins C dx fs) ∧ fs.length < 1000 ∧
  D.nx σ (upd H2 a (.ins C dx (putF f y fs)))
theorem ps_fldC (c : Cls X.K C) (n : NoAttr X.K C f) (ha : PE X o ta) (hv : PE X value tv) (hs : swapsWith value (some (.Attribute o f pos')) pos.line X.env = pure false := by rfl) : PS X (.Assign [.Attribute o f pos'] value pos) (sFldC C ta tv f) := by
  intro pins s σ H D I h
  refine plainObj_wpAny_Assign_Attribute (thn (hv pins s σ H _ I h) fun u s1 ⟨y, H1, I1, ry, q⟩ => thn (ha pins s1 σ H1 _ I1 q) fun ov s2 ⟨x, H2, I2, rx, a, dx, fs, ex, ea, l, q2⟩ => ?_) hs
  subst ex
  obtain rfl : ov = Value.ref a := rx
  exact setattr_ok I2 ea c n l ry fun s3 I3 => ⟨σ, _, I3, q2⟩
noncomputable def sFldAdd (C : Addr) (ta tv : TE) (f : Str) : TS := fun D σ H => ta σ H fun x H1 => ∃ a dx fs i, x = .ref a ∧ H1 a = some (.ins C dx fs) ∧ fs.lookup f = some (.int i) ∧
  tv σ H1 fun y H2 => ∃ j, y = .int j ∧ H2 = H1 ∧ fs.length < 1000 ∧ D.nx σ (upd H1 a (.ins C dx (putF f (.int (i + j)) fs)))
theorem ps_fldadd (c : Cls X.K C) (n : NoAttr X.K C f) (hop : InOp X .Add rAdd) (ha : PE X o ta) (hv : PE X value tv) : PS X (.AugAssign (.Attribute o f tpos) .Add value pos) (sFldAdd C ta tv f) := by
  intro pins s σ H D I h
  refine wpAny_AugAssign_AttributeAny (thn (ha pins s σ H _ I h) fun ov s1 zz => ?_)
  obtain ⟨x, H1, I1, rx, a, dx, fs, i, ex, ea, l, q⟩ := zz
  subst ex
  obtain rfl : ov = Value.ref a := rx
  refine getattr_ok I1 ea c n l fun u s2 I2 ru => thn (hv pins s2 σ H1 _ I2 q) fun w3 s3 zz => ?_
  obtain ⟨y, H2, I3, ry, j, ey, eH, l', q4⟩ := zz
  subst ey eH
  refine thn (hop pins s3 σ H2 (.int i) (.int j) u w3 (fun z H3 => z = .int (i + j) ∧ H3 = H2) I3 ru ry ⟨i, j, rfl, rfl, rfl, rfl⟩) fun w4 s4 zz => ?_
  obtain ⟨z, H3, I4, rz, ez, eH3⟩ := zz
  subst ez eH3
  exact setattr_ok I4 ea c n l' rz fun s5 I5 => ⟨σ, _, I5, q4⟩
end
noncomputable def Buts (as : List Addr) (H H' : Hp) : Prop := ∀ a o, a ∉ as → H a = some o → H' a = some o
section
variable {K : PySem.W.Frag} {H H1 H2 : Hp} {as : List Addr}
theorem Buts.refl : Buts as H H := fun _ _ _ h => h
theorem Buts.trans (x : Buts as H H1) (y : Buts as H1 H2) : Buts as H H2 := fun a o n h => y a o n (x a o n h)
theorem Buts.of (x : Same H H1) : Buts as H H1 := fun a o _ h => x a o h
theorem Buts.one {b : Addr} (x : But b H H1) (h : b ∈ as) : Buts as H H1 := fun a o n q => x a o (fun e => n (e ▸ h)) q
theorem Buts.mono {bs : List Addr} (x : Buts as H H1) (h : ∀ a ∈ as, a ∈ bs) : Buts bs H H1 := fun a o n q => x a o (fun e => n (h a e)) q
noncomputable def NoT (as : List Addr) (H : Hp) : Prop := ∀ a ∈ as, (∀ ys, H a ≠ some (.tup ys)) ∧ ∀ o ys, H a ≠ some (.frz o (.tup ys))
theorem Buts.tup {p : Addr} {xs : List V} (x : Buts as H H1) (n : NoT as H) (h : SqT K H p xs) : SqT K H1 p xs := by
  rcases h with (h | ⟨ob, h⟩) | h
  · exact .inl (.inl (x _ _ (fun m => (n _ m).1 _ h) h))
  · exact .inl (.inr ⟨ob, x _ _ (fun m => (n _ m).2 _ _ h) h⟩)
  · exact .inr h
theorem BdQ.buts {n : Nat} {v : V} {b : Rat × Rat × Int} (x : Buts as H H1) (nt : NoT as H) (z : BdQ K H n v b) : BdQ K H1 n v b := by
  obtain ⟨p, a, c, e, h1, h2, h3, r⟩ := z
  exact ⟨p, a, c, e, x.tup nt h1, x.tup nt h2, x.tup nt h3, r⟩
theorem Buts.bds {n : Nat} {xs : List V} {bs : List (Rat × Rat × Int)} (x : Buts as H H1) (nt : NoT as H) (h : Al2 (BdQ K H n) xs bs) : Al2 (BdQ K H1 n) xs bs := Al2.imp (fun _ _ z => z.buts x nt) h
theorem NoT.nil : NoT [] H := fun _ h => nomatch h
theorem NoT.lst {a : Addr} {xs : List V} (h : H a = some (.lst xs)) (r : NoT as H) : NoT (a :: as) H := fun b hb => by
  rcases List.mem_cons.mp hb with rfl | hb
  · rw [h]
    exact ⟨fun _ z => (nomatch z), fun _ _ z => (nomatch z)⟩
  · exact r b hb
theorem NoT.ins {a C dx : Addr} {fs : List (Str × V)} (h : H a = some (.ins C dx fs)) (r : NoT as H) : NoT (a :: as) H := fun b hb => by
  rcases List.mem_cons.mp hb with rfl | hb
  · rw [h]
    exact ⟨fun _ z => (nomatch z), fun _ _ z => (nomatch z)⟩
  · exact r b hb
theorem Buts.fresh (s : Same H H1) (x : Buts as H1 H2) (n : ∀ a ∈ as, H a = none) : Same H H2 := fun a o h => x a o (fun m => by rw [n a m] at h; cases h) (s a o h)
end
end Kw
set_option Elab.async false
set_option linter.all false
set_option maxRecDepth 100000
set_option maxHeartbeats 4000000
namespace Kw
open PySem PySem.Spec PyProof.Rows L2
end Kw
set_option Elab.async false
set_option linter.all false
set_option maxRecDepth 100000
set_option maxHeartbeats 4000000
namespace Kw
open PySem PySem.Spec PyProof.Rows L2
end Kw
set_option Elab.async false
set_option linter.all false
set_option maxRecDepth 100000
set_option maxHeartbeats 4000000
namespace Kw
open PySem PySem.Spec PyProof.Rows L2
section
variable {β : Type} {R : V → β → Prop} {xs : List V} {bs : List β}
end
end Kw
set_option Elab.async false
set_option linter.all false
set_option maxRecDepth 100000
set_option maxHeartbeats 4000000
namespace Kw
open PySem PySem.Spec PyProof.Rows L2
noncomputable def jntQ (a b : Bod) : Option Rat := if a.2.1 - b.2.1 ≤ 0 then none else some ((b.1 - a.1) / (a.2.1 - b.2.1))
noncomputable def jnts : List Bod → List (Option Rat)
  | a :: b :: r => jntQ a b :: jnts (b :: r)
  | _ => []
theorem jnts_len : ∀ gs : List Bod, (jnts gs).length = gs.length - 1
  | [] => rfl
  | [_] => rfl
  | a :: b :: r => by
    show (jnts (b :: r)).length + 1 = _
    rw [jnts_len (b :: r)]
    simp
theorem jnts_get : ∀ {gs : List Bod} {i : Nat} {a b : Bod}, gs[i]? = some a → gs[i + 1]? = some b → (jnts gs)[i]? = some (jntQ a b)
  | [], _, _, _, h, _ => by simp at h
  | [_], i, _, _, _, h => by simp at h
  | x :: y :: r, 0, a, b, h1, h2 => by
    simp at h1 h2
    subst h1 h2
    rfl
  | x :: y :: r, i + 1, a, b, h1, h2 => by
    show (jnts (y :: r))[i]? = _
    exact jnts_get (by simpa using h1) (by simpa using h2)
noncomputable def less1 (o : Option Rat) (m : Rat) : Option Rat := match o with
  | none => some m
  | some f => if m < f then some m else some f
noncomputable def leastQ (l : List Rat) : Option Rat := l.foldl less1 none
theorem leastQ_snoc (l : List Rat) (m : Rat) : leastQ (l ++ [m]) = less1 (leastQ l) m := by
  unfold leastQ
  rw [List.foldl_append]
  rfl
noncomputable def cmng (gs : List Bod) : Option Rat := leastQ ((jnts gs).filterMap id)
noncomputable def leftsQ (gs : List Bod) : List Nat := match cmng gs with
  | none => []
  | some t => (List.range (jnts gs).length).filter fun i => decide ((jnts gs)[i]? = some (some t))
noncomputable def bodAt (gs : List Bod) (i : Nat) : Bod := gs.getD i (0, 0, 1)
theorem bodAt_of {gs : List Bod} {i : Nat} {b : Bod} (h : gs[i]? = some b) : bodAt gs i = b := by
  unfold bodAt
  rw [List.getD_eq_getElem?_getD, h]
  rfl
theorem bodAt_get {gs : List Bod} {i : Nat} (h : i < gs.length) : gs[i]? = some (bodAt gs i) := by
  rw [bodAt_of (List.getElem?_eq_getElem h)]
  exact List.getElem?_eq_getElem h
noncomputable def plcQ (b : Bod) (t : Rat) : Rat := b.1 + b.2.1 * t
noncomputable def metsQ (gs : List Bod) : List (Rat × Rat × Nat) := match cmng gs with
  | none => []
  | some t => (leftsQ gs).map fun i => (t, plcQ (bodAt gs i) t, i)
noncomputable def alikeQ (a b : Bod) : Prop := a.1 = b.1 ∧ a.2.1 = b.2.1
noncomputable instance (a b : Bod) : Decidable (alikeQ a b) := inferInstanceAs (Decidable (_ ∧ _))
noncomputable def togQ (gs : List Bod) (i : Nat) : Prop := (jnts gs)[i]? = some (cmng gs) ∨ alikeQ (bodAt gs i) (bodAt gs (i + 1))
noncomputable instance (gs : List Bod) (i : Nat) : Decidable (togQ gs i) := inferInstanceAs (Decidable (_ ∨ _))
noncomputable def crwQ (gs : List Bod) : Prop := ∃ i ∈ leftsQ gs, (0 < i ∧ togQ gs (i - 1)) ∨ (i + 1 < (jnts gs).length ∧ togQ gs (i + 1))
noncomputable def behQ (a b : Bod) : Bod := (mixQ a.1 b.1 a.2.2 b.2.2, mixQ a.2.1 b.2.1 a.2.2 b.2.2, a.2.2)
noncomputable def partQ (gs : List Bod) (i : Nat) : List Bod := (gs.set i (behQ (bodAt gs i) (bodAt gs (i + 1)))).set (i + 1) (behQ (bodAt gs (i + 1)) (bodAt gs i))
theorem partQ_len (gs : List Bod) (i : Nat) : (partQ gs i).length = gs.length := by simp [partQ]
noncomputable def onQ (gs : List Bod) : List Bod := (leftsQ gs).foldl partQ gs
noncomputable def Com (B : Nat) (gs : List Bod) : Prop := ∃ D : Nat, 1 ≤ D ∧ D < 2 ^ B ∧ ∀ b ∈ gs, ∃ n k : Int, b.1 = (n : Rat) / (D : Rat) ∧ b.2.1 = (k : Rat) / (D : Rat) ∧ n.natAbs < 2 ^ B ∧ k.natAbs < 2 ^ B
theorem com_fb {n : Int} {D B : Nat} (d1 : 1 ≤ D) (dB : D < 2 ^ B) (nB : n.natAbs < 2 ^ B) : FB B ((n : Rat) / (D : Rat)) := by
  have e : (n : Rat) / (D : Rat) = Rat.divInt n (D : Int) := by
    rw [q_dv]
    rfl
  rw [e]
  exact FB.fit (by omega) nB (show ((D : Int)).natAbs < 2 ^ B by rw [Int.natAbs_natCast]; exact dB)
theorem Com.fb {B : Nat} {gs : List Bod} (h : Com B gs) : ∀ b ∈ gs, FB B b.1 ∧ FB B b.2.1 := fun b hb => by
  obtain ⟨D, d1, dB, al⟩ := h
  obtain ⟨n, k, e1, e2, b1, b2⟩ := al b hb
  rw [e1, e2]
  exact ⟨com_fb d1 dB b1, com_fb d1 dB b2⟩
theorem Com.mono {B B' : Nat} {gs : List Bod} (h : Com B gs) (l : B ≤ B') : Com B' gs := by
  obtain ⟨D, d1, dB, al⟩ := h
  have p : 2 ^ B ≤ 2 ^ B' := Nat.pow_le_pow_right (by decide) l
  refine ⟨D, d1, by omega, fun b hb => ?_⟩
  obtain ⟨n, k, e1, e2, b1, b2⟩ := al b hb
  exact ⟨n, k, e1, e2, by omega, by omega⟩
theorem rat_ne {D : Nat} (h : 1 ≤ D) : (D : Rat) ≠ 0 := by
  intro e
  have z : ((D : Nat) : Rat) = ((0 : Nat) : Rat) := e
  have z2 := Rat.natCast_inj.mp z
  omega
theorem Com.jnt {B : Nat} {gs : List Bod} (h : Com B gs) {a b : Bod} (ha : a ∈ gs) (hb : b ∈ gs) {t : Rat} (e : jntQ a b = some t) : FB (B + 1) t := by
  obtain ⟨D, d1, dB, al⟩ := h
  obtain ⟨n, k, e1, e2, b1, b2⟩ := al a ha
  obtain ⟨n', k', e1', e2', b1', b2'⟩ := al b hb
  unfold jntQ at e
  split at e
  · cases e
  · rename_i c
    injection e with e
    have D0 := rat_ne d1
    have kne : k - k' ≠ 0 := fun z => by
      have z2 : k = k' := by omega
      rw [e2, e2', z2] at c
      exact c (by grind)
    have v : t = Rat.divInt (n' - n) (k - k') := by
      rw [← e, e1, e2, e1', e2', q_dv, Rat.intCast_sub, Rat.intCast_sub]
      have kr : (k : Rat) - (k' : Rat) ≠ 0 := fun z => by
        have z2 : ((k - k' : Int) : Rat) = ((0 : Int) : Rat) := by rw [Rat.intCast_sub]; exact z
        exact kne (Rat.intCast_inj.mp z2)
      rw [Rat.div_def, Rat.div_def, Rat.div_def, Rat.div_def, Rat.div_def, Rat.div_def]
      have i1 := Rat.mul_inv_cancel (D : Rat) D0
      have i2 := Rat.mul_inv_cancel _ kr
      have f : ((k : Rat) * (D : Rat)⁻¹ - (k' : Rat) * (D : Rat)⁻¹) ≠ 0 := fun z => kr (by grind)
      have i3 := Rat.mul_inv_cancel _ f
      grind
    rw [v]
    have p : 2 ^ (B + 1) = 2 ^ B * 2 := Nat.pow_succ ..
    refine FB.fit kne ?_ ?_
    · show (n' - n).natAbs < 2 ^ (B + 1)
      omega
    · show (k - k').natAbs < 2 ^ (B + 1)
      omega
theorem inv_two {a b : Rat} (ha : a ≠ 0) (hb : b ≠ 0) : (a * b)⁻¹ = a⁻¹ * b⁻¹ := by
  have i1 := Rat.mul_inv_cancel a ha
  have i2 := Rat.mul_inv_cancel b hb
  have n : a * b ≠ 0 := fun z => by
    rcases Rat.mul_eq_zero.mp z with z | z
    · exact ha z
    · exact hb z
  have i3 := Rat.mul_inv_cancel (a * b) n
  grind
theorem mem_set {α : Type} {l : List α} {i : Nat} {a x : α} (h : x ∈ l.set i a) : x ∈ l ∨ x = a := List.mem_or_eq_of_mem_set h
theorem Com.part {B : Nat} {gs : List Bod} (h : Com B gs) (hw : ∀ b ∈ gs, 1 ≤ b.2.2 ∧ b.2.2 ≤ 10000) {i : Nat} (hi : i + 1 < gs.length) : Com (B + 15) (partQ gs i) := by
  obtain ⟨D, d1, dB, al⟩ := h
  have ma : bodAt gs i ∈ gs := List.mem_of_getElem? (bodAt_get (by omega))
  have mb : bodAt gs (i + 1) ∈ gs := List.mem_of_getElem? (bodAt_get hi)
  obtain ⟨m, em⟩ : ∃ m : Nat, (bodAt gs i).2.2 = (m : Int) := ⟨(bodAt gs i).2.2.toNat, by have := hw _ ma; omega⟩
  obtain ⟨u, eu⟩ : ∃ u : Nat, (bodAt gs (i + 1)).2.2 = (u : Int) := ⟨(bodAt gs (i + 1)).2.2.toNat, by have := hw _ mb; omega⟩
  have wm := hw _ ma
  have wu := hw _ mb
  rw [em] at wm
  rw [eu] at wu
  have p : 2 ^ (B + 15) = 2 ^ B * 32768 := Nat.pow_add ..
  have mix : ∀ (a b : Nat) (n n' : Int), 1 ≤ a → a ≤ 10000 → 1 ≤ b → b ≤ 10000 → n.natAbs < 2 ^ B → n'.natAbs < 2 ^ B → (((a : Int) - b) * n + 2 * b * n').natAbs < 2 ^ (B + 15) := fun a b n n' a1 a2 b1 b2 h1 h2 => by
    have z1 : (((a : Int) - b) * n).natAbs ≤ 10000 * n.natAbs := by
      rw [Int.natAbs_mul]
      exact Nat.mul_le_mul_right _ (by omega)
    have z2 : (2 * (b : Int) * n').natAbs ≤ 20000 * n'.natAbs := by
      rw [Int.natAbs_mul]
      exact Nat.mul_le_mul_right _ (by omega)
    have z3 := Int.natAbs_add_le (((a : Int) - b) * n) (2 * b * n')
    omega
  have val : ∀ (a b : Nat) (x y : Rat) (n n' : Int), 1 ≤ a → 1 ≤ b → x = (n : Rat) / (D : Rat) → y = (n' : Rat) / (D : Rat) → mixQ x y (a : Int) (b : Int) = ((((a : Int) - b) * n + 2 * b * n' : Int) : Rat) / ((D * (a + b) : Nat) : Rat) := fun a b x y n n' a1 b1 e1 e2 => by
    rw [mixQ_eq, e1, e2]
    have ab : ((a + b : Nat) : Rat) ≠ 0 := rat_ne (by omega)
    have D0 := rat_ne d1
    have c1 : ((D * (a + b) : Nat) : Rat) = (D : Rat) * ((a : Rat) + (b : Rat)) := by push_cast; rfl
    have c2 : ((a + b : Nat) : Rat) = (a : Rat) + (b : Rat) := by push_cast; rfl
    have c3 : (((a : Int)) : Rat) = (a : Rat) := rfl
    have c4 : (((b : Int)) : Rat) = (b : Rat) := rfl
    rw [c1, Rat.intCast_add, Rat.intCast_mul, Rat.intCast_mul, Rat.intCast_sub, Rat.intCast_mul, c3, c4]
    rw [c2] at ab
    have two : ((2 : Int) : Rat) = 2 := rfl
    rw [two]
    rw [Rat.div_def, Rat.div_def, Rat.div_def, Rat.div_def, Rat.div_def, inv_two D0 ab]
    have i1 := Rat.mul_inv_cancel _ ab
    have i2 := Rat.mul_inv_cancel _ D0
    grind
  refine ⟨D * (m + u), Nat.mul_pos d1 (by omega), ?_, fun c hc => ?_⟩
  · rw [p]
    exact Nat.lt_of_lt_of_le (Nat.mul_lt_mul_of_pos_right dB (by omega)) (Nat.mul_le_mul_left _ (by omega))
  · unfold partQ at hc
    obtain ⟨na, ka, ea1, ea2, ba1, ba2⟩ := al _ ma
    obtain ⟨nb, kb, eb1, eb2, bb1, bb2⟩ := al _ mb
    rcases mem_set hc with hc | rfl
    · rcases mem_set hc with hc | rfl
      · obtain ⟨n, k, e1, e2, b1, b2⟩ := al c hc
        have D0 := rat_ne d1
        have s0 : ((m + u : Nat) : Rat) ≠ 0 := rat_ne (by omega)
        have up : ∀ n : Int, (n : Rat) / (D : Rat) = ((n * ((m + u : Nat) : Int) : Int) : Rat) / ((D * (m + u) : Nat) : Rat) := fun n => by
          have c1 : ((D * (m + u) : Nat) : Rat) = (D : Rat) * ((m + u : Nat) : Rat) := by rw [Rat.natCast_mul]
          have c2 : (((m + u : Nat) : Int) : Rat) = ((m + u : Nat) : Rat) := rfl
          rw [c1, Rat.intCast_mul, c2]
          rw [Rat.div_def, Rat.div_def, inv_two D0 s0]
          have i1 := Rat.mul_inv_cancel _ s0
          grind
        have bd : ∀ n : Int, n.natAbs < 2 ^ B → (n * ((m + u : Nat) : Int)).natAbs < 2 ^ (B + 15) := fun n h => by
          rw [Int.natAbs_mul, Int.natAbs_natCast, p]
          exact Nat.lt_of_lt_of_le (Nat.mul_lt_mul_of_pos_right h (by omega)) (Nat.mul_le_mul_left _ (by omega))
        exact ⟨_, _, by rw [e1]; exact up n, by rw [e2]; exact up k, bd n b1, bd k b2⟩
      · refine ⟨((m : Int) - u) * na + 2 * u * nb, ((m : Int) - u) * ka + 2 * u * kb, ?_, ?_, mix m u na nb (by omega) (by omega) (by omega) (by omega) ba1 bb1, mix m u ka kb (by omega) (by omega) (by omega) (by omega) ba2 bb2⟩
        · show mixQ _ _ (bodAt gs i).2.2 (bodAt gs (i + 1)).2.2 = _
          rw [em, eu]
          exact val m u _ _ na nb (by omega) (by omega) ea1 eb1
        · show mixQ _ _ (bodAt gs i).2.2 (bodAt gs (i + 1)).2.2 = _
          rw [em, eu]
          exact val m u _ _ ka kb (by omega) (by omega) ea2 eb2
    · have cm : m + u = u + m := Nat.add_comm ..
      rw [cm]
      refine ⟨((u : Int) - m) * nb + 2 * m * na, ((u : Int) - m) * kb + 2 * m * ka, ?_, ?_, mix u m nb na (by omega) (by omega) (by omega) (by omega) bb1 ba1, mix u m kb ka (by omega) (by omega) (by omega) (by omega) bb2 ba2⟩
      · show mixQ _ _ (bodAt gs (i + 1)).2.2 (bodAt gs i).2.2 = _
        rw [em, eu]
        exact val u m _ _ nb na (by omega) (by omega) eb1 ea1
      · show mixQ _ _ (bodAt gs (i + 1)).2.2 (bodAt gs i).2.2 = _
        rw [em, eu]
        exact val u m _ _ kb ka (by omega) (by omega) eb2 ea2
theorem part_w {gs : List Bod} {i : Nat} (hw : ∀ b ∈ gs, 1 ≤ b.2.2 ∧ b.2.2 ≤ 10000) (hi : i + 1 < gs.length) : ∀ b ∈ partQ gs i, 1 ≤ b.2.2 ∧ b.2.2 ≤ 10000 := fun b hb => by
  unfold partQ at hb
  rcases mem_set hb with hb | rfl
  · rcases mem_set hb with hb | rfl
    · exact hw b hb
    · exact hw (bodAt gs i) (List.mem_of_getElem? (bodAt_get (by omega)))
  · exact hw (bodAt gs (i + 1)) (List.mem_of_getElem? (bodAt_get hi))
theorem lefts_lt {gs : List Bod} {i : Nat} (h : i ∈ leftsQ gs) : i + 1 < gs.length ∧ (jnts gs)[i]? = some (cmng gs) := by
  unfold leftsQ at h
  split at h
  · exact nomatch h
  · rename_i t e
    rw [List.mem_filter, List.mem_range, jnts_len] at h
    rw [e]
    exact ⟨by omega, of_decide_eq_true h.2⟩
end Kw
set_option Elab.async false
set_option linter.all false
set_option maxRecDepth 100000
set_option maxHeartbeats 4000000
namespace Kw
open PySem PySem.Spec PyProof.Rows L2
open AutoSeq1 (wpAny_loadPart')
section
variable {prog : Program} {w : World} {A : Around} {E : Value → Shared → Prop} {s : Shared}
theorem iadd_range {R : Result → Shared → Prop} {S r : Addr} {a b c : Int} {t u v : Tok} {n : Nat} (hh : A.handled = none) (hr : IsRange s.heap r a b c t u v) (hsmall : Builtin.Range.small a b c = true)
    (hn : Builtin.Range.rangeSize a b c = n) (hlen : n ≤ 2 ^ 24) (hS : s.heap.get? S = some { cls := .type "list", data := .seq #[] })
    (hR : ∀ h' tk acc' c', (∀ b o, b ≠ S → s.heap.get? b = some o → h'.get? b = some o) → h'.get? S = some { cls := .type "list", dict := none, data := .seq acc' c', slots := #[] } →
      ItemsOf (fun i v => ∃ t, v = .int (a + i * c) t) acc' n → R (.ok (.ret (.ref S))) { s with heap := h', toks := tk }) :
    codeAny (model prog w) A (.builtin "list.__iadd__" ⟨[.ref S, .ref r], []⟩) R s := by
  refine codeAny_builtin F.entry_list_iadd ?_
  rw [Around.under_plainId F.plain_list_iadd _]
  show wpAny _ A.in1 (Builtin.List.listExtendWith (.ref S) (.ref r) (.ref S)) _ _ _
  exact wpAny_extend_range hh hr hsmall hn hlen S _ 0 hS hR
theorem collect_range {Q : List Value → Shared → Prop} {r : Addr} {a b c : Int} {t u v : Tok} {n : Nat} (hh : A.handled = none) (hr : IsRange s.heap r a b c t u v) (hsmall : Builtin.Range.small a b c = true)
    (hn : Builtin.Range.rangeSize a b c = n) (hlen : n ≤ 2 ^ 24)
    (hQ : ∀ h' tk acc, (∀ b o, s.heap.get? b = some o → h'.get? b = some o) → ItemsOf (fun i v => ∃ t, v = .int (a + i * c) t) acc n → Q acc.toList { s with heap := h', toks := tk }) :
    wpAny (model prog w) A (collect (.ref r)) Q E s := by
  unfold collect
  refine wpAny_bind (wpAny_runValue (codeAny_builtin F.entry_proto_collect ?_))
  rw [Around.under_plainId F.plain_proto_collect _]
  show wpAny _ A.in1 (newList [] >>= fun l => again (.builtin "list.__iadd__" ⟨[l, .ref r], []⟩)) _ _ s
  refine wpAny_bind (wpAny_newObj_type ?_)
  refine wpAny_pure ⟨plainId_quiet F.plain_list_iadd _, iadd_range hh (Heap.get?_push_of_some _ hr) hsmall hn hlen (Heap.get?_push_size _ rfl) fun h' tk acc' c' hk hS' hacc => ?_⟩
  show wpAny _ A (load s.heap.objs.size >>= _) _ _ _
  refine wpAny_bind (wpAny_load hS' ?_)
  exact wpAny_pure (hQ h' tk acc' (fun b o e => hk b o (Nat.ne_of_lt (Heap.lt_size e)) (Heap.get?_push_of_some _ e)) hacc)
end
theorem meets_tuple_range (r : Addr) (a b c : Int) (t u v : Tok) (n : Nat) (hsmall : Builtin.Range.small a b c = true) (hn : Builtin.Range.rangeSize a b c = n) (hlen : n ≤ 1000) :
    Meets (Builtin.«tuple.__new__» ⟨[.type "tuple", .ref r], []⟩)
      (fun A R s => A.handled = none ∧ IsRange s.heap r a b c t u v ∧ ∀ (h' : Heap) (tk : Nat) (acc : Array Value), (∀ b o, s.heap.get? b = some o → h'.get? b = some o) → ItemsOf (fun i v => ∃ t, v = .int (a + i * c) t) acc n →
        R (.ok (.ret (.ref h'.objs.size))) { s with heap := h'.push { cls := .type "tuple", data := .seq acc }, toks := tk }) :=
  .of_wp fun prog w A R s h => by
    obtain ⟨hh, hr, h⟩ := h
    have hsub := sub_tuple_self
    have hinit := init_tuple_lookup
    have hmh := madeHere_tuple
    have hT : s.TypeIs (.ref r) "range" := ⟨_, hr, rfl⟩
    have hh1 : A.in1.handled = none := hh
    wp_walk using wpAny_typeOf hT, collect_range (n := n) hh1 hr hsmall hn (Nat.le_trans hlen (by decide))
    intro h' tk acc hk hacc
    show wpAny _ _ (Builtin.Tuple.tupleExact acc.toList.toArray >>= fun v => ret v) _ _ _
    unfold Builtin.Tuple.tupleExact
    refine wpAny_bind (wpAny_newObj_type ?_ (show acc.toList.toArray.size ≤ sizeLine by simp only [Array.toArray_toList]; rw [hacc.1]; exact Nat.le_trans hlen (by decide)))
    refine wpAny_pure ⟨_, rfl, ?_⟩
    have e : acc.toList.toArray = acc := by simp
    rw [e]
    exact h h' tk acc hk hacc
section
variable {prog : Program} {w : World} {A : Around} {E : Value → Shared → Prop} {s : Shared}
theorem call_tuple_range {Q : Value → Shared → Prop} {r : Addr} {a b c : Int} {t u v : Tok} {n : Nat} (hh : A.handled = none) (hr : IsRange s.heap r a b c t u v) (hsmall : Builtin.Range.small a b c = true)
    (hn : Builtin.Range.rangeSize a b c = n) (hlen : n ≤ 1000)
    (h : ∀ (h' : Heap) (tk : Nat) (acc : Array Value), (∀ b o, s.heap.get? b = some o → h'.get? b = some o) → ItemsOf (fun i v => ∃ t, v = .int (a + i * c) t) acc n → Q (.ref h'.objs.size) { s with heap := h'.push { cls := .type "tuple", data := .seq acc }, toks := tk }) :
    wpAny (model prog w) A (call (.type "tuple") [.ref r]) Q E s := by
  exact callType_new F.called_tuple (by decide) (F.typeCall_tuple_1 _) (F.newCall_tuple_1 _) (fun obj => F.args_object_init_2 obj _) F.entry_tuple_new
    (meets_tuple_range r a b c t u v n hsmall hn hlen) ⟨hh, hr, fun h' tk acc hk hacc => ⟨⟨_, Heap.get?_push_size _ rfl, rfl⟩, h h' tk acc hk hacc⟩⟩
end
theorem vals_of : ∀ {vs : List V} {us : List Value}, vs.length = us.length → (∀ (j : Nat) (x : Value), us[j]? = some x → ∃ v, vs[j]? = some v ∧ RelV v x) → Vals vs us
  | [], [], _, _ => .nil
  | [], _ :: _, h, _ => by simp at h
  | _ :: _, [], h, _ => by simp at h
  | v :: vs, u :: us, h, g => by
    obtain ⟨v', e, r⟩ := g 0 u rfl
    simp at e
    subst e
    exact .cons r (vals_of (by simpa using h) fun j x hj => by
      obtain ⟨v2, e2, r2⟩ := g (j + 1) x (by simpa using hj)
      exact ⟨v2, by simpa using e2, r2⟩)
section
variable {X : Cx}
noncomputable def tTR (ta : TA) : TE := fun σ H Q => ta σ H fun vs H1 => ∃ (i : Int) (n : Nat), vs = [.int i, .int (i + (n : Int))] ∧ 0 ≤ i ∧ i ≤ 1000 ∧ n ≤ 1000 ∧ ∀ l, H1 l = none → Q (.ref l) (upd H1 l (.tup ((List.range n).map fun k : Nat => V.int (i + (k : Int)))))
theorem pe_tupRange {a b : Expr} {ta : TA} {p p2 pos pos2 : Pos} (hc : X.calm = true) (hgl : Gl X "tuple") (hml : X.mg "tuple" = none) (hgr : Gl X "range") (hmr : X.mg "range" = none) (ha : PA X [a, b] ta)
    (hs : starEach [a, b] X.env = (false, eval a X.env)   :: starEach [b] X.env := by rfl) (hpl : (backTo pos2 (starEach [b] X.env)).any (·.1) = false := by rfl) (hs2 : starEach [.Call (.Name "range" p2) [a, b] [] pos2] X.env = [(false, eval (.Call (.Name "range" p2) [a, b] [] pos2) X.env)] := by rfl) :
    PE X (.Call (.Name "tuple" p) [.Call (.Name "range" p2) [a, b] [] pos2] [] pos) (tTR ta) := by
  intro pins s σ H Q I h
  refine wpAny_Call_Name_kw (ld_blt I hgl hml PyProof.Rows.Boot.«tuple» ?_)
  refine PyProof.Rows.callWith_type1 ?_ hs2 rfl
  rw [hs2]
  show wpAny _ _ (spliced ((false, eval (.Call (.Name "range" p2) [a, b] [] pos2) X.env) :: [])) _ _ s
  refine Calls.spliced_cons ?_
  refine wpAny_Call_Name_kw (ld_blt I hgr hmr boot_range ?_)
  refine PyProof.Rows.callWith_type1 (thn (ha pos2 pins s σ H _ I h) fun us s1 ⟨vs, H1, I1, r1, i, n, e, i0, i1, hn, q⟩ => ?_) hs hpl
  subst e
  cases r1 with
  | cons r rr =>
    cases rr with
    | cons r2 rr2 =>
      cases rr2
      obtain ⟨t, rfl⟩ := r
      obtain ⟨t2, rfl⟩ := r2
      refine call_range_2 ?_
      refine Calls.spliced_nil ?_
      have sz : Builtin.Range.rangeSize i (i + (n : Int)) 1 = n := by
        rw [rangeSize_one]
        split <;> omega
      refine call_tuple_range (n := n) (I.ok.hd hc) (IsRange.new ..) (small_one (by omega) (by omega) (by omega) (by omega)) sz hn fun h' tk acc kp items => ?_
      obtain ⟨j1, j2⟩ := items
      have I2 := I1.kept (t' := tk) fun b o e => kp b o (Heap.get?_push_of_some _ e)
      have v : Vals ((List.range n).map fun k : Nat => V.int (i + (k : Int))) acc.toList := by
        refine vals_of ?_ ?_
        · rw [List.length_map, List.length_range, Array.length_toList, j1]
        · intro j x hj
          rw [Array.getElem?_toList] at hj
          obtain ⟨t', e'⟩ := j2 j x hj
          have hl : j < n := by
            rw [← j1]
            exact (Array.getElem?_eq_some_iff.mp hj).1
          refine ⟨V.int (i + (j : Int)), ?_, t', ?_⟩
          · rw [List.getElem?_map, List.getElem?_range hl]
            rfl
          · rw [e', Int.mul_one]
      refine ⟨.ref h'.objs.size, _, I2.laid (t' := tk) (fun b o e => Heap.get?_push_of_some _ e) (Nat.le_refl _) (show ObjOk X.prog X.w _ _ _ (.tup _) from ⟨?_, acc.toList, v, ?_⟩), rfl, q _ (I2.hok.fresh (Nat.le_refl _))⟩
      · rw [List.length_map, List.length_range]
        exact Nat.le_trans hn (by decide)
      · rw [Array.toArray_toList]
        exact IsTup.new _ _
end
end Kw
set_option Elab.async false
set_option linter.all false
set_option maxRecDepth 100000
namespace L2
open PySem PySem.Spec PyProof.Rows
section
variable {κ : Type} [DecidableEq κ]
end
section
variable {P : Program} {w : World} {H : Hp} {h : Heap} {a : Addr}
end
section
variable {X : Cx} {pins : List (Addr × Obj)} {σ : St} {H : Hp} {s : Shared} {a : Addr} {y v : V} {u r : Value} {o : Option V} {A : Around} {E : Value → Shared → Prop}
end
section
variable {X : Cx} {pins : List (Addr × Obj)} {σ : St} {H : Hp} {s : Shared} {a : Addr} {kvs : List (Key × V)} {k : Key} {u : Value} {A : Around} {E : Value → Shared → Prop}
end
section
variable {X : Cx} {o i e value : Expr} {pos pos' tpos : Pos} {td ty tv : TE}
end
section
variable {X : Cx} {pos : Pos}
end
end L2
set_option Elab.async false
set_option linter.all false
set_option maxRecDepth 100000
set_option maxHeartbeats 4000000
namespace Kw
open PySem PySem.Spec PyProof.Rows L2
end Kw
set_option Elab.async false
set_option linter.all false
set_option maxRecDepth 100000
set_option maxHeartbeats 4000000
namespace Kw
open PySem PySem.Spec PyProof.Rows L2
end Kw
set_option Elab.async false
set_option linter.all false
set_option maxRecDepth 100000
set_option maxHeartbeats 4000000
namespace Kw
open PySem PySem.Spec PyProof.Rows L2
end Kw
set_option Elab.async false
set_option linter.all false
set_option maxRecDepth 100000
set_option maxHeartbeats 4000000
namespace Kw
open PySem PySem.Spec PyProof.Rows L2
end Kw
set_option Elab.async false
set_option linter.all false
set_option maxRecDepth 100000
set_option maxHeartbeats 4000000
namespace Kw
open PySem PySem.Spec PyProof.Rows L2
section
variable {prog : Program} {w : World} {K : Type} [DecidableEq K] {knd : HeapKind prog w K} {A : Around} {E : Value → Shared → Prop} {s : Shared}
end
theorem eqv_2 (a b c d : Int) : PyData.eqv (.tuple [.int a, .int b]) (.tuple [.int c, .int d]) = (decide (a = c) && decide (b = d)) := by
  show ((a == c) && ((b == d) && true)) = _
  rw [Bool.and_true]
  congr 1
theorem op_neQ {X : Cx} {K : PySem.W.Frag} (hK : X.K = K) (hu : X.A.units + 100 < cLine) : OpR X (compareOp .NotEq) (fun a b H Q => ∃ (p q : Addr) (x y : Rat), a = .ref p ∧ b = .ref q ∧ FQ K H p x ∧ FQ K H q y ∧ Q (.bl (!decide (x = y))) H) := by
  intro pins s σ H a b v u Q I rx ry h
  obtain ⟨p, q, x, y, rfl, rfl, hx, hy, k⟩ := h
  refine op_neD hK hu pins s σ H _ _ v u Q I rx ry ⟨_, _, FQ.dp hx, FQ.dp hy, rfl, rfl, Nat.le_trans (Nat.min_le_left _ _) (show (1 : Nat) ≤ 60 by decide), ?_⟩
  rw [eqv_2, ← Bool.decide_and]
  have e : (x.num = y.num ∧ ((x.den : Nat) : Int) = ((y.den : Nat) : Int)) ↔ x = y := ⟨fun h => Rat.ext h.1 (by omega), fun h => by rw [h]; exact ⟨rfl, rfl⟩⟩
  rw [decide_eq_decide.mpr e]
  exact k
end Kw
set_option Elab.async false
set_option linter.all false
set_option maxRecDepth 100000
set_option maxHeartbeats 4000000
namespace Kw
open PySem PySem.Spec PyProof.Rows L2
theorem ixN_nat {n j : Nat} (h : j < n) : ixN n (j : Int) = some j := by
  unfold ixN
  simp
  omega
noncomputable def OptR (K : PySem.W.Frag) (H : Hp) (v : V) (o : Option Rat) : Prop := (o = none ∧ v = .non) ∨ ∃ (q : Rat) (p : Addr), o = some q ∧ v = .ref p ∧ FQ K H p q ∧ FB 1990 q
section
variable {K : PySem.W.Frag} {H H' : Hp} {v u : V} {o o' : Option Rat} {as : List Addr}
theorem OptR.same (h : OptR K H v o) (s : Same H H') : OptR K H' v o := by
  rcases h with h | ⟨q, p, e1, e2, g, d⟩
  · exact .inl h
  · exact .inr ⟨q, p, e1, e2, Kw.Same.tup s g, d⟩
theorem OptR.buts (h : OptR K H v o) (s : Buts as H H') (n : NoT as H) : OptR K H' v o := by
  rcases h with h | ⟨q, p, e1, e2, g, d⟩
  · exact .inl h
  · exact .inr ⟨q, p, e1, e2, s.tup n g, d⟩
theorem opts_same {vs : List V} {os : List (Option Rat)} (h : Al2 (OptR K H) vs os) (s : Same H H') : Al2 (OptR K H') vs os := Al2.imp (fun _ _ z => z.same s) h
theorem opts_buts {vs : List V} {os : List (Option Rat)} (h : Al2 (OptR K H) vs os) (s : Buts as H H') (n : NoT as H) : Al2 (OptR K H') vs os := Al2.imp (fun _ _ z => z.buts s n) h
theorem OptR.non (h : OptR K H v o) : v = .non ↔ o = none := by
  rcases h with ⟨rfl, rfl⟩ | ⟨q, p, rfl, rfl, _⟩
  · simp
  · constructor
    · intro z; cases z
    · intro z; cases z
theorem OptR.dp (h : OptR K H v o) (g : OptR K H u o') : ∃ d d', Dp K H v d ∧ Dp K H u d' ∧ d.canLay0 = true ∧ d'.canLay0 = true ∧ min d.depth d'.depth ≤ 60 ∧ PyData.eqv d d' = decide (o = o') := by
  rcases h with ⟨rfl, rfl⟩ | ⟨q, p, rfl, rfl, gq, _⟩
  · rcases g with ⟨rfl, rfl⟩ | ⟨q', p', rfl, rfl, gq', _⟩
    · exact ⟨_, _, .non, .non, rfl, rfl, Nat.zero_le _, rfl⟩
    · exact ⟨_, _, .non, gq'.dp, rfl, rfl, Nat.zero_le _, rfl⟩
  · rcases g with ⟨rfl, rfl⟩ | ⟨q', p', rfl, rfl, gq', _⟩
    · exact ⟨_, _, gq.dp, .non, rfl, rfl, Nat.le_trans (Nat.min_le_right _ _) (Nat.zero_le _), rfl⟩
    · refine ⟨_, _, gq.dp, gq'.dp, rfl, rfl, Nat.le_trans (Nat.min_le_left _ _) (show (1 : Nat) ≤ 60 by decide), ?_⟩
      rw [eqv_2, ← Bool.decide_and]
      exact decide_eq_decide.mpr ⟨fun h => by rw [Rat.ext h.1 (by omega)], fun h => by injection h with h; rw [h]; exact ⟨rfl, rfl⟩⟩
end
theorem op_eqOR {X : Cx} {K : PySem.W.Frag} (hK : X.K = K) (hu : X.A.units + 100 < cLine) : OpR X (compareOp .Eq) (fun a b H Q => ∃ o o', OptR K H a o ∧ OptR K H b o' ∧ Q (.bl (decide (o = o'))) H) := by
  intro pins s σ H a b v u Q I rx ry h
  obtain ⟨o, o', h1, h2, k⟩ := h
  obtain ⟨d, d', e1, e2, c1, c2, dep, e⟩ := h1.dp h2
  refine op_eqD hK hu pins s σ H _ _ v u Q I rx ry ⟨d, d', e1, e2, c1, c2, dep, ?_⟩
  rw [e]
  exact k
noncomputable def crs (g sh nw : Addr) (n : Int) (j : Addr) (co : V) : List (Str × V) := [("goings", .ref g), ("share", .ref sh), ("now", .ref nw), ("gone_through", .int n), ("joints", .ref j), ("coming", co)]
section
variable {g sh nw x : Addr} {n i : Int} {j : Addr} {co v : V}
theorem crs_g : (crs g sh nw n j co).lookup ("goings" : Str) = some (V.ref g) := rfl
theorem crs_s : (crs g sh nw n j co).lookup ("share" : Str) = some (V.ref sh) := rfl
theorem crs_t : (crs g sh nw n j co).lookup ("gone_through" : Str) = some (V.int n) := rfl
theorem crs_j : (crs g sh nw n j co).lookup ("joints" : Str) = some (V.ref j) := rfl
theorem crs_c : (crs g sh nw n j co).lookup ("coming" : Str) = some co := rfl
end
noncomputable def CrsAt (K : PySem.W.Frag) (H : Hp) (C p : Addr) (gs : List Bod) (now : Rat) (n : Nat) (g j : Addr) : Prop := ∃ (dx sh nw : Addr) (co : V) (xs ys : List V), H p = some (.ins C dx (crs g sh nw (n : Int) j co)) ∧ H g = some (.lst xs) ∧ Al2 (BdQ K H 1990) xs gs ∧ FQ K H sh ((1 : Int) : Rat) ∧ FQ K H nw now ∧ FB 1990 now ∧ H j = some (.lst ys) ∧ Al2 (OptR K H) ys (jnts gs) ∧ OptR K H co (cmng gs) ∧ g ≠ j
theorem CrsAt.same {K : PySem.W.Frag} {H H' : Hp} {C p : Addr} {gs : List Bod} {now : Rat} {n : Nat} {g j : Addr} (h : CrsAt K H C p gs now n g j) (s : Same H H') : CrsAt K H' C p gs now n g j := by
  obtain ⟨dx, sh, nw, co, xs, ys, h1, h2, h3, h4, h5, h6, h7, h8, h9, h10⟩ := h
  exact ⟨dx, sh, nw, co, xs, ys, s _ _ h1, s _ _ h2, bds_same h3 s, Kw.Same.tup s h4, Kw.Same.tup s h5, h6, s _ _ h7, opts_same h8 s, h9.same s, h10⟩
end Kw
namespace Kw
open PySem PySem.Spec PyProof.Rows L2
theorem opts_filter {K : PySem.W.Frag} {H : Hp} : ∀ {vs : List V} {os : List (Option Rat)}, Al2 (OptR K H) vs os → Al2 (FrQ K H 1990) (vs.filter fun v => !decide (v = .non)) (os.filterMap id)
  | [], [], _ => trivial
  | v :: vs, o :: os, h => by
    have ih := opts_filter h.2
    rcases h.1 with ⟨rfl, rfl⟩ | ⟨q, p, rfl, rfl, g, d⟩
    · exact ih
    · exact ⟨⟨p, rfl, g, d⟩, ih⟩
  | [], _ :: _, h => h.elim
  | _ :: _, [], h => h.elim
end Kw
namespace Kw
open PySem PySem.Spec PyProof.Rows L2
noncomputable def MtQ (K : PySem.W.Frag) (H : Hp) (v : V) (m : Rat × Rat × Nat) : Prop := ∃ p a b : Addr, v = .ref p ∧ SqT K H p [.ref a, .ref b, .int (m.2.2 : Int)] ∧ FQ K H a m.1 ∧ FQ K H b m.2.1 ∧ FB 1990 m.1 ∧ FB 5990 m.2.1
section
variable {K : PySem.W.Frag} {H H' : Hp} {v : V} {m : Rat × Rat × Nat} {as : List Addr}
theorem MtQ.same (h : MtQ K H v m) (s : Same H H') : MtQ K H' v m := by
  obtain ⟨p, a, b, e, h1, h2, h3, d⟩ := h
  exact ⟨p, a, b, e, Kw.Same.tup s h1, Kw.Same.tup s h2, Kw.Same.tup s h3, d⟩
theorem mts_same {vs : List V} {ms : List (Rat × Rat × Nat)} (h : Al2 (MtQ K H) vs ms) (s : Same H H') : Al2 (MtQ K H') vs ms := Al2.imp (fun _ _ z => z.same s) h
end
noncomputable def GathQ (gs : List Bod) (i a n : Nat) : Prop := a ≤ i ∧ i + 2 ≤ a + n ∧ a + n ≤ gs.length ∧ (∀ k, a ≤ k → k < i → togQ gs k) ∧ (a = 0 ∨ ¬ togQ gs (a - 1)) ∧ (∀ k, i < k → k + 1 < a + n → togQ gs k) ∧ (a + n = gs.length ∨ ¬ togQ gs (a + n - 1))
theorem GathQ.two {gs : List Bod} {i a n : Nat} (h : GathQ gs i a n) : 2 < n ↔ (0 < i ∧ togQ gs (i - 1)) ∨ (i + 1 < (jnts gs).length ∧ togQ gs (i + 1)) := by
  obtain ⟨h1, h2, h3, h4, h5, h6, h7⟩ := h
  rw [jnts_len]
  constructor
  · intro hn
    by_cases c : a < i
    · exact .inl ⟨by omega, h4 (i - 1) (by omega) (by omega)⟩
    · exact .inr ⟨by omega, h6 (i + 1) (by omega) (by omega)⟩
  · rintro (⟨c, t⟩ | ⟨c, t⟩)
    · rcases h5 with e | e
      · omega
      · by_cases q : a = i
        · rw [q] at e
          exact absurd t e
        · omega
    · by_cases q : a + n = i + 2
      · rcases h7 with e | e
        · omega
        · have z : a + n - 1 = i + 1 := by omega
          rw [z] at e
          exact absurd t e
      · omega
theorem jnt_none {a b : Bod} : ¬ b.2.1 < a.2.1 → jntQ a b = none := fun h => by
  unfold jntQ
  rw [if_pos (by grind)]
theorem jnt_some {a b : Bod} : b.2.1 < a.2.1 → jntQ a b = some ((b.1 - a.1) / (a.2.1 - b.2.1)) := fun h => by
  unfold jntQ
  rw [if_neg (by grind)]
end Kw
namespace Kw
open PySem PySem.Spec PyProof.Rows L2
theorem jnts_at {gs : List Bod} {k : Nat} (h : k + 1 < gs.length) : (jnts gs)[k]? = some (jntQ (bodAt gs k) (bodAt gs (k + 1))) := jnts_get (bodAt_get (by omega)) (bodAt_get h)
theorem jnts_no {gs : List Bod} {k : Nat} (h : ¬ k + 1 < gs.length) : (jnts gs)[k]? = none := by
  rw [List.getElem?_eq_none]
  rw [jnts_len]
  omega
theorem part_at {gs : List Bod} {i : Nat} (hi : i + 1 < gs.length) (k : Nat) : bodAt (partQ gs i) k = if k = i then behQ (bodAt gs i) (bodAt gs (i + 1)) else if k = i + 1 then behQ (bodAt gs (i + 1)) (bodAt gs i) else bodAt gs k := by
  unfold partQ
  unfold bodAt
  rw [List.getD_eq_getElem?_getD, List.getElem?_set, List.getElem?_set]
  by_cases c1 : k = i
  · subst c1
    rw [if_pos rfl, if_neg (by omega), if_pos rfl, if_pos (by omega)]
    rfl
  · rw [if_neg c1]
    by_cases c2 : k = i + 1
    · subst c2
      rw [if_pos rfl, if_pos rfl, if_pos (by rw [List.length_set]; exact hi)]
      rfl
    · rw [if_neg c2, if_neg (by omega), if_neg (by omega), List.getD_eq_getElem?_getD]
theorem part_far {gs : List Bod} {i k : Nat} (hi : i + 1 < gs.length) (h1 : k + 1 ≠ i) (h2 : k ≠ i) (h3 : k ≠ i + 1) : (jnts (partQ gs i))[k]? = (jnts gs)[k]? := by
  by_cases c : k + 1 < gs.length
  · rw [jnts_at c, jnts_at (by rw [partQ_len]; exact c), part_at hi, part_at hi, if_neg h2, if_neg h3, if_neg h1, if_neg (by omega)]
  · rw [jnts_no c, jnts_no (by rw [partQ_len]; exact c)]
end Kw
namespace Kw
open PySem PySem.Spec PyProof.Rows L2
theorem bds_w {K : PySem.W.Frag} {H : Hp} {n : Nat} : ∀ {xs : List V} {bs : List Bod}, Al2 (BdQ K H n) xs bs → ∀ b ∈ bs, 1 ≤ b.2.2 ∧ b.2.2 ≤ 10000
  | [], [], _ => fun _ h => nomatch h
  | _ :: _, _ :: _, z => fun b hb => by
    rcases List.mem_cons.mp hb with rfl | hb
    · obtain ⟨_, _, _, _, _, _, _, _, _, w1, w2⟩ := z.1
      exact ⟨w1, w2⟩
    · exact bds_w z.2 b hb
  | [], _ :: _, z => z.elim
  | _ :: _, [], z => z.elim
theorem lefts_few {gs : List Bod} (h : gs.length ≤ 12) : (leftsQ gs).length ≤ 12 := by
  unfold leftsQ
  split
  · exact Nat.zero_le _
  · exact Nat.le_trans (List.length_filter_le _ _) (by rw [List.length_range, jnts_len]; omega)
theorem fold_len (l : List Nat) : ∀ gs : List Bod, (l.foldl partQ gs).length = gs.length := by
  induction l with
  | nil => intro gs; rfl
  | cons i l ih => intro gs; rw [List.foldl_cons, ih, partQ_len]
theorem on_len (gs : List Bod) : (onQ gs).length = gs.length := fold_len _ _
end Kw
namespace Kw
open PySem PySem.Spec PyProof.Rows L2
end Kw
namespace Kw
theorem al_app {β : Type} {R : L2.V → β → Prop} : ∀ {xs xs' : List L2.V} {ys ys' : List β}, Al2 R xs ys → Al2 R xs' ys' → Al2 R (xs ++ xs') (ys ++ ys')
  | [], _, [], _, _, h => h
  | _ :: _, _, _ :: _, _, h, g => ⟨h.1, al_app h.2 g⟩
  | [], _, _ :: _, _, h, _ => h.elim
  | _ :: _, _, [], _, h, _ => h.elim
end Kw
set_option Elab.async false
set_option linter.all false
set_option maxRecDepth 100000
set_option maxHeartbeats 4000000
namespace Kw
open PySem PySem.Spec PyProof.Rows L2
section
variable {a d b : Rat} {c : Int}
theorem lefts_is (gs : List Bod) : leftsQ gs = if cmng gs = none then [] else (List.range (jnts gs).length).filter fun i => decide ((jnts gs)[i]? = some (cmng gs)) := by
  unfold leftsQ
  split
  · rename_i e
    rw [if_pos e]
  · rename_i t e
    rw [if_neg (by rw [e]; exact fun z => nomatch z), e]
theorem foldp_w : ∀ (l : List Nat) {gs : List Bod}, (∀ p ∈ gs, 1 ≤ p.2.2 ∧ p.2.2 ≤ 10000) → (∀ i ∈ l, i + 1 < gs.length) → ∀ p ∈ l.foldl partQ gs, 1 ≤ p.2.2 ∧ p.2.2 ≤ 10000
  | [], _, hw, _ => hw
  | i :: l, gs, hw, hl => by
    rw [List.foldl_cons]
    exact foldp_w l (part_w hw (hl i (List.mem_cons_self ..))) fun k hk => by rw [partQ_len]; exact hl k (List.mem_cons_of_mem _ hk)
theorem on_w {gs : List Bod} (hw : ∀ p ∈ gs, 1 ≤ p.2.2 ∧ p.2.2 ≤ 10000) : ∀ p ∈ onQ gs, 1 ≤ p.2.2 ∧ p.2.2 ≤ 10000 := foldp_w _ hw fun i hi => (lefts_lt hi).1
end
end Kw
set_option Elab.async false
set_option linter.all false
set_option maxRecDepth 100000
set_option maxHeartbeats 4000000
namespace Kw
open PySem PySem.Spec PyProof.Rows L2
end Kw
set_option Elab.async false
set_option linter.all false
set_option maxRecDepth 100000
set_option maxHeartbeats 4000000
namespace Kw
open PySem PySem.Spec PyProof.Rows L2
noncomputable def Frn (N B : Int) (x : Rat) : Prop := ∃ n : Int, x = (n : Rat) / (N : Rat) ∧ -B ≤ n ∧ n ≤ B
theorem Six.frn {B : Int} {x : Rat} (h : Six B x) : Frn 72 (12 * B) x := by
  obtain ⟨n, e, a, b⟩ := h
  refine ⟨12 * n, ?_, by omega, by omega⟩
  rw [e, Rat.intCast_mul]
  show (n : Rat) / 6 = 12 * n / 72
  grind
theorem Frn.mono {N B B' : Int} {x : Rat} (h : Frn N B x) (l : B ≤ B') : Frn N B' x := by
  obtain ⟨n, e, a, b⟩ := h
  exact ⟨n, e, by omega, by omega⟩
theorem six_by {B c d : Int} {x : Rat} (h : Six B x) (c1 : 1 ≤ c) (c4 : c ≤ 4) (d1 : 1 ≤ d) (d3 : d ≤ 3) (B0 : 0 ≤ B) : Frn 72 (36 * B) (x / Rat.divInt c d) := by
  obtain ⟨n, e, a, b⟩ := h
  rw [q_dv, e]
  have key : ∀ k : Int, k * c = 12 → (n : Rat) / 6 / ((c : Rat) / (d : Rat)) = ((n * d * k : Int) : Rat) / ((72 : Int) : Rat) := fun k hk => by
    have k0 : (k : Rat) * (c : Rat) = 12 := by rw [← Rat.intCast_mul, hk]; rfl
    have c0 : (c : Rat) ≠ 0 := fun z => by rw [z] at k0; grind
    have d0 : (d : Rat) ≠ 0 := fun z => by
      have z2 : ((d : Int) : Rat) = ((0 : Int) : Rat) := z
      have := Rat.intCast_inj.mp z2
      omega
    rw [Rat.intCast_mul, Rat.intCast_mul]
    have s : ((72 : Int) : Rat) = 72 := rfl
    rw [s]
    have i1 := Rat.mul_inv_cancel _ c0
    have i2 := Rat.mul_inv_cancel _ d0
    have q0 : (c : Rat) / (d : Rat) ≠ 0 := fun z => by
      rw [Rat.div_def] at z
      rcases Rat.mul_eq_zero.mp z with z | z
      · exact c0 z
      · rw [z] at i2
        grind
    have i3 := Rat.mul_inv_cancel _ q0
    rw [Rat.div_def] at i3 ⊢
    rw [Rat.div_def, Rat.div_def]
    grind
  have bound : ∀ k : Int, 3 ≤ k → k ≤ 12 → -(36 * B) ≤ n * d * k ∧ n * d * k ≤ 36 * B := fun k k3 k12 => by
    have hdk : 0 ≤ d * k := Int.mul_nonneg (by omega) (by omega)
    have hle : d * k ≤ 36 := by
      have := Int.mul_le_mul d3 k12 (by omega) (by omega)
      omega
    rw [Int.mul_assoc]
    constructor
    · have z1 : -(B * (d * k)) ≤ n * (d * k) := by
        have := Int.mul_le_mul_of_nonneg_right a hdk
        rw [Int.neg_mul] at this
        exact this
      have z2 : B * (d * k) ≤ B * 36 := Int.mul_le_mul_of_nonneg_left hle B0
      omega
    · have z1 : n * (d * k) ≤ B * (d * k) := Int.mul_le_mul_of_nonneg_right b hdk
      have z2 : B * (d * k) ≤ B * 36 := Int.mul_le_mul_of_nonneg_left hle B0
      omega
  rcases (show c = 1 ∨ c = 2 ∨ c = 3 ∨ c = 4 by omega) with rfl | rfl | rfl | rfl
  · exact ⟨_, key 12 (by decide), bound 12 (by decide) (by decide)⟩
  · exact ⟨_, key 6 (by decide), bound 6 (by decide) (by decide)⟩
  · exact ⟨_, key 4 (by decide), bound 4 (by decide) (by decide)⟩
  · exact ⟨_, key 3 (by decide), bound 3 (by decide) (by decide)⟩
theorem Frn.up {B : Int} {x : Rat} (h : Frn 72 B x) : Frn 432 (6 * B) x := by
  obtain ⟨n, e, a, b⟩ := h
  refine ⟨6 * n, ?_, by omega, by omega⟩
  rw [e, Rat.intCast_mul]
  show (n : Rat) / 72 = 6 * n / 432
  grind
theorem frn_com {gs : List Bod} (h : ∀ b ∈ gs, Frn 432 500000000 b.1 ∧ Frn 432 500000000 b.2.1) : Com 30 gs := by
  refine ⟨432, by decide, by decide, fun b hb => ?_⟩
  obtain ⟨⟨n, e1, a1, b1⟩, ⟨k, e2, a2, b2⟩⟩ := h b hb
  have p : (2 : Nat) ^ 30 = 1073741824 := by decide
  exact ⟨n, k, e1, e2, by omega, by omega⟩
theorem all_snoc {α : Type} {P : α → Prop} {l : List α} {b : α} (h : ∀ c ∈ l, P c) (g : P b) : ∀ c ∈ l ++ [b], P c := fun c hc => by
  rcases List.mem_append.mp hc with z | z
  · exact h c z
  · rw [List.mem_singleton.mp z]
    exact g
theorem part_P {P : Int → Prop} {gs : List Bod} {i : Nat} (h : ∀ b ∈ gs, P b.2.2) (hi : i + 1 < gs.length) : ∀ b ∈ partQ gs i, P b.2.2 := fun b hb => by
  unfold partQ at hb
  rcases mem_set hb with hb | rfl
  · rcases mem_set hb with hb | rfl
    · exact h b hb
    · exact h (bodAt gs i) (List.mem_of_getElem? (bodAt_get (by omega)))
  · exact h (bodAt gs (i + 1)) (List.mem_of_getElem? (bodAt_get hi))
theorem fold_P {P : Int → Prop} : ∀ (l : List Nat) {gs : List Bod}, (∀ b ∈ gs, P b.2.2) → (∀ i ∈ l, i + 1 < gs.length) → ∀ b ∈ l.foldl partQ gs, P b.2.2
  | [], _, h, _ => h
  | i :: l, gs, h, hl => by
    rw [List.foldl_cons]
    exact fold_P l (part_P h (hl i (List.mem_cons_self ..))) fun k hk => by rw [partQ_len]; exact hl k (List.mem_cons_of_mem _ hk)
end Kw
set_option Elab.async false
set_option linter.all false
set_option maxRecDepth 100000
set_option maxHeartbeats 4000000
namespace Kw
open PySem PySem.Spec PyProof.Rows L2
noncomputable def OrdT (gs : List Bod) (now : Rat) : Prop := ∀ k, k + 1 < gs.length → plcQ (bodAt gs k) now < plcQ (bodAt gs (k + 1)) now ∨ (plcQ (bodAt gs k) now = plcQ (bodAt gs (k + 1)) now ∧ (bodAt gs k).2.1 < (bodAt gs (k + 1)).2.1)
theorem asc_at {gs : List Bod} (h : Asc gs) {k : Nat} (hk : k + 1 < gs.length) : (bodAt gs k).1 < (bodAt gs (k + 1)).1 := by
  unfold Asc at h
  have z := List.pairwise_iff_getElem.mp h k (k + 1) (by omega) hk (by omega)
  rw [bodAt_of (List.getElem?_eq_getElem (show k < gs.length by omega)), bodAt_of (List.getElem?_eq_getElem hk)]
  exact z
theorem ord_start {gs : List Bod} (h : Asc gs) : OrdT gs 0 := fun k hk => by
  have z := asc_at h hk
  left
  unfold plcQ
  grind
theorem least_spec : ∀ (l : List Rat) (o : Option Rat), ∀ m, l.foldl less1 o = some m → ((m ∈ l ∨ o = some m) ∧ (∀ y ∈ l, m ≤ y) ∧ ∀ f, o = some f → m ≤ f)
  | [], o, m, h => ⟨.inr h, fun _ z => (nomatch z), fun f hf => by
      have z : o = some m := h
      rw [z] at hf
      cases hf
      exact Rat.le_refl⟩
  | x :: l, o, m, h => by
    rw [List.foldl_cons] at h
    obtain ⟨h1, h2, h3⟩ := least_spec l (less1 o x) m h
    cases o with
    | none =>
      have e : less1 none x = some x := rfl
      rw [e] at h1 h3
      have mx := h3 x rfl
      refine ⟨.inl ?_, fun y hy => ?_, fun f hf => nomatch hf⟩
      · rcases h1 with h1 | h1
        · exact List.mem_cons_of_mem _ h1
        · cases h1
          exact List.mem_cons_self ..
      · rcases List.mem_cons.mp hy with rfl | hy
        · exact mx
        · exact h2 y hy
    | some f =>
      by_cases c : x < f
      · have e : less1 (some f) x = some x := if_pos c
        rw [e] at h1 h3
        have mx := h3 x rfl
        refine ⟨.inl ?_, fun y hy => ?_, fun g hg => ?_⟩
        · rcases h1 with h1 | h1
          · exact List.mem_cons_of_mem _ h1
          · cases h1
            exact List.mem_cons_self ..
        · rcases List.mem_cons.mp hy with rfl | hy
          · exact mx
          · exact h2 y hy
        · cases hg
          grind
      · have e : less1 (some f) x = some f := if_neg c
        rw [e] at h1 h3
        have mf := h3 f rfl
        refine ⟨?_, fun y hy => ?_, fun g hg => ?_⟩
        · rcases h1 with h1 | h1
          · exact .inl (List.mem_cons_of_mem _ h1)
          · exact .inr h1
        · rcases List.mem_cons.mp hy with rfl | hy
          · grind
          · exact h2 y hy
        · cases hg
          exact mf
theorem least_some {l : List Rat} {m : Rat} (h : leastQ l = some m) : m ∈ l ∧ ∀ y ∈ l, m ≤ y := by
  obtain ⟨h1, h2, _⟩ := least_spec l none m h
  refine ⟨?_, h2⟩
  rcases h1 with h1 | h1
  · exact h1
  · cases h1
theorem fold_none : ∀ (l : List Rat) (f : Rat), l.foldl less1 (some f) ≠ none
  | [], f => by intro h; cases h
  | x :: l, f => by
    rw [List.foldl_cons]
    by_cases c : x < f
    · have e : less1 (some f) x = some x := if_pos c
      rw [e]
      exact fold_none l x
    · have e : less1 (some f) x = some f := if_neg c
      rw [e]
      exact fold_none l f
theorem least_none {l : List Rat} : leastQ l = none ↔ l = [] := by
  cases l with
  | nil => exact ⟨fun _ => rfl, fun _ => rfl⟩
  | cons x l =>
    constructor
    · intro h
      exact absurd h (fold_none l x)
    · intro h
      cases h
theorem mem_jn {l : List (Option Rat)} {q : Rat} : q ∈ l.filterMap id ↔ some q ∈ l := by
  rw [List.mem_filterMap]
  constructor
  · rintro ⟨o, h, e⟩
    have e' : o = some q := e
    rw [← e']
    exact h
  · intro h
    exact ⟨some q, h, rfl⟩
theorem cmng_some {gs : List Bod} {t : Rat} (h : cmng gs = some t) : (∃ k, k + 1 < gs.length ∧ jntQ (bodAt gs k) (bodAt gs (k + 1)) = some t) ∧ ∀ k q, k + 1 < gs.length → jntQ (bodAt gs k) (bodAt gs (k + 1)) = some q → t ≤ q := by
  obtain ⟨h1, h2⟩ := least_some h
  constructor
  · obtain ⟨k, hk, e⟩ := List.mem_iff_getElem.mp (mem_jn.mp h1)
    have lk : k + 1 < gs.length := by rw [jnts_len] at hk; omega
    refine ⟨k, lk, ?_⟩
    have z := jnts_at lk
    rw [List.getElem?_eq_getElem hk, e] at z
    exact (Option.some.inj z).symm
  · intro k q hk hq
    refine h2 q (mem_jn.mpr ?_)
    have z := jnts_at hk
    rw [hq] at z
    exact List.mem_of_getElem? z
theorem jnt_gap {a b : Bod} {q : Rat} (h : jntQ a b = some q) : b.2.1 < a.2.1 ∧ ∀ s, plcQ b s - plcQ a s = (a.2.1 - b.2.1) * (q - s) := by
  unfold jntQ at h
  split at h
  · cases h
  · rename_i c
    injection h with h
    have V : a.2.1 - b.2.1 ≠ 0 := by grind
    refine ⟨by grind, fun s => ?_⟩
    have i := Rat.mul_inv_cancel _ V
    rw [← h, Rat.div_def]
    unfold plcQ
    grind
theorem jnt_not {a b : Bod} (h : jntQ a b = none) : a.2.1 ≤ b.2.1 := by
  unfold jntQ at h
  split at h
  · grind
  · cases h
theorem ord_till {gs : List Bod} {now t : Rat} (o : OrdT gs now) (h : cmng gs = some t) : now < t ∧ (∀ s, now < s → s < t → ∀ k, k + 1 < gs.length → plcQ (bodAt gs k) s < plcQ (bodAt gs (k + 1)) s) ∧ ∀ k, k + 1 < gs.length → plcQ (bodAt gs k) t ≤ plcQ (bodAt gs (k + 1)) t ∧ (plcQ (bodAt gs k) t = plcQ (bodAt gs (k + 1)) t ↔ jntQ (bodAt gs k) (bodAt gs (k + 1)) = some t) := by
  obtain ⟨⟨k0, hk0, e0⟩, low⟩ := cmng_some h
  have later : ∀ k q, k + 1 < gs.length → jntQ (bodAt gs k) (bodAt gs (k + 1)) = some q → now < q := fun k q hk hq => by
    obtain ⟨v, gap⟩ := jnt_gap hq
    have g := gap now
    have pos : 0 < plcQ (bodAt gs (k + 1)) now - plcQ (bodAt gs k) now := by
      rcases o k hk with z | ⟨_, z⟩
      · grind
      · grind
    rw [g] at pos
    by_cases c : now < q
    · exact c
    · exfalso
      have z := Rat.mul_nonneg (show 0 ≤ (bodAt gs k).2.1 - (bodAt gs (k + 1)).2.1 by grind) (show 0 ≤ now - q by grind)
      grind
  have still : ∀ k s, k + 1 < gs.length → jntQ (bodAt gs k) (bodAt gs (k + 1)) = none → now < s → plcQ (bodAt gs k) s < plcQ (bodAt gs (k + 1)) s := fun k s hk hn hs => by
    have v := jnt_not hn
    have e : plcQ (bodAt gs (k + 1)) s - plcQ (bodAt gs k) s = (plcQ (bodAt gs (k + 1)) now - plcQ (bodAt gs k) now) + ((bodAt gs (k + 1)).2.1 - (bodAt gs k).2.1) * (s - now) := by
      unfold plcQ
      grind
    rcases o k hk with z | ⟨z, z2⟩
    · have z3 := Rat.mul_nonneg (show 0 ≤ (bodAt gs (k + 1)).2.1 - (bodAt gs k).2.1 by grind) (show 0 ≤ s - now by grind)
      grind
    · have z3 := Rat.mul_pos (show 0 < (bodAt gs (k + 1)).2.1 - (bodAt gs k).2.1 by grind) (show 0 < s - now by grind)
      grind
  have nt := later k0 t hk0 e0
  refine ⟨nt, fun s s1 s2 k hk => ?_, fun k hk => ?_⟩
  · cases q : jntQ (bodAt gs k) (bodAt gs (k + 1)) with
    | none => exact still k s hk q s1
    | some j =>
      obtain ⟨v, gap⟩ := jnt_gap q
      have tj := low k j hk q
      have z := Rat.mul_pos (show 0 < (bodAt gs k).2.1 - (bodAt gs (k + 1)).2.1 by grind) (show 0 < j - s by grind)
      have g := gap s
      grind
  · cases q : jntQ (bodAt gs k) (bodAt gs (k + 1)) with
    | none =>
      have z := still k t hk q nt
      exact ⟨by grind, fun e => absurd e (by grind), fun e => nomatch e⟩
    | some j =>
      obtain ⟨v, gap⟩ := jnt_gap q
      have tj := low k j hk q
      have g := gap t
      have z := Rat.mul_nonneg (show 0 ≤ (bodAt gs k).2.1 - (bodAt gs (k + 1)).2.1 by grind) (show 0 ≤ j - t by grind)
      refine ⟨by grind, fun e => ?_, fun e => ?_⟩
      · have z0 : ((bodAt gs k).2.1 - (bodAt gs (k + 1)).2.1) * (j - t) = 0 := by grind
        rcases Rat.mul_eq_zero.mp z0 with y | y
        · grind
        · rw [show j = t by grind]
      · injection e with e
        rw [e] at g
        grind
theorem mem_lefts {gs : List Bod} {t : Rat} (h : cmng gs = some t) {i : Nat} : i ∈ leftsQ gs ↔ i + 1 < gs.length ∧ jntQ (bodAt gs i) (bodAt gs (i + 1)) = some t := by
  constructor
  · intro hi
    obtain ⟨h1, h2⟩ := lefts_lt hi
    rw [jnts_at h1, h] at h2
    exact ⟨h1, Option.some.inj h2⟩
  · rintro ⟨h1, h2⟩
    rw [lefts_is, if_neg (by rw [h]; exact fun z => nomatch z), List.mem_filter, List.mem_range, jnts_len]
    refine ⟨by omega, decide_eq_true ?_⟩
    rw [jnts_at h1, h2, h]
theorem lefts_apart {gs : List Bod} (c : ¬ crwQ gs) {i : Nat} (h : i ∈ leftsQ gs) : i + 1 ∉ leftsQ gs := fun h' => by
  obtain ⟨l1, e1⟩ := lefts_lt h
  obtain ⟨l2, e2⟩ := lefts_lt h'
  exact c ⟨i, h, .inr ⟨by rw [jnts_len]; omega, .inl e2⟩⟩
theorem lefts_nodup (gs : List Bod) : (leftsQ gs).Nodup := by
  rw [lefts_is]
  split
  · exact List.nodup_nil
  · exact List.Pairwise.filter _ List.nodup_range
theorem fold_at : ∀ (l : List Nat) {gs : List Bod}, l.Nodup → (∀ i ∈ l, i + 1 < gs.length) → (∀ i ∈ l, i + 1 ∉ l) → ∀ k, bodAt (l.foldl partQ gs) k = if k ∈ l then behQ (bodAt gs k) (bodAt gs (k + 1)) else if 1 ≤ k ∧ k - 1 ∈ l then behQ (bodAt gs k) (bodAt gs (k - 1)) else bodAt gs k
  | [], gs, _, _, _, k => by
    rw [if_neg (fun z => nomatch z), if_neg (fun z => nomatch z.2)]
    rfl
  | i :: l, gs, nd, hl, ap, k => by
    have hi := hl i (List.mem_cons_self ..)
    have nd' := List.nodup_cons.mp nd
    have ih := fold_at l (gs := partQ gs i) nd'.2 (fun j hj => by rw [partQ_len]; exact hl j (List.mem_cons_of_mem _ hj)) (fun j hj hj' => ap j (List.mem_cons_of_mem _ hj) (List.mem_cons_of_mem _ hj')) k
    rw [List.foldl_cons, ih]
    have pa := part_at hi
    have i1 : i + 1 ∉ l := fun z => ap i (List.mem_cons_self ..) (List.mem_cons_of_mem _ z)
    have i0 : ∀ j, j + 1 = i → j ∉ l := fun j e z => ap j (List.mem_cons_of_mem _ z) (by rw [e]; exact List.mem_cons_self ..)
    by_cases c1 : k ∈ l
    · have ki : k ≠ i := fun z => nd'.1 (z ▸ c1)
      have ki1 : k ≠ i + 1 := fun z => i1 (z ▸ c1)
      have k1i : k + 1 ≠ i := fun z => i0 k z c1
      rw [if_pos c1, if_pos (List.mem_cons_of_mem _ c1), pa k, pa (k + 1), if_neg ki, if_neg ki1, if_neg k1i, if_neg (by omega)]
    · rw [if_neg c1]
      by_cases c2 : k = i
      · subst c2
        have n2 : ¬ (1 ≤ k ∧ k - 1 ∈ l) := fun z => i0 (k - 1) (by omega) z.2
        rw [if_neg n2, if_pos (List.mem_cons_self ..), pa k, if_pos rfl]
      · have c3 : k ∉ i :: l := fun z => by
          rcases List.mem_cons.mp z with z | z
          · exact c2 z
          · exact c1 z
        rw [if_neg c3]
        by_cases c4 : 1 ≤ k ∧ k - 1 ∈ l
        · have e1 : k - 1 ≠ i := fun z => nd'.1 (z ▸ c4.2)
          have e2 : k ≠ i + 1 := fun z => e1 (by omega)
          have e3 : k - 1 ≠ i + 1 := fun z => i1 (z ▸ c4.2)
          rw [if_pos c4, if_pos ⟨c4.1, List.mem_cons_of_mem _ c4.2⟩, pa k, pa (k - 1), if_neg c2, if_neg e2, if_neg e1, if_neg e3]
        · rw [if_neg c4]
          by_cases c5 : k = i + 1
          · subst c5
            rw [if_pos ⟨by omega, by rw [Nat.add_sub_cancel]; exact List.mem_cons_self ..⟩, pa (i + 1), if_neg (by omega), if_pos rfl, Nat.add_sub_cancel]
          · have c6 : ¬ (1 ≤ k ∧ k - 1 ∈ i :: l) := fun z => by
              rcases List.mem_cons.mp z.2 with y | y
              · exact c5 (by omega)
              · exact c4 ⟨z.1, y⟩
            rw [if_neg c6, pa k, if_neg c2, if_neg c5]
theorem on_at {gs : List Bod} (c : ¬ crwQ gs) (k : Nat) : bodAt (onQ gs) k = if k ∈ leftsQ gs then behQ (bodAt gs k) (bodAt gs (k + 1)) else if 1 ≤ k ∧ k - 1 ∈ leftsQ gs then behQ (bodAt gs k) (bodAt gs (k - 1)) else bodAt gs k :=
  fold_at _ (lefts_nodup gs) (fun i hi => (lefts_lt hi).1) (fun i hi => lefts_apart c hi) k
theorem beh_plc {a b : Bod} {t : Rat} (ma : 1 ≤ a.2.2) (mb : 1 ≤ b.2.2) (e : plcQ a t = plcQ b t) : plcQ (behQ a b) t = plcQ a t := by
  unfold plcQ at e ⊢
  unfold behQ
  dsimp only
  rw [mixQ_eq, mixQ_eq]
  have s : ((a.2.2 : Rat) + (b.2.2 : Rat)) ≠ 0 := by
    have z : ((a.2.2 + b.2.2 : Int) : Rat) ≠ ((0 : Int) : Rat) := fun z => by have := Rat.intCast_inj.mp z; omega
    rw [Rat.intCast_add] at z
    exact z
  have i := Rat.mul_inv_cancel _ s
  rw [Rat.div_def, Rat.div_def]
  grind
theorem beh_rel {a b : Bod} (ma : 1 ≤ a.2.2) (mb : 1 ≤ b.2.2) : (behQ a b).2.1 - (behQ b a).2.1 = b.2.1 - a.2.1 := by
  unfold behQ
  dsimp only
  rw [mixQ_eq, mixQ_eq]
  have s : ((a.2.2 : Rat) + (b.2.2 : Rat)) ≠ 0 := by
    have z : ((a.2.2 + b.2.2 : Int) : Rat) ≠ ((0 : Int) : Rat) := fun z => by have := Rat.intCast_inj.mp z; omega
    rw [Rat.intCast_add] at z
    exact z
  have cm : (b.2.2 : Rat) + (a.2.2 : Rat) = (a.2.2 : Rat) + (b.2.2 : Rat) := by grind
  have i := Rat.mul_inv_cancel _ s
  rw [cm, Rat.div_def, Rat.div_def, Rat.div_def, Rat.div_def]
  grind
theorem w_at {gs : List Bod} (hw : ∀ b ∈ gs, 1 ≤ b.2.2 ∧ b.2.2 ≤ 10000) {k : Nat} (hk : k < gs.length) : 1 ≤ (bodAt gs k).2.2 := (hw _ (List.mem_of_getElem? (bodAt_get hk))).1
theorem on_plc {gs : List Bod} {now t : Rat} (o : OrdT gs now) (h : cmng gs = some t) (c : ¬ crwQ gs) (hw : ∀ b ∈ gs, 1 ≤ b.2.2 ∧ b.2.2 ≤ 10000) {k : Nat} (hk : k < gs.length) : plcQ (bodAt (onQ gs) k) t = plcQ (bodAt gs k) t := by
  obtain ⟨_, _, at'⟩ := ord_till o h
  rw [on_at c]
  split
  · rename_i hl
    obtain ⟨l1, e1⟩ := (mem_lefts h).mp hl
    exact beh_plc (w_at hw hk) (w_at hw l1) (((at' k l1).2).mpr e1)
  · split
    · rename_i hl
      obtain ⟨l1, e1⟩ := (mem_lefts h).mp hl.2
      have kk : k - 1 + 1 = k := by omega
      rw [kk] at l1 e1
      have z := ((at' (k - 1) (by omega)).2)
      rw [kk] at z
      exact beh_plc (w_at hw hk) (w_at hw (by omega)) (z.mpr e1).symm
    · rfl
theorem ord_on {gs : List Bod} {now t : Rat} (o : OrdT gs now) (h : cmng gs = some t) (c : ¬ crwQ gs) (hw : ∀ b ∈ gs, 1 ≤ b.2.2 ∧ b.2.2 ≤ 10000) : OrdT (onQ gs) t := fun k hk => by
  rw [on_len] at hk
  obtain ⟨_, _, at'⟩ := ord_till o h
  obtain ⟨le, iff'⟩ := at' k hk
  rw [on_plc o h c hw (by omega), on_plc o h c hw hk]
  by_cases hl : k ∈ leftsQ gs
  · right
    obtain ⟨l1, e1⟩ := (mem_lefts h).mp hl
    refine ⟨iff'.mpr e1, ?_⟩
    have n1 : k + 1 ∉ leftsQ gs := lefts_apart c hl
    rw [on_at c k, on_at c (k + 1), if_pos hl, if_neg n1, if_pos ⟨by omega, by rw [Nat.add_sub_cancel]; exact hl⟩, Nat.add_sub_cancel]
    have rel := beh_rel (w_at hw (show k < gs.length by omega)) (w_at hw hk)
    have v := (jnt_gap e1).1
    grind
  · left
    by_cases e : plcQ (bodAt gs k) t = plcQ (bodAt gs (k + 1)) t
    · exact absurd ((mem_lefts h).mpr ⟨hk, iff'.mp e⟩) hl
    · grind
end Kw
set_option Elab.async false
set_option linter.all false
set_option maxRecDepth 100000
set_option maxHeartbeats 4000000
namespace Kw
open PySem PySem.Spec PyProof.Rows L2
section
variable {X : Cx}
end
section
variable {K : PySem.W.Frag} {idx : List Nat} {te : TE} {σ : L2.St} {H : Hp} {Q : VK}
end
end Kw
set_option Elab.async false
set_option linter.all false
set_option maxRecDepth 100000
set_option maxHeartbeats 4000000
namespace Kw
open PySem PySem.Spec PyProof.Rows L2
theorem com_fold : ∀ (l : List Nat) {B : Nat} {gs : List Bod}, Com B gs → (∀ p ∈ gs, 1 ≤ p.2.2 ∧ p.2.2 ≤ 10000) → (∀ i ∈ l, i + 1 < gs.length) → Com (B + 15 * l.length) (l.foldl partQ gs)
  | [], _, _, h, _, _ => h
  | i :: l, B, gs, h, hw, hl => by
    have hi := hl i (List.mem_cons_self ..)
    have z := com_fold l (h.part hw hi) (part_w hw hi) fun k hk => by rw [partQ_len]; exact hl k (List.mem_cons_of_mem _ hk)
    rw [List.length_cons, Nat.mul_add, ← Nat.add_assoc]
    rw [show B + 15 * l.length + 15 * 1 = B + 15 + 15 * l.length by omega]
    exact z
theorem on_both {es : List Bod} (c : ¬ crwQ es) {i : Nat} (h : i ∈ leftsQ es) : bodAt (onQ es) i = behQ (bodAt es i) (bodAt es (i + 1)) ∧ bodAt (onQ es) (i + 1) = behQ (bodAt es (i + 1)) (bodAt es i) := by
  refine ⟨by rw [on_at c, if_pos h], ?_⟩
  have n := lefts_apart c h
  rw [on_at c, if_neg n, if_pos ⟨by omega, by rw [show i + 1 - 1 = i by omega]; exact h⟩, show i + 1 - 1 = i by omega]
theorem on_turned {es : List Bod} {last t : Rat} (o : OrdT es last) (h : cmng es = some t) (c : ¬ crwQ es) (hw : ∀ p ∈ es, 1 ≤ p.2.2 ∧ p.2.2 ≤ 10000) {i : Nat} (hi : i ∈ leftsQ es) : (bodAt (onQ es) (i + 1)).2.1 - (bodAt (onQ es) i).2.1 = (bodAt es i).2.1 - (bodAt es (i + 1)).2.1 ∧ plcQ (bodAt (onQ es) i) t = plcQ (bodAt (onQ es) (i + 1)) t := by
  obtain ⟨lt, e⟩ := (mem_lefts h).mp hi
  have w1 := w_at hw (show i < es.length by omega)
  have w2 := w_at hw lt
  constructor
  · rw [(on_both c hi).1, (on_both c hi).2, beh_rel w2 w1]
  · rw [on_plc o h c hw (show i < es.length by omega), on_plc o h c hw lt]
    have z := (jnt_gap e).2 t
    grind
noncomputable def numsV (l : List Nat) : List V := l.map fun i : Nat => V.int (i : Int)
theorem nums_flat (l : List Nat) : (numsV l).all flatV = true := by
  unfold numsV
  rw [List.all_map]
  exact List.all_eq_true.mpr fun _ _ => rfl
theorem nums_in (l : List Nat) (k : Nat) : inV (.int (k : Int)) (numsV l) = decide (k ∈ l) := by
  induction l with
  | nil => rfl
  | cons a l ih =>
    show (eqV (.int (a : Int)) (.int (k : Int)) || inV (.int (k : Int)) (numsV l)) = _
    have e : eqV (.int (a : Int)) (.int (k : Int)) = decide (k = a) := by
      show decide ((a : Int) = (k : Int)) = _
      exact decide_eq_decide.mpr ⟨fun h => by omega, fun h => by omega⟩
    rw [ih, e, ← Bool.decide_or]
    exact decide_eq_decide.mpr List.mem_cons.symm
end Kw
set_option Elab.async false
set_option linter.all false
set_option maxRecDepth 100000
set_option maxHeartbeats 4000000
namespace Kw
open PySem PySem.Spec PyProof.Rows L2
end Kw
set_option Elab.async false
set_option linter.all false
set_option maxRecDepth 100000
set_option maxHeartbeats 4000000
namespace Kw
open PySem PySem.Spec PyProof.Rows L2
noncomputable def sftB (s : Rat) (b : Bod) : Bod := (b.1 + b.2.1 * s, b.2.1, b.2.2)
section
variable {s : Rat}
theorem jnt_sft (a b : Bod) : jntQ (sftB s a) (sftB s b) = (jntQ a b).map (· - s) := by
  unfold jntQ sftB
  dsimp only
  by_cases h : a.2.1 - b.2.1 ≤ 0
  · rw [if_pos h, if_pos h]
    rfl
  · rw [if_neg h, if_neg h]
    show some _ = some _
    congr 1
    have i := Rat.mul_inv_cancel (a.2.1 - b.2.1) (by grind)
    rw [Rat.div_def, Rat.div_def]
    grind
theorem jnts_sft : ∀ gs : List Bod, jnts (gs.map (sftB s)) = (jnts gs).map (Option.map (· - s))
  | [] => rfl
  | [_] => rfl
  | p :: q :: r => by
    have ih := jnts_sft (q :: r)
    show jntQ (sftB s p) (sftB s q) :: jnts ((q :: r).map (sftB s)) = _
    rw [jnt_sft, ih]
    rfl
theorem less1_sft (o : Option Rat) (m : Rat) : less1 (o.map (· - s)) (m - s) = (less1 o m).map (· - s) := by
  cases o with
  | none => rfl
  | some f =>
    show (if m - s < f - s then some (m - s) else some (f - s)) = _
    by_cases h : m < f
    · have e : less1 (some f) m = some m := if_pos h
      rw [if_pos (by grind), e]
      rfl
    · have e : less1 (some f) m = some f := if_neg h
      rw [if_neg (by grind), e]
      rfl
theorem fold_sft : ∀ (l : List Rat) (o : Option Rat), (l.map (· - s)).foldl less1 (o.map (· - s)) = (l.foldl less1 o).map (· - s)
  | [], _ => rfl
  | m :: l, o => by
    rw [List.map_cons, List.foldl_cons, List.foldl_cons, less1_sft, fold_sft l]
theorem fm_sft : ∀ l : List (Option Rat), (l.map (Option.map (· - s))).filterMap id = (l.filterMap id).map (· - s)
  | [] => rfl
  | none :: l => by
    show (l.map (Option.map (· - s))).filterMap id = _
    rw [fm_sft l]
    rfl
  | some q :: l => by
    show (q - s) :: (l.map (Option.map (· - s))).filterMap id = _
    rw [fm_sft l]
    rfl
theorem cmng_sft (gs : List Bod) : cmng (gs.map (sftB s)) = (cmng gs).map (· - s) := by
  unfold cmng leastQ
  rw [jnts_sft, fm_sft]
  exact fold_sft _ none
theorem bod_sft (gs : List Bod) {i : Nat} (h : i < gs.length) : bodAt (gs.map (sftB s)) i = sftB s (bodAt gs i) := by
  refine bodAt_of ?_
  rw [List.getElem?_map, bodAt_get h]
  rfl
theorem plc_sft (p : Bod) (t : Rat) : plcQ (sftB s p) t = plcQ p (s + t) := by
  unfold plcQ sftB
  dsimp only
  grind
theorem beh_sft (p q : Bod) : behQ (sftB s p) (sftB s q) = sftB s (behQ p q) := by
  unfold behQ sftB
  dsimp only
  rw [mixQ_eq, mixQ_eq, mixQ_eq]
  congr 1
  grind
theorem part_sft (gs : List Bod) {i : Nat} (hi : i + 1 < gs.length) : partQ (gs.map (sftB s)) i = (partQ gs i).map (sftB s) := by
  unfold partQ
  rw [bod_sft gs (by omega), bod_sft gs hi, beh_sft, beh_sft, List.map_set, List.map_set]
theorem foldp_sft : ∀ (l : List Nat) {gs : List Bod}, (∀ i ∈ l, i + 1 < gs.length) → l.foldl partQ (gs.map (sftB s)) = (l.foldl partQ gs).map (sftB s)
  | [], _, _ => rfl
  | i :: l, gs, hl => by
    rw [List.foldl_cons, List.foldl_cons, part_sft gs (hl i (List.mem_cons_self ..)), foldp_sft l fun k hk => by rw [partQ_len]; exact hl k (List.mem_cons_of_mem _ hk)]
theorem ord_sft {gs : List Bod} {now : Rat} (o : OrdT gs now) : OrdT (gs.map (sftB s)) (now - s) := fun k hk => by
  rw [List.length_map] at hk
  have z := o k hk
  rw [bod_sft gs (by omega), bod_sft gs hk, plc_sft, plc_sft, show s + (now - s) = now by grind]
  exact z
theorem sft_sft (t : Rat) (gs : List Bod) : (gs.map (sftB s)).map (sftB t) = gs.map (sftB (s + t)) := by
  rw [List.map_map]
  refine List.map_congr_left fun b _ => ?_
  show (b.1 + b.2.1 * s + b.2.1 * t, b.2.1, b.2.2) = (b.1 + b.2.1 * (s + t), b.2.1, b.2.2)
  rw [show b.1 + b.2.1 * s + b.2.1 * t = b.1 + b.2.1 * (s + t) by grind]
end
theorem lefts_meet {gs : List Bod} {now t : Rat} (o : OrdT gs now) (h : cmng gs = some t) : leftsQ gs = (List.range (gs.length - 1)).filter fun k => decide (plcQ (bodAt gs k) t = plcQ (bodAt gs (k + 1)) t) := by
  rw [lefts_is, if_neg (by rw [h]; exact fun z => (nomatch z)), jnts_len]
  refine List.filter_congr fun k hk => ?_
  have lt : k + 1 < gs.length := by have := List.mem_range.mp hk; omega
  refine decide_eq_decide.mpr ?_
  rw [jnts_at lt, h, ((ord_till o h).2.2 k lt).2]
  exact ⟨fun z => by injection z, fun z => by rw [z]⟩
theorem no_alike {gs : List Bod} {now : Rat} (o : OrdT gs now) {k : Nat} (hk : k + 1 < gs.length) : ¬ alikeQ (bodAt gs k) (bodAt gs (k + 1)) := fun z => by
  obtain ⟨h1, h2⟩ := z
  have := o k hk
  unfold plcQ at this
  rw [h1, h2] at this
  grind
theorem crw_two {gs : List Bod} {now : Rat} (o : OrdT gs now) : crwQ gs ↔ ∃ k ∈ leftsQ gs, k + 1 ∈ leftsQ gs := by
  have jl := jnts_len gs
  have tog : ∀ {i : Nat}, i + 1 < gs.length → cmng gs ≠ none → (togQ gs i ↔ i ∈ leftsQ gs) := fun {i} hi hn => by
    unfold togQ
    rw [lefts_is, if_neg hn, List.mem_filter, List.mem_range, jl]
    constructor
    · rintro (z | z)
      · exact ⟨by omega, decide_eq_true z⟩
      · exact absurd z (no_alike o hi)
    · exact fun z => .inl (of_decide_eq_true z.2)
  constructor
  · rintro ⟨i, hi, h⟩
    have lt := (lefts_lt hi).1
    have hn : cmng gs ≠ none := fun z => by rw [lefts_is, if_pos z] at hi; cases hi
    rcases h with ⟨h1, h2⟩ | ⟨h1, h2⟩
    · refine ⟨i - 1, (tog (by omega) hn).mp h2, ?_⟩
      rw [show i - 1 + 1 = i by omega]
      exact hi
    · exact ⟨i, hi, (tog (by omega) hn).mp h2⟩
  · rintro ⟨k, hk, h⟩
    have lt := (lefts_lt h).1
    have hn : cmng gs ≠ none := fun z => by rw [lefts_is, if_pos z] at hk; cases hk
    exact ⟨k, hk, .inr ⟨by omega, (tog lt hn).mpr h⟩⟩
end Kw
set_option Elab.async false
set_option linter.all false
set_option maxRecDepth 100000
set_option maxHeartbeats 4000000
namespace Kw
open PySem PySem.Spec PyProof.Rows L2
variable {X : Cx} {pos : Pos}
noncomputable def tPar3 (i j k : Nat) (ta : TA) : TS := fun D σ H => ta σ H fun vs H1 => ∃ v w u, vs = [v, w, u] ∧ D.nx (((σ.set i (some v)).set j (some w)).set k (some u)) H1
theorem ps_par3 {i j k : Nat} {x y z : Str} {a b c : Expr} {ta : TA} {px py pz pt : Pos} {kt k2 pt2} (hc : X.calm = true) (hN : X.N.Nodup) (hi : X.N[i]? = some x) (hj : X.N[j]? = some y) (hk : X.N[k]? = some z) (hij : i ≠ j) (hik : i ≠ k) (hjk : j ≠ k)
    (hx : X.env.scope.names.lookup x = some .local) (hy : X.env.scope.names.lookup y = some .local) (hz : X.env.scope.names.lookup z = some .local) (ha : PA X [a, b, c] ta)
    (sw : swappedStores [.Tuple [.Name x px, .Name y py, .Name z pz] kt pt] (.Tuple [a, b, c] k2 pt2) X.env = pure (some [x, y, z]))
    (ss : swapsWithSole [.Tuple [.Name x px, .Name y py, .Name z pz] kt pt] (.Tuple [a, b, c] k2 pt2) pos.line X.env = pure false := by rfl) :
    PS X (.Assign [.Tuple [.Name x px, .Name y py, .Name z pz] kt pt] (.Tuple [a, b, c] k2 pt2) pos) (tPar3 i j k ta) := by
  intro pins s σ H D I h
  rw [exec_Assign_arm]
  refine wpAny_bind (wpAny_standAt ?_)
  rw [ss]
  refine wpAny_bind (wpAny_pure ?_)
  rw [if_neg (by decide)]
  refine wpAny_bind (Tuple_ (thn (ha _ pins s σ H _ I h) fun us s1 zz => ?_))
  obtain ⟨vs, H1, I1, r1, q1⟩ := zz
  obtain ⟨v, w, u, e1, q1⟩ := q1
  subst e1
  obtain ⟨u1, u2, u3, rfl, rv, rw', ru⟩ : ∃ u1 u2 u3, us = [u1, u2, u3] ∧ RelV v u1 ∧ RelV w u2 ∧ RelV u u3 := by
    cases r1 with
    | cons p q => cases q with
      | cons p' q' => cases q' with
        | cons p2 q2 =>
          cases q2
          exact ⟨_, _, _, rfl, p, p', p2⟩
  refine wpAny_newObj_type ?_ (by show 3 ≤ sizeLine; decide)
  have I2 : Inv X pins σ H1 { s1 with heap := s1.heap.push { cls := .type "tuple", data := .seq [u1, u2, u3].toArray } } := I1.kept (t' := s1.toks) fun b o e => Heap.get?_push_of_some _ e
  rw [sw]
  refine wpAny_bind (wpAny_pure ?_)
  show wpAny (model X.prog X.w) X.A (do rule "assign.swapped-stores"; let its ← unpackItems (.ref s1.heap.objs.size) 3 none; assignInOrder [fun v => bindName X.env z v, fun v => bindName X.env y v, fun v => bindName X.env x v] its.reverse; pure Flow.next) _ _ _
  refine wpAny_bind (wpAny_rule (wpAny_bind (unpackItems_tuple (items := #[u1, u2, u3]) (I.ok.hd hc) (IsTup.new s1.heap _) fun h' hx' => ?_)))
  have I3 := I2.kept (h' := h') (t' := s1.toks) fun b o e => hx' b o (Nat.ne_of_lt (Heap.lt_size e)) e
  show wpAny _ _ (assignInOrder [fun v => bindName X.env z v, fun v => bindName X.env y v, fun v => bindName X.env x v] [u3, u2, u1] >>= fun _ => pure Flow.next) _ _ _
  refine wpAny_bind (assignInOrder_cons (wpAny_bindName (store_ok I3 hN hk (.inl hz) ru (fun s2 I4 => ?_) (.inr hz))))
  refine assignInOrder_cons (wpAny_bindName (store_ok I4 hN hj (.inl hy) rw' (fun s3 I5 => ?_) (.inr hy)))
  refine assignInOrder_cons (wpAny_bindName (store_ok I5 hN hi (.inl hx) rv (fun s4 I6 => assignInOrder_nil (wpAny_pure ?_)) (.inr hx)))
  rw [List.set_comm _ _ (Ne.symm hij), List.set_comm _ _ (Ne.symm hik), List.set_comm _ _ (Ne.symm hjk)] at I6
  exact ⟨_, H1, I6, q1⟩
end Kw
set_option Elab.async false
set_option linter.all false
set_option maxRecDepth 100000
set_option maxHeartbeats 4000000
namespace Kw
open PySem PySem.Spec PyProof.Rows L2
theorem sft_zero (gs : List Bod) : gs.map (sftB 0) = gs := by
  have e : ∀ b ∈ gs, sftB 0 b = id b := fun b _ => by
    show (b.1 + b.2.1 * 0, b.2.1, b.2.2) = b
    rw [show b.1 + b.2.1 * 0 = b.1 by grind]
  rw [List.map_congr_left e, List.map_id]
theorem lefts_asc (gs : List Bod) : (leftsQ gs).Pairwise (· < ·) := by
  rw [lefts_is]
  split
  · exact List.Pairwise.nil
  · exact List.Pairwise.filter _ List.pairwise_lt_range
theorem take_apart {gs : List Bod} (c : ¬ crwQ gs) {m i : Nat} (hi : (leftsQ gs)[m]? = some i) : i ∉ (leftsQ gs).take m ∧ (∀ j, j + 1 = i → j ∉ (leftsQ gs).take m) ∧ i + 1 ∉ (leftsQ gs).take m := by
  have hm := List.mem_of_getElem? hi
  have sub : ∀ {x}, x ∈ (leftsQ gs).take m → x ∈ leftsQ gs := fun h => List.mem_of_mem_take h
  refine ⟨fun z => ?_, fun j e z => lefts_apart c (sub z) (e ▸ hm), fun z => lefts_apart c hm (sub z)⟩
  obtain ⟨a, ha, ea⟩ := List.mem_iff_getElem.mp z
  rw [List.length_take] at ha
  rw [List.getElem_take] at ea
  obtain ⟨hl, eh⟩ := List.getElem?_eq_some_iff.mp hi
  have := List.pairwise_iff_getElem.mp (lefts_asc gs) a m (by omega) hl (by omega)
  omega
theorem fold_take {gs : List Bod} (c : ¬ crwQ gs) {t : Rat} {m i : Nat} (hi : (leftsQ gs)[m]? = some i) : bodAt (((leftsQ gs).take m).foldl partQ (gs.map (sftB t))) i = sftB t (bodAt gs i) ∧ bodAt (((leftsQ gs).take m).foldl partQ (gs.map (sftB t))) (i + 1) = sftB t (bodAt gs (i + 1)) := by
  obtain ⟨n1, n2, n3⟩ := take_apart c hi
  have lt := (lefts_lt (List.mem_of_getElem? hi)).1
  have sub : ∀ {x}, x ∈ (leftsQ gs).take m → x ∈ leftsQ gs := fun h => List.mem_of_mem_take h
  have at' := fold_at ((leftsQ gs).take m) (gs := gs.map (sftB t)) ((List.take_sublist _ _).nodup (lefts_nodup gs)) (fun j hj => by rw [List.length_map]; exact (lefts_lt (sub hj)).1) (fun j hj hj' => lefts_apart c (sub hj) (sub hj'))
  constructor
  · rw [at' i, if_neg n1, if_neg (fun z => n2 (i - 1) (by omega) z.2), bod_sft gs (by omega)]
  · rw [at' (i + 1), if_neg n3, if_neg (fun z => n1 (by have := z.2; rwa [Nat.add_sub_cancel] at this)), bod_sft gs lt]
theorem lefts_same {gs : List Bod} {now t : Rat} (o : OrdT gs now) (h : cmng gs = some t) {i : Nat} (hi : i ∈ leftsQ gs) : plcQ (bodAt gs i) t = plcQ (bodAt gs (i + 1)) t := by
  obtain ⟨l1, e1⟩ := (mem_lefts h).mp hi
  exact (((ord_till o h).2.2 i l1).2).mpr e1
noncomputable def CrwD (gs : List Bod) (t q : Rat) (ns : List Nat) : Prop := ∃ k, k ∈ leftsQ gs ∧ k + 1 ∈ leftsQ gs ∧ (∀ j, j < k → j ∈ leftsQ gs → j + 1 ∉ leftsQ gs) ∧ q = plcQ (bodAt gs k) t ∧ ns = (List.range gs.length).filter fun j => decide (plcQ (bodAt gs j) t = q)
theorem lefts_below {gs : List Bod} {m k j : Nat} (h : (leftsQ gs)[m]? = some k) (hj : j ∈ leftsQ gs) (l : j < k) : ∃ m', m' < m ∧ (leftsQ gs)[m']? = some j := by
  obtain ⟨a, ha, ea⟩ := List.mem_iff_getElem.mp hj
  obtain ⟨hm, em⟩ := List.getElem?_eq_some_iff.mp h
  refine ⟨a, ?_, by rw [List.getElem?_eq_getElem ha, ea]⟩
  rcases Nat.lt_trichotomy a m with z | z | z
  · exact z
  · subst z; omega
  · have := List.pairwise_iff_getElem.mp (lefts_asc gs) m a hm ha z
    omega
end Kw
set_option Elab.async false
set_option linter.all false
set_option maxRecDepth 100000
set_option maxHeartbeats 4000000
namespace Kw
open PySem PySem.Spec PyProof.Rows L2
end Kw
set_option Elab.async false
set_option linter.all false
set_option maxRecDepth 100000
set_option maxHeartbeats 4000000
namespace Kw
open PySem PySem.Spec PyProof.Rows L2
section
variable {K : PySem.W.Frag} {H : Hp}
end
end Kw
set_option Elab.async false
set_option linter.all false
set_option maxRecDepth 100000
set_option maxHeartbeats 4000000
namespace Kw
open PySem PySem.Spec PyProof.Rows L2
theorem ord_far {hs : List Bod} {now : Rat} (o : OrdT hs now) {a : Nat} : ∀ d, a + (d + 1) < hs.length → plcQ (bodAt hs a) now < plcQ (bodAt hs (a + (d + 1))) now ∨ (plcQ (bodAt hs a) now = plcQ (bodAt hs (a + (d + 1))) now ∧ (bodAt hs a).2.1 < (bodAt hs (a + (d + 1))).2.1)
  | 0, h => o a h
  | d + 1, h => by
    have ih := ord_far o (a := a) d (by omega)
    have z := o (a + (d + 1)) (by omega)
    rw [show a + (d + 1) + 1 = a + (d + 1 + 1) by omega] at z
    rcases ih with i | ⟨i1, i2⟩
    · rcases z with z | ⟨z1, z2⟩
      · exact .inl (by grind)
      · exact .inl (by grind)
    · rcases z with z | ⟨z1, z2⟩
      · exact .inl (by grind)
      · exact .inr ⟨by grind, by grind⟩
theorem lt_far {hs : List Bod} {q : Rat} (h : ∀ k, k + 1 < hs.length → plcQ (bodAt hs k) q < plcQ (bodAt hs (k + 1)) q) {a : Nat} : ∀ d, a + (d + 1) < hs.length → plcQ (bodAt hs a) q < plcQ (bodAt hs (a + (d + 1))) q
  | 0, hd => h a hd
  | d + 1, hd => by
    have ih := lt_far h (a := a) d (by omega)
    have z := h (a + (d + 1)) (by omega)
    rw [show a + (d + 1) + 1 = a + (d + 1 + 1) by omega] at z
    grind
theorem jnt_far {hs : List Bod} {now : Rat} (o : OrdT hs now) {a b : Nat} (ab : a < b) (hb : b < hs.length) {q : Rat} (hq : jntQ (bodAt hs a) (bodAt hs b) = some q) : ∃ k j, k + 1 < hs.length ∧ jntQ (bodAt hs k) (bodAt hs (k + 1)) = some j ∧ j ≤ q := by
  refine Classical.byContradiction fun no => ?_
  have later : ∀ k j, k + 1 < hs.length → jntQ (bodAt hs k) (bodAt hs (k + 1)) = some j → q < j := fun k j hk hj => by
    by_cases c : q < j
    · exact c
    · exact absurd ⟨k, j, hk, hj, by grind⟩ no
  obtain ⟨v, gap⟩ := jnt_gap hq
  obtain ⟨d, rfl⟩ : ∃ d, b = a + (d + 1) := ⟨b - a - 1, by omega⟩
  have nq : now < q := by
    have g := gap now
    rcases ord_far o d hb with z | ⟨_, z⟩
    · have pos : 0 < ((bodAt hs a).2.1 - (bodAt hs (a + (d + 1))).2.1) * (q - now) := by grind
      by_cases c : now < q
      · exact c
      · exfalso
        have z2 := Rat.mul_nonneg (show 0 ≤ (bodAt hs a).2.1 - (bodAt hs (a + (d + 1))).2.1 by grind) (show 0 ≤ now - q by grind)
        grind
    · exact absurd v (by grind)
  have each : ∀ k, k + 1 < hs.length → plcQ (bodAt hs k) q < plcQ (bodAt hs (k + 1)) q := fun k hk => by
    cases jq : jntQ (bodAt hs k) (bodAt hs (k + 1)) with
    | none =>
      have v' := jnt_not jq
      have e : plcQ (bodAt hs (k + 1)) q - plcQ (bodAt hs k) q = (plcQ (bodAt hs (k + 1)) now - plcQ (bodAt hs k) now) + ((bodAt hs (k + 1)).2.1 - (bodAt hs k).2.1) * (q - now) := by
        unfold plcQ
        grind
      rcases o k hk with z | ⟨z, z2⟩
      · have z3 := Rat.mul_nonneg (show 0 ≤ (bodAt hs (k + 1)).2.1 - (bodAt hs k).2.1 by grind) (show 0 ≤ q - now by grind)
        grind
      · have z3 := Rat.mul_pos (show 0 < (bodAt hs (k + 1)).2.1 - (bodAt hs k).2.1 by grind) (show 0 < q - now by grind)
        grind
    | some j =>
      obtain ⟨v', gap'⟩ := jnt_gap jq
      have tj := later k j hk jq
      have z := Rat.mul_pos (show 0 < (bodAt hs k).2.1 - (bodAt hs (k + 1)).2.1 by grind) (show 0 < j - q by grind)
      have g := gap' q
      grind
  have lt := lt_far each d hb
  have g := gap q
  have z : ((bodAt hs a).2.1 - (bodAt hs (a + (d + 1))).2.1) * (q - q) = 0 := by
    rw [show q - q = 0 by grind, Rat.mul_zero]
  grind
theorem least_same {l1 l2 : List Rat} (sub : ∀ x ∈ l1, x ∈ l2) (low : ∀ y ∈ l2, ∃ x ∈ l1, x ≤ y) : leastQ l1 = leastQ l2 := by
  cases q1 : leastQ l1 with
  | none =>
    have e := least_none.mp q1
    subst e
    cases q2 : leastQ l2 with
    | none => rfl
    | some m =>
      obtain ⟨x, hx, _⟩ := low m (least_some q2).1
      cases hx
  | some m1 =>
    obtain ⟨h1, h2⟩ := least_some q1
    cases q2 : leastQ l2 with
    | none =>
      have e := least_none.mp q2
      subst e
      have := sub m1 h1
      cases this
    | some m2 =>
      obtain ⟨g1, g2⟩ := least_some q2
      have z1 := g2 m1 (sub m1 h1)
      obtain ⟨x, hx, lx⟩ := low m2 g1
      have z2 := h2 x hx
      rw [show m1 = m2 by grind]
noncomputable def parsR (hs : List Bod) (l j : Nat) : List Rat := (List.range j).filterMap fun k => jntQ (bodAt hs k) (bodAt hs l)
noncomputable def parsA (hs : List Bod) (i : Nat) : List Rat := (List.range i).flatMap fun l => parsR hs l l
theorem parsA_next (hs : List Bod) (i : Nat) : parsA hs (i + 1) = parsA hs i ++ parsR hs i i := by
  unfold parsA
  rw [List.range_succ, List.flatMap_append]
  simp
theorem parsR_none {hs : List Bod} {l j : Nat} (h : jntQ (bodAt hs j) (bodAt hs l) = none) : parsR hs l (j + 1) = parsR hs l j := by
  unfold parsR
  rw [List.range_succ, List.filterMap_append]
  simp [h]
theorem parsR_some {hs : List Bod} {l j : Nat} {q : Rat} (h : jntQ (bodAt hs j) (bodAt hs l) = some q) : parsR hs l (j + 1) = parsR hs l j ++ [q] := by
  unfold parsR
  rw [List.range_succ, List.filterMap_append]
  simp [h]
theorem pars_all {hs : List Bod} {now : Rat} (o : OrdT hs now) : leastQ (parsA hs hs.length) = cmng hs := by
  symm
  unfold cmng
  refine least_same (fun x hx => ?_) (fun y hy => ?_)
  · obtain ⟨k, hk, e⟩ := List.mem_iff_getElem.mp (mem_jn.mp hx)
    have lk : k + 1 < hs.length := by rw [jnts_len] at hk; omega
    have z := jnts_at lk
    rw [List.getElem?_eq_getElem hk, e] at z
    unfold parsA
    rw [List.mem_flatMap]
    refine ⟨k + 1, List.mem_range.mpr lk, ?_⟩
    unfold parsR
    rw [List.mem_filterMap]
    exact ⟨k, List.mem_range.mpr (by omega), (Option.some.inj z).symm⟩
  · unfold parsA at hy
    rw [List.mem_flatMap] at hy
    obtain ⟨l, hl, hy⟩ := hy
    unfold parsR at hy
    rw [List.mem_filterMap] at hy
    obtain ⟨k, hk, e⟩ := hy
    obtain ⟨k', j, hk', e', le⟩ := jnt_far o (List.mem_range.mp hk) (List.mem_range.mp hl) e
    refine ⟨j, mem_jn.mpr ?_, le⟩
    have z := jnts_at hk'
    rw [e'] at z
    exact List.mem_of_getElem? z
end Kw
set_option Elab.async false
set_option linter.all false
set_option maxRecDepth 100000
set_option maxHeartbeats 4000000
namespace Kw
open PySem PySem.Spec PyProof.Rows L2
noncomputable def UpQ (gs : List Bod) (t : Rat) : Prop := ∃ c, cmng gs = some c ∧ c ≤ t
inductive RunT (t : Rat) : List Bod → Rat → Nat → List (Rat × Rat × Nat) → Bool → List Bod → Rat → Prop
  | stop {gs : List Bod} {now : Rat} (h : ¬ UpQ gs t) : RunT t gs now 0 [] false gs now
  | crowd {gs : List Bod} {now c : Rat} (h : cmng gs = some c) (l : c ≤ t) (k : crwQ gs) : RunT t gs now 0 [] true gs now
  | step {gs : List Bod} {now c : Rat} {n : Nat} {ms : List (Rat × Rat × Nat)} {b : Bool} {es : List Bod} {last : Rat} (h : cmng gs = some c) (l : c ≤ t) (k : ¬ crwQ gs) (r : RunT t (onQ gs) c n ms b es last) : RunT t gs now (n + 1) (metsQ gs ++ ms) b es last
section
variable {t : Rat} {gs : List Bod} {now : Rat} {n : Nat} {ms : List (Rat × Rat × Nat)} {b : Bool} {es : List Bod} {last : Rat}
theorem cmng_fb {B : Nat} {c : Rat} (cm : Com B gs) (h : cmng gs = some c) : FB (B + 1) c := by
  obtain ⟨⟨k, hk, ek⟩, _⟩ := cmng_some h
  exact cm.jnt (List.mem_of_getElem? (bodAt_get (by omega))) (List.mem_of_getElem? (bodAt_get hk)) ek
theorem com_on {B : Nat} (cm : Com B gs) (w : ∀ p ∈ gs, 1 ≤ p.2.2 ∧ p.2.2 ≤ 10000) (l12 : gs.length ≤ 12) : Com (B + 180) (onQ gs) := by
  have y := com_fold (leftsQ gs) cm w fun i hi => (lefts_lt hi).1
  have few := lefts_few l12
  exact y.mono (by omega)
end
section
variable {gs : List Bod} {now : Rat} {n : Nat} {cs : List Rat} {b : Bool}
end
end Kw
set_option Elab.async false
set_option linter.all false
set_option maxRecDepth 100000
set_option maxHeartbeats 4000000
namespace Kw
open PySem PySem.Spec PyProof.Rows L2
section
variable {X : Cx}
end
end Kw
set_option Elab.async false
set_option linter.all false
set_option maxRecDepth 100000
set_option maxHeartbeats 4000000
namespace Kw
open PySem PySem.Spec PyProof.Rows L2
noncomputable abbrev Pm := Rat × Rat × Int
noncomputable def toP (m : Rat × Rat × Nat) : Pm := (m.1, m.2.1, (m.2.2 : Int))
noncomputable def RnT (t : Rat) (bs : List Bod) (m : Nat) (ms : List (Rat × Rat × Nat)) (cr : Bool) (es : List Bod) (last : Rat) : Prop := RunT t bs 0 m ms cr es last ∧ m ≤ 8
noncomputable def PmQ (K : PySem.W.Frag) (H : Hp) (v : V) (m : Pm) : Prop := ∃ p a b : Addr, v = .ref p ∧ SqT K H p [.ref a, .ref b, .int m.2.2] ∧ FQ K H a m.1 ∧ FQ K H b m.2.1 ∧ FB 4000 m.1 ∧ FB 4000 m.2.1
section
variable {K : PySem.W.Frag} {H H' : Hp} {v : V} {m : Pm} {as : List Addr}
theorem PmQ.same (h : PmQ K H v m) (s : Same H H') : PmQ K H' v m := by
  obtain ⟨p, a, b, e, h1, h2, h3, h4⟩ := h
  exact ⟨p, a, b, e, Kw.Same.tup s h1, Kw.Same.tup s h2, Kw.Same.tup s h3, h4⟩
noncomputable def LkV (K : PySem.W.Frag) (H : Hp) (v : V) (o : Option (String × Nat)) : Prop := (o = none ∧ v = .non) ∨ ∃ (w : String) (k : Nat) (r : Addr), o = some (w, k) ∧ v = .ref r ∧ SqT K H r [.str w, .int (k : Int)]
theorem LkV.same {o : Option (String × Nat)} (h : LkV K H v o) (s : Same H H') : LkV K H' v o := by
  rcases h with h | ⟨w, k, r, e1, e2, h⟩
  · exact .inl h
  · exact .inr ⟨w, k, r, e1, e2, Kw.Same.tup s h⟩
noncomputable def wdV : Option String → V
  | none => .non
  | some s => .str s
noncomputable def lkD (w : String) (k : Nat) : PyData := .tuple [.str w, .int (k : Int)]
theorem lkD_dp {r : Addr} {w : String} {k : Nat} (h : SqT K H r [.str w, .int (k : Int)]) : Dp K H (.ref r) (lkD w k) := .tup h (.cons (.str _) (.cons (.int _) .nil))
theorem lkD_ok {w : String} (hw : (PyData.str w).canLay0 = true) (k : Nat) : (lkD w k).canLay0 = true ∧ Nat.ble (lkD w k).depth 60 = true := by
  refine ⟨?_, rfl⟩
  show (PyData.canLay0 (.str w) && (PyData.canLay0 (.int (k : Int)) && true)) = true
  rw [hw]
  rfl
end
end Kw
set_option Elab.async false
set_option linter.all false
set_option maxRecDepth 100000
set_option maxHeartbeats 4000000
namespace Kw
open PySem PySem.Spec PyProof.Rows L2
section
variable {t : Rat} {gs : List Bod} {now : Rat} {n : Nat} {ms : List (Rat × Rat × Nat)} {b : Bool} {es : List Bod} {last : Rat}
end
end Kw
set_option Elab.async false
set_option linter.all false
set_option maxRecDepth 100000
set_option maxHeartbeats 4000000
namespace Kw
open PySem PySem.Spec PyProof.Rows L2
section
variable {gs : List Bod} {now : Rat} {n : Nat} {wd : String} {ms : List (Rat × Rat × Nat)} {es : List Bod} {last : Rat}
end
theorem lefts_two {gs : List Bod} (c : ¬ crwQ gs) : ∀ k x, (leftsQ gs)[k]? = some x → 2 * k ≤ x
  | 0, _, _ => by omega
  | k + 1, x, h => by
    obtain ⟨hl, e⟩ := List.getElem?_eq_some_iff.mp h
    have h0 : (leftsQ gs)[k]? = some (leftsQ gs)[k] := List.getElem?_eq_getElem (by omega)
    have ih := lefts_two c k _ h0
    have lt := List.pairwise_iff_getElem.mp (lefts_asc gs) k (k + 1) (by omega) hl (by omega)
    have ap := lefts_apart c (List.mem_of_getElem? h0)
    have ne : x ≠ (leftsQ gs)[k] + 1 := fun z => ap (by rw [← z]; exact List.mem_of_getElem? h)
    rw [e] at lt
    omega
theorem lefts_six {gs : List Bod} (c : ¬ crwQ gs) (l12 : gs.length ≤ 12) : (leftsQ gs).length ≤ 6 := by
  rcases Nat.lt_or_ge 6 (leftsQ gs).length with z | z
  · exfalso
    have h := lefts_two c 6 _ (List.getElem?_eq_getElem z)
    have lt := (lefts_lt (List.mem_of_getElem? (List.getElem?_eq_getElem z))).1
    omega
  · exact z
section
variable {gs : List Bod} {now : Rat} {n : Nat} {wd : String} {ms : List (Rat × Rat × Nat)} {es : List Bod} {last : Rat}
end
end Kw
set_option Elab.async false
set_option linter.all false
set_option maxRecDepth 100000
set_option maxHeartbeats 4000000
namespace Kw
open PySem PySem.Spec PyProof.Rows L2
end Kw
set_option Elab.async false
set_option linter.all false
set_option maxRecDepth 100000
set_option maxHeartbeats 4000000
namespace Kw
open PySem PySem.Spec PyProof.Rows L2
section
variable {t : Rat}
end
end Kw
set_option Elab.async false
set_option linter.all false
set_option maxRecDepth 100000
set_option maxHeartbeats 4000000
namespace Kw
open PySem PySem.Spec PyProof.Rows L2
end Kw
set_option Elab.async false
set_option linter.all false
set_option maxRecDepth 100000
set_option maxHeartbeats 4000000
namespace Kw
open PySem PySem.Spec PyProof.Rows L2
section
variable {t : Rat} {gs : List Bod} {now : Rat} {n : Nat} {ms : List (Rat × Rat × Nat)} {es : List Bod} {last : Rat}
end
end Kw
namespace Kw
open PySem PySem.Spec PyProof.Rows L2
end Kw
set_option Elab.async false
set_option linter.all false
set_option maxRecDepth 100000
set_option maxHeartbeats 4000000
namespace Kw
open PySem PySem.Spec PyProof.Rows L2
section
variable {X : Cx} {pos : Pos} {k v : Expr} {x : Str} {te : TE}
end
end Kw
set_option Elab.async false
set_option linter.all false
set_option maxRecDepth 100000
set_option maxHeartbeats 4000000
namespace Kw
open PySem PySem.Spec PyProof.Rows L2
noncomputable def wwdO (ps : List (Option Pm)) (k : Nat) (m : Rat × Rat × Nat) : Option String := match ps[k]? with
  | none => some "fewer"
  | some none => some "form"
  | some (some p) => if p.1 = m.1 then (if p.2.1 = m.2.1 then (if p.2.2 = (m.2.2 : Int) then none else some "number") else some "place") else some "moment"
noncomputable def fbadO (ps : List (Option Pm)) : List (Rat × Rat × Nat) → Nat → Option (String × Nat)
  | [], _ => none
  | m :: ms, k => match wwdO ps k m with
    | some w => some (w, k)
    | none => fbadO ps ms (k + 1)
theorem fbadO_cons (ps : List (Option Pm)) (m : Rat × Rat × Nat) (ms : List (Rat × Rat × Nat)) (k : Nat) : fbadO ps (m :: ms) k = (match wwdO ps k m with | some w => some (w, k) | none => fbadO ps ms (k + 1)) := rfl
noncomputable def lookO (ms : List (Rat × Rat × Nat)) (cr : Bool) (ps : List (Option Pm)) : Option (String × Nat) := match fbadO ps ms 0 with
  | some x => some x
  | none => if cr = true then some ("crowd", ms.length) else if ms.length < ps.length then some ("more", ms.length) else none
theorem fbadO_app (ps : List (Option Pm)) : ∀ (ms1 ms2 : List (Rat × Rat × Nat)) (k : Nat), fbadO ps (ms1 ++ ms2) k = (match fbadO ps ms1 k with | some x => some x | none => fbadO ps ms2 (k + ms1.length))
  | [], ms2, k => by
    show fbadO ps ms2 k = fbadO ps ms2 (k + 0)
    rfl
  | m :: ms1, ms2, k => by
    show fbadO ps (m :: (ms1 ++ ms2)) k = _
    rw [fbadO_cons, fbadO_cons]
    cases q : wwdO ps k m with
    | some w => rfl
    | none =>
      show fbadO ps (ms1 ++ ms2) (k + 1) = (match fbadO ps ms1 (k + 1) with | some x => some x | none => fbadO ps ms2 (k + (m :: ms1).length))
      rw [fbadO_app ps ms1 ms2 (k + 1), List.length_cons, show k + (ms1.length + 1) = k + 1 + ms1.length by omega]
theorem fbadO_hit {ps : List (Option Pm)} {ms1 ms2 : List (Rat × Rat × Nat)} {m : Rat × Rat × Nat} {w : String} (h : fbadO ps ms1 0 = none) (hw : wwdO ps ms1.length m = some w) : fbadO ps (ms1 ++ m :: ms2) 0 = some (w, ms1.length) := by
  rw [fbadO_app, h]
  show fbadO ps (m :: ms2) (0 + ms1.length) = _
  rw [Nat.zero_add, fbadO_cons, hw]
theorem fbadO_snoc {ps : List (Option Pm)} {ms1 : List (Rat × Rat × Nat)} {m : Rat × Rat × Nat} (h : fbadO ps ms1 0 = none) (hw : wwdO ps ms1.length m = none) : fbadO ps (ms1 ++ [m]) 0 = none := by
  rw [fbadO_app, h]
  show fbadO ps [m] (0 + ms1.length) = _
  rw [Nat.zero_add, fbadO_cons, hw]
  rfl
section
variable {K : PySem.W.Frag} {H H' : Hp} {v x : V} {c : Bool} {m : Pm} {o : Option Pm}
noncomputable def FrB (K : PySem.W.Frag) (H : Hp) (x : V) (c : Bool) : Prop := (c = false ∧ ∃ t, TyOf K H x t ∧ PySem.W.kitOne K t (.type "tuple") = some false) ∨ ∃ p i j, x = .ref p ∧ SqT K H p [.int i, .int j] ∧ Bd 4000 j ∧ c = (decide (1 ≤ j) && decide (((Int.gcd i j : Nat) : Int) = 1))
noncomputable def WhB (K : PySem.W.Frag) (H : Hp) (x : V) (c : Bool) : Prop := ∃ t b1 b2, TyOf K H x t ∧ PySem.W.kitOne K t (.type "int") = some b1 ∧ PySem.W.kitOne K t (.type "bool") = some b2 ∧ (b1 && !b2) = c
noncomputable def OddT (K : PySem.W.Frag) (H : Hp) (v : V) : Prop := (Pl v ∧ ∃ t, TyOf K H v t ∧ PySem.W.kitOne K t (.type "tuple") = some false) ∨ (∃ p xs, v = .ref p ∧ SqT K H p xs ∧ xs.length ≠ 3) ∨
  ∃ p x y z bx by' bz, v = .ref p ∧ SqT K H p [x, y, z] ∧ FrB K H x bx ∧ FrB K H y by' ∧ WhB K H z bz ∧ (bx && (by' && bz)) = false
noncomputable def PtQ (K : PySem.W.Frag) (H : Hp) (v : V) : Option Pm → Prop
  | some m => PmQ K H v m
  | none => OddT K H v
theorem FrB.same (h : FrB K H x c) (s : Same H H') : FrB K H' x c := by
  rcases h with ⟨e, t, h1, h2⟩ | ⟨p, i, j, e, h1, h2, h3⟩
  · exact .inl ⟨e, t, Kw.TyOf.same h1 s, h2⟩
  · exact .inr ⟨p, i, j, e, Kw.Same.tup s h1, h2, h3⟩
theorem WhB.same (h : WhB K H x c) (s : Same H H') : WhB K H' x c := by
  obtain ⟨t, b1, b2, h1, h2⟩ := h
  exact ⟨t, b1, b2, Kw.TyOf.same h1 s, h2⟩
theorem OddT.same (h : OddT K H v) (s : Same H H') : OddT K H' v := by
  rcases h with ⟨e, t, h1, h2⟩ | ⟨p, xs, e, h1, h2⟩ | ⟨p, x, y, z, bx, bY, bz, e, h1, h2, h3, h4, h5⟩
  · exact .inl ⟨e, t, Kw.TyOf.same h1 s, h2⟩
  · exact .inr (.inl ⟨p, xs, e, Kw.Same.tup s h1, h2⟩)
  · exact .inr (.inr ⟨p, x, y, z, bx, bY, bz, e, Kw.Same.tup s h1, h2.same s, h3.same s, h4.same s, h5⟩)
theorem PtQ.same (h : PtQ K H v o) (s : Same H H') : PtQ K H' v o := by
  cases o with
  | none => exact OddT.same h s
  | some m => exact PmQ.same h s
theorem pts_same {vs : List V} {ps : List (Option Pm)} (h : Al2 (PtQ K H) vs ps) (s : Same H H') : Al2 (PtQ K H') vs ps := Al2.imp (fun _ _ z => PtQ.same z s) h
theorem pts_of : ∀ {vs : List V}, (∀ z ∈ vs, ∃ o, PtQ K H z o) → ∃ ps : List (Option Pm), Al2 (PtQ K H) vs ps
  | [], _ => ⟨[], trivial⟩
  | v :: vs, h => by
    obtain ⟨o, ho⟩ := h v (List.mem_cons_self ..)
    obtain ⟨ps, hps⟩ := pts_of (vs := vs) fun z hz => h z (List.mem_cons_of_mem _ hz)
    exact ⟨o :: ps, ho, hps⟩
theorem FrB.ofFQ {p : Addr} {q : Rat} (h : FQ K H p q) (d : FB 4000 q) : FrB K H (.ref p) true := by
  refine .inr ⟨p, q.num, ((q.den : Nat) : Int), rfl, h, d.2, ?_⟩
  have g1 : Int.gcd q.num ((q.den : Nat) : Int) = 1 := q.reduced
  have d1 : (1 : Int) ≤ ((q.den : Nat) : Int) := by have := q.den_pos; omega
  rw [g1, decide_eq_true d1]
  rfl
noncomputable def wdO : Option String → V
  | none => .str ""
  | some s => .str s
noncomputable def OkW (o : Option String) : Prop := ∀ w : String, o = some w → V.str w ≠ V.str "" ∧ (PyData.str w).canLay0 = true
theorem wwdO_ok (ps : List (Option Pm)) (k : Nat) (mt : Rat × Rat × Nat) : OkW (wwdO ps k mt) := by
  intro w h
  have key : w = "fewer" ∨ w = "form" ∨ w = "moment" ∨ w = "place" ∨ w = "number" := by
    unfold wwdO at h
    split at h
    · cases h; exact .inl rfl
    · cases h; exact .inr (.inl rfl)
    · split at h
      · split at h
        · split at h
          · cases h
          · cases h; exact .inr (.inr (.inr (.inr rfl)))
        · cases h; exact .inr (.inr (.inr (.inl rfl)))
      · cases h; exact .inr (.inr (.inl rfl))
  rcases key with e | e | e | e | e <;> (subst e; exact ⟨by decide, by decide +kernel⟩)
theorem fbadO_ok (ps : List (Option Pm)) : ∀ (ms : List (Rat × Rat × Nat)) (k : Nat) (w : String) (n : Nat), fbadO ps ms k = some (w, n) → (PyData.str w).canLay0 = true
  | [], _, _, _, h => nomatch h
  | m :: ms, k, w, n, h => by
    rw [fbadO_cons] at h
    cases q : wwdO ps k m with
    | some w' =>
      rw [q] at h
      cases h
      exact (wwdO_ok ps k m w q).2
    | none =>
      rw [q] at h
      exact fbadO_ok ps ms (k + 1) w n h
theorem lookO_ok {ms : List (Rat × Rat × Nat)} {cr : Bool} {ps : List (Option Pm)} {w : String} {n : Nat} (h : lookO ms cr ps = some (w, n)) : (PyData.str w).canLay0 = true := by
  unfold lookO at h
  split at h
  · next e => cases h; exact fbadO_ok ps ms 0 w n e
  · split at h
    · cases h; decide +kernel
    · split at h
      · cases h; decide +kernel
      · cases h
theorem all_app {P : V → Prop} {xs ys : List V} (h1 : ∀ z ∈ xs, P z) (h2 : ∀ z ∈ ys, P z) : ∀ z ∈ xs ++ ys, P z := fun z hz => (List.mem_append.mp hz).elim (h1 z) (h2 z)
theorem all_cut {P : V → Prop} {xs : List V} (lo hi : Option Int) (h : ∀ z ∈ xs, P z) : ∀ z ∈ cutV xs lo hi, P z := fun z hz => h z (cut_sub hz)
theorem all_one {P : V → Prop} {x : V} (h : P x) : ∀ z ∈ [x], P z := fun z hz => by rw [List.mem_singleton.mp hz]; exact h
noncomputable def Thg (K : PySem.W.Frag) (H : Hp) (z : V) : Prop := ∃ o, PtQ K H z o
theorem Thg.odd (h : OddT K H v) : Thg K H v := ⟨none, h⟩
theorem Thg.non : Thg K H .non := .odd (.inl ⟨trivial, _, .non, kit_non_tup⟩)
end
end Kw
set_option Elab.async false
set_option linter.all false
set_option maxRecDepth 100000
set_option maxHeartbeats 4000000
namespace Kw
open PySem PySem.Spec PyProof.Rows L2
end Kw
set_option Elab.async false
set_option linter.all false
set_option maxRecDepth 100000
set_option maxHeartbeats 4000000
namespace Kw
open PySem PySem.Spec PyProof.Rows L2
section
variable {K : PySem.W.Frag} {H H' : Hp} {n m s r : Nat} {x : V} {b : Bod} {as : List Addr}
end
section
variable {K : PySem.W.Frag} {H H' : Hp} {v u : V} {o o' : Option Rat} {as : List Addr}
end
noncomputable def MtX (K : PySem.W.Frag) (H : Hp) (v : V) (m : Rat × Rat × Nat) : Prop := ∃ p a b : Addr, v = .ref p ∧ SqT K H p [.ref a, .ref b, .int (m.2.2 : Int)] ∧ FQ K H a m.1 ∧ FQ K H b m.2.1 ∧ FB 2900 m.1 ∧ FB 6900 m.2.1
section
variable {K : PySem.W.Frag} {H H' : Hp} {v : V} {m : Rat × Rat × Nat} {as : List Addr}
theorem MtX.same (h : MtX K H v m) (s : Same H H') : MtX K H' v m := by
  obtain ⟨p, a, b, e, h1, h2, h3, d⟩ := h
  exact ⟨p, a, b, e, Kw.Same.tup s h1, Kw.Same.tup s h2, Kw.Same.tup s h3, d⟩
theorem MtX.buts (h : MtX K H v m) (s : Buts as H H') (n : NoT as H) : MtX K H' v m := by
  obtain ⟨p, a, b, e, h1, h2, h3, d⟩ := h
  exact ⟨p, a, b, e, s.tup n h1, s.tup n h2, s.tup n h3, d⟩
theorem mtx_same {vs : List V} {ms : List (Rat × Rat × Nat)} (h : Al2 (MtX K H) vs ms) (s : Same H H') : Al2 (MtX K H') vs ms := Al2.imp (fun _ _ z => z.same s) h
theorem mtx_buts {vs : List V} {ms : List (Rat × Rat × Nat)} (h : Al2 (MtX K H) vs ms) (s : Buts as H H') (n : NoT as H) : Al2 (MtX K H') vs ms := Al2.imp (fun _ _ z => z.buts s n) h
end
end Kw
set_option Elab.async false
set_option linter.all false
set_option maxRecDepth 100000
set_option maxHeartbeats 4000000
namespace Kw
open PySem PySem.Spec PyProof.Rows L2
theorem nopy_top {x y : Int} (h : x.natAbs.log2 < 13500) : Builtin.divisionGoesByPylong x y = false := by
  have key : (if x == 0 then 0 else x.natAbs.log2 / 30 + 1) ≤ 450 := by
    by_cases hx : (x == 0) = true
    · rw [if_pos hx]; exact Nat.zero_le _
    · rw [if_neg hx]; omega
  show (decide ((if y == 0 then 0 else y.natAbs.log2 / 30 + 1) > 300) && decide ((if x == 0 then 0 else x.natAbs.log2 / 30 + 1) > (if y == 0 then 0 else y.natAbs.log2 / 30 + 1) + 150)) = false
  by_cases c : (if y == 0 then 0 else y.natAbs.log2 / 30 + 1) > 300
  · rw [decide_eq_false (show ¬ ((if x == 0 then 0 else x.natAbs.log2 / 30 + 1) > (if y == 0 then 0 else y.natAbs.log2 / 30 + 1) + 150) by omega), Bool.and_false]
  · rw [decide_eq_false c, Bool.false_and]
section
variable {X : Cx}
noncomputable def CDivE (i j : Int) : Prop := j ≠ 0 ∧ (j.natAbs.log2 < 9000 ∨ i.natAbs.log2 < 13500)
theorem op_fdivE : OpR X (binaryOp .FloorDiv) (rI CDivE fun i j => .int (i.fdiv j)) := opI fun _ _ _ _ _ _ _ hc q => floordiv_int hc.1 q (.inl (hc.2.elim PyProof.noPylong_of_log2 nopy_top))
end
theorem Bd.logE {i : Int} (h : Bd 13500 i) : i.natAbs.log2 < 13500 := by
  by_cases h0 : i.natAbs = 0
  · rw [h0]; decide +kernel
  · exact (Nat.log2_lt h0).mpr h
noncomputable def FitD (a b : Int) : Prop := Bd 9000 b ∨ (Bd 13500 a ∧ Bd 13500 b)
theorem FitD.top {a b : Int} (h : FitD a b) (b0 : b ≠ 0) : CDivE a (dv a b) := ⟨dv_ne b0, h.elim (fun z => .inl (bd_dv (t := a) b0 z).log) fun z => .inr z.1.logE⟩
theorem FitD.bot {a b : Int} (h : FitD a b) (b0 : b ≠ 0) : CDivE b (dv a b) := ⟨dv_ne b0, h.elim (fun z => .inl (bd_dv (t := a) b0 z).log) fun z => .inr z.2.logE⟩
noncomputable def spFitE : Sp := fun vs H Q _ => ∃ a b : Int, vs = [.int a, .int b] ∧ b ≠ 0 ∧ FitD a b ∧ Frac a b H Q
theorem com_plc {B B' : Nat} {gs : List Bod} (h : Com B gs) {a : Bod} (ha : a ∈ gs) {t : Rat} (dt : FB B' t) : FB (B + B' + 1) (plcQ a t) := by
  obtain ⟨D, d1, dB, al⟩ := h
  obtain ⟨n, k, e1, e2, b1, b2⟩ := al a ha
  have p : 2 ^ (B + B' + 1) = 2 ^ B * 2 ^ B' * 2 := by rw [Nat.pow_succ, Nat.pow_add]
  have t1 : t.num.natAbs < 2 ^ B' := dt.1
  have t2 : t.den < 2 ^ B' := by have := dt.2; exact this
  have e : plcQ a t = ((n * (t.den : Int) + k * t.num : Int) : Rat) / ((D * t.den : Nat) : Rat) := by
    unfold plcQ
    rw [e1, e2]
    have D0 := rat_ne d1
    have T0 := rat_ne t.den_pos
    have et : t = (t.num : Rat) / ((t.den : Nat) : Rat) := by
      have z := Rat.num_divInt_den t
      rw [q_dv] at z
      exact z.symm
    have c1 : ((D * t.den : Nat) : Rat) = (D : Rat) * ((t.den : Nat) : Rat) := by rw [Rat.natCast_mul]
    have c2 : (((t.den : Nat) : Int) : Rat) = ((t.den : Nat) : Rat) := rfl
    rw [c1, Rat.intCast_add, Rat.intCast_mul, Rat.intCast_mul, c2]
    generalize ((t.den : Nat) : Rat) = dd at *
    generalize (t.num : Rat) = nn at *
    rw [et]
    rw [Rat.div_def, Rat.div_def, Rat.div_def, Rat.div_def, inv_two D0 T0]
    have i1 := Rat.mul_inv_cancel _ D0
    have i2 := Rat.mul_inv_cancel _ T0
    grind
  rw [e]
  have m1 : n.natAbs * t.den ≤ 2 ^ B * 2 ^ B' := Nat.mul_le_mul (by omega) (by omega)
  have m2 : k.natAbs * t.num.natAbs ≤ 2 ^ B * 2 ^ B' := Nat.mul_le_mul (by omega) (by omega)
  have m3 : n.natAbs * t.den < 2 ^ B * 2 ^ B' := Nat.lt_of_le_of_lt (Nat.mul_le_mul_left _ (Nat.le_of_lt t2)) (Nat.mul_lt_mul_of_pos_right b1 (Nat.pow_pos (by decide)))
  have m4 : D * t.den < 2 ^ B * 2 ^ B' := Nat.lt_of_le_of_lt (Nat.mul_le_mul_left _ (Nat.le_of_lt t2)) (Nat.mul_lt_mul_of_pos_right dB (Nat.pow_pos (by decide)))
  refine com_fb (Nat.mul_pos d1 t.den_pos) (by rw [p]; omega) ?_
  have z := Int.natAbs_add_le (n * (t.den : Int)) (k * t.num)
  rw [Int.natAbs_mul, Int.natAbs_mul, Int.natAbs_natCast] at z
  rw [p]
  omega
theorem com_dif {B B' : Nat} {gs : List Bod} (h : Com B gs) {a b : Bod} (ha : a ∈ gs) (hb : b ∈ gs) {t : Rat} (dt : FB B' t) : FB (B + B' + 2) (plcQ b t - plcQ a t) := by
  have h2 : Com (B + 1) [(b.1 - a.1, b.2.1 - a.2.1, (1 : Int))] := by
    obtain ⟨D, d1, dB, al⟩ := h
    obtain ⟨n, k, e1, e2, b1, b2⟩ := al a ha
    obtain ⟨n', k', e1', e2', b1', b2'⟩ := al b hb
    have p : 2 ^ (B + 1) = 2 ^ B * 2 := Nat.pow_succ ..
    refine ⟨D, d1, by omega, fun c hc => ?_⟩
    rw [List.mem_singleton.mp hc]
    refine ⟨n' - n, k' - k, ?_, ?_, by omega, by omega⟩
    · show b.1 - a.1 = _
      rw [e1, e1', Rat.intCast_sub, Rat.div_def, Rat.div_def, Rat.div_def]
      grind
    · show b.2.1 - a.2.1 = _
      rw [e2, e2', Rat.intCast_sub, Rat.div_def, Rat.div_def, Rat.div_def]
      grind
  have z := com_plc h2 (List.mem_singleton.mpr rfl) dt
  have e : plcQ (b.1 - a.1, b.2.1 - a.2.1, (1 : Int)) t = plcQ b t - plcQ a t := by
    unfold plcQ
    dsimp only
    grind
  rw [e] at z
  exact z.mono (by omega)
theorem com_spd {B : Nat} {gs : List Bod} (h : Com B gs) {a b : Bod} (ha : a ∈ gs) (hb : b ∈ gs) : FB (B + 1) (a.2.1 - b.2.1) := by
  obtain ⟨D, d1, dB, al⟩ := h
  obtain ⟨n, k, e1, e2, b1, b2⟩ := al a ha
  obtain ⟨n', k', e1', e2', b1', b2'⟩ := al b hb
  have p : 2 ^ (B + 1) = 2 ^ B * 2 := Nat.pow_succ ..
  have e : a.2.1 - b.2.1 = ((k - k' : Int) : Rat) / (D : Rat) := by
    rw [e2, e2', Rat.intCast_sub, Rat.div_def, Rat.div_def, Rat.div_def]
    grind
  rw [e]
  exact com_fb d1 (by omega) (by omega)
theorem Com.part12 {B : Nat} {gs : List Bod} (h : Com B gs) (hw : ∀ b ∈ gs, 1 ≤ b.2.2 ∧ b.2.2 ≤ 1000) {i : Nat} (hi : i + 1 < gs.length) : Com (B + 12) (partQ gs i) := by
  obtain ⟨D, d1, dB, al⟩ := h
  have ma : bodAt gs i ∈ gs := List.mem_of_getElem? (bodAt_get (by omega))
  have mb : bodAt gs (i + 1) ∈ gs := List.mem_of_getElem? (bodAt_get hi)
  obtain ⟨m, em⟩ : ∃ m : Nat, (bodAt gs i).2.2 = (m : Int) := ⟨(bodAt gs i).2.2.toNat, by have := hw _ ma; omega⟩
  obtain ⟨u, eu⟩ : ∃ u : Nat, (bodAt gs (i + 1)).2.2 = (u : Int) := ⟨(bodAt gs (i + 1)).2.2.toNat, by have := hw _ mb; omega⟩
  have wm := hw _ ma
  have wu := hw _ mb
  rw [em] at wm
  rw [eu] at wu
  have p : 2 ^ (B + 12) = 2 ^ B * 4096 := Nat.pow_add ..
  have mix : ∀ (a b : Nat) (n n' : Int), 1 ≤ a → a ≤ 1000 → 1 ≤ b → b ≤ 1000 → n.natAbs < 2 ^ B → n'.natAbs < 2 ^ B → (((a : Int) - b) * n + 2 * b * n').natAbs < 2 ^ (B + 12) := fun a b n n' a1 a2 b1 b2 h1 h2 => by
    have z1 : (((a : Int) - b) * n).natAbs ≤ 1000 * n.natAbs := by
      rw [Int.natAbs_mul]
      exact Nat.mul_le_mul_right _ (by omega)
    have z2 : (2 * (b : Int) * n').natAbs ≤ 2000 * n'.natAbs := by
      rw [Int.natAbs_mul]
      exact Nat.mul_le_mul_right _ (by omega)
    have z3 := Int.natAbs_add_le (((a : Int) - b) * n) (2 * b * n')
    omega
  have val : ∀ (a b : Nat) (x y : Rat) (n n' : Int), 1 ≤ a → 1 ≤ b → x = (n : Rat) / (D : Rat) → y = (n' : Rat) / (D : Rat) → mixQ x y (a : Int) (b : Int) = ((((a : Int) - b) * n + 2 * b * n' : Int) : Rat) / ((D * (a + b) : Nat) : Rat) := fun a b x y n n' a1 b1 e1 e2 => by
    rw [mixQ_eq, e1, e2]
    have ab : ((a + b : Nat) : Rat) ≠ 0 := rat_ne (by omega)
    have D0 := rat_ne d1
    have c1 : ((D * (a + b) : Nat) : Rat) = (D : Rat) * ((a : Rat) + (b : Rat)) := by push_cast; rfl
    have c2 : ((a + b : Nat) : Rat) = (a : Rat) + (b : Rat) := by push_cast; rfl
    have c3 : (((a : Int)) : Rat) = (a : Rat) := rfl
    have c4 : (((b : Int)) : Rat) = (b : Rat) := rfl
    rw [c1, Rat.intCast_add, Rat.intCast_mul, Rat.intCast_mul, Rat.intCast_sub, Rat.intCast_mul, c3, c4]
    rw [c2] at ab
    have two : ((2 : Int) : Rat) = 2 := rfl
    rw [two]
    rw [Rat.div_def, Rat.div_def, Rat.div_def, Rat.div_def, Rat.div_def, inv_two D0 ab]
    have i1 := Rat.mul_inv_cancel _ ab
    have i2 := Rat.mul_inv_cancel _ D0
    grind
  refine ⟨D * (m + u), Nat.mul_pos d1 (by omega), ?_, fun c hc => ?_⟩
  · rw [p]
    exact Nat.lt_of_lt_of_le (Nat.mul_lt_mul_of_pos_right dB (by omega)) (Nat.mul_le_mul_left _ (by omega))
  · unfold partQ at hc
    obtain ⟨na, ka, ea1, ea2, ba1, ba2⟩ := al _ ma
    obtain ⟨nb, kb, eb1, eb2, bb1, bb2⟩ := al _ mb
    rcases mem_set hc with hc | rfl
    · rcases mem_set hc with hc | rfl
      · obtain ⟨n, k, e1, e2, b1, b2⟩ := al c hc
        have D0 := rat_ne d1
        have s0 : ((m + u : Nat) : Rat) ≠ 0 := rat_ne (by omega)
        have up : ∀ n : Int, (n : Rat) / (D : Rat) = ((n * ((m + u : Nat) : Int) : Int) : Rat) / ((D * (m + u) : Nat) : Rat) := fun n => by
          have c1 : ((D * (m + u) : Nat) : Rat) = (D : Rat) * ((m + u : Nat) : Rat) := by rw [Rat.natCast_mul]
          have c2 : (((m + u : Nat) : Int) : Rat) = ((m + u : Nat) : Rat) := rfl
          rw [c1, Rat.intCast_mul, c2]
          rw [Rat.div_def, Rat.div_def, inv_two D0 s0]
          have i1 := Rat.mul_inv_cancel _ s0
          grind
        have bd : ∀ n : Int, n.natAbs < 2 ^ B → (n * ((m + u : Nat) : Int)).natAbs < 2 ^ (B + 12) := fun n h => by
          rw [Int.natAbs_mul, Int.natAbs_natCast, p]
          exact Nat.lt_of_lt_of_le (Nat.mul_lt_mul_of_pos_right h (by omega)) (Nat.mul_le_mul_left _ (by omega))
        exact ⟨_, _, by rw [e1]; exact up n, by rw [e2]; exact up k, bd n b1, bd k b2⟩
      · refine ⟨((m : Int) - u) * na + 2 * u * nb, ((m : Int) - u) * ka + 2 * u * kb, ?_, ?_, mix m u na nb (by omega) (by omega) (by omega) (by omega) ba1 bb1, mix m u ka kb (by omega) (by omega) (by omega) (by omega) ba2 bb2⟩
        · show mixQ _ _ (bodAt gs i).2.2 (bodAt gs (i + 1)).2.2 = _
          rw [em, eu]
          exact val m u _ _ na nb (by omega) (by omega) ea1 eb1
        · show mixQ _ _ (bodAt gs i).2.2 (bodAt gs (i + 1)).2.2 = _
          rw [em, eu]
          exact val m u _ _ ka kb (by omega) (by omega) ea2 eb2
    · have cm : m + u = u + m := Nat.add_comm ..
      rw [cm]
      refine ⟨((u : Int) - m) * nb + 2 * m * na, ((u : Int) - m) * kb + 2 * m * ka, ?_, ?_, mix u m nb na (by omega) (by omega) (by omega) (by omega) bb1 ba1, mix u m kb ka (by omega) (by omega) (by omega) (by omega) bb2 ba2⟩
      · show mixQ _ _ (bodAt gs (i + 1)).2.2 (bodAt gs i).2.2 = _
        rw [em, eu]
        exact val u m _ _ nb na (by omega) (by omega) eb1 ea1
      · show mixQ _ _ (bodAt gs (i + 1)).2.2 (bodAt gs i).2.2 = _
        rw [em, eu]
        exact val u m _ _ kb ka (by omega) (by omega) eb2 ea2
noncomputable def LtW (gs : List Bod) : Prop := ∀ p ∈ gs, 1 ≤ p.2.2 ∧ p.2.2 ≤ 1000
theorem com_fold12 : ∀ (l : List Nat) {B : Nat} {gs : List Bod}, Com B gs → LtW gs → (∀ i ∈ l, i + 1 < gs.length) → Com (B + 12 * l.length) (l.foldl partQ gs)
  | [], _, _, h, _, _ => h
  | i :: l, B, gs, h, hw, hl => by
    have hi := hl i (List.mem_cons_self ..)
    have w1 : LtW (partQ gs i) := fold_P (P := fun z => 1 ≤ z ∧ z ≤ 1000) [i] hw fun k hk => by rw [List.mem_singleton.mp hk]; exact hi
    have z := com_fold12 l (h.part12 hw hi) w1 fun k hk => by rw [partQ_len]; exact hl k (List.mem_cons_of_mem _ hk)
    rw [List.length_cons, show B + 12 * (l.length + 1) = B + 12 + 12 * l.length by omega]
    exact z
theorem on_ltw {gs : List Bod} (hw : LtW gs) : LtW (onQ gs) := fold_P (P := fun z => 1 ≤ z ∧ z ≤ 1000) (leftsQ gs) hw fun i hi => (lefts_lt hi).1
theorem LtW.w {gs : List Bod} (hw : LtW gs) : ∀ p ∈ gs, 1 ≤ p.2.2 ∧ p.2.2 ≤ 10000 := fun p hp => ⟨(hw p hp).1, by have := (hw p hp).2; omega⟩
theorem lefts_new {gs : List Bod} {now t : Rat} (o : OrdT gs now) (h : cmng gs = some t) (c : ¬ crwQ gs) (hw : LtW gs) {i : Nat} (hi : i ∈ leftsQ gs) : i ∉ leftsQ (onQ gs) := fun z => by
  have tu := on_turned o h c hw.w hi
  have e1 := ((mem_lefts h).mp hi).2
  have v := (jnt_gap e1).1
  cases q : cmng (onQ gs) with
  | none =>
    rw [lefts_is, q, if_pos rfl] at z
    cases z
  | some u =>
    have e2 := ((mem_lefts q).mp z).2
    have v2 := (jnt_gap e2).1
    grind
theorem nodup_few : ∀ (n : Nat) (l : List Nat), l.Nodup → (∀ i ∈ l, i < n) → l.length ≤ n := fun n l nd h => by
  have z : l ⊆ List.range n := fun i hi => List.mem_range.mpr (h i hi)
  have := List.Nodup.length_le_of_subset nd z
  rwa [List.length_range] at this
theorem lefts_both {gs : List Bod} {now t : Rat} (o : OrdT gs now) (h : cmng gs = some t) (c : ¬ crwQ gs) (hw : LtW gs) (l12 : gs.length ≤ 12) : (leftsQ gs).length + (leftsQ (onQ gs)).length ≤ 11 := by
  have nd : (leftsQ gs ++ leftsQ (onQ gs)).Nodup := List.nodup_append.mpr ⟨lefts_nodup _, lefts_nodup _, fun a ha b hb e => lefts_new o h c hw ha (e ▸ hb)⟩
  have z := nodup_few 11 _ nd fun i hi => by
    rcases List.mem_append.mp hi with hi | hi
    · have := (lefts_lt hi).1
      omega
    · have := (lefts_lt hi).1
      rw [on_len] at this
      omega
  rwa [List.length_append] at z
noncomputable def PrC (gs : List Bod) (i : Nat) (c : Nat) : Prop := Com (30 + 12 * c) gs ∧ LtW gs ∧ 2 * c ≤ 11 * i + 6 ∧ (¬ crwQ gs → 2 * c + (leftsQ gs).length ≤ 11 * i + 6)
theorem PrC.start {gs : List Bod} (h : Com 30 gs) (hw : LtW gs) (l12 : gs.length ≤ 12) : PrC gs 0 0 := ⟨h, hw, by omega, fun c => by have := lefts_six c l12; omega⟩
theorem PrC.on {gs : List Bod} {now t : Rat} {i c : Nat} (p : PrC gs i c) (o : OrdT gs now) (h : cmng gs = some t) (n : ¬ crwQ gs) (l12 : gs.length ≤ 12) : PrC (onQ gs) (i + 1) (c + (leftsQ gs).length) := by
  obtain ⟨cm, hw, l, k⟩ := p
  have z := lefts_both o h n hw l12
  have k' := k n
  have cf := com_fold12 (leftsQ gs) cm hw fun i hi => (lefts_lt hi).1
  refine ⟨?_, on_ltw hw, by omega, fun _ => by omega⟩
  rw [show 30 + 12 * (c + (leftsQ gs).length) = 30 + 12 * c + 12 * (leftsQ gs).length by omega]
  exact cf
noncomputable def LongQ (t : Rat) : Nat → List Bod → Prop
  | 0, gs => UpQ gs t
  | n + 1, gs => UpQ gs t ∧ ¬ crwQ gs ∧ LongQ t n (onQ gs)
theorem long_or (t : Rat) : ∀ (n : Nat) (gs : List Bod) (now : Rat), ¬ LongQ t n gs → ∃ m ms cr es last, RunT t gs now m ms cr es last ∧ m ≤ n
  | 0, gs, now, h => ⟨0, [], false, gs, now, .stop h, Nat.le_refl _⟩
  | n + 1, gs, now, h => by
    by_cases u : UpQ gs t
    · by_cases c : crwQ gs
      · obtain ⟨q, hq, lq⟩ := u
        exact ⟨0, [], true, gs, now, .crowd hq lq c, Nat.zero_le _⟩
      · obtain ⟨q, hq, lq⟩ := id u
        obtain ⟨m, ms, cr, es, last, r, l⟩ := long_or t n (onQ gs) q fun z => h ⟨u, c, z⟩
        exact ⟨m + 1, metsQ gs ++ ms, cr, es, last, .step hq lq c r, by omega⟩
    · exact ⟨0, [], false, gs, now, .stop u, Nat.zero_le _⟩
theorem RunT.mets2 {t : Rat} {gs : List Bod} {now : Rat} {n : Nat} {ms : List (Rat × Rat × Nat)} {b : Bool} {es : List Bod} {last : Rat} (r : RunT t gs now n ms b es last) : ∀ {B : Nat}, Com B gs → (∀ p ∈ gs, 1 ≤ p.2.2 ∧ p.2.2 ≤ 10000) → gs.length ≤ 12 → ∀ m ∈ ms, FB (B + 180 * n + 1) m.1 ∧ FB (2 * (B + 180 * n) + 2) m.2.1 := by
  induction r with
  | stop => exact fun _ _ _ _ h => nomatch h
  | crowd => exact fun _ _ _ _ h => nomatch h
  | @step gs now c n ms b es last h l k r ih =>
    intro B cm w l12 m hm
    rcases List.mem_append.mp hm with hm | hm
    · unfold metsQ at hm
      rw [h] at hm
      obtain ⟨i, hi, rfl⟩ := List.mem_map.mp hm
      have lt := (lefts_lt hi).1
      have fc := cmng_fb cm h
      exact ⟨fc.mono (by omega), (com_plc cm (List.mem_of_getElem? (bodAt_get (show i < gs.length by omega))) fc).mono (by omega)⟩
    · have z := ih (com_on cm w l12) (on_w w) (by rw [on_len]; exact l12) m hm
      exact ⟨z.1.mono (by omega), z.2.mono (by omega)⟩
theorem long_end {t c : Rat} {gs : List Bod} (h : cmng gs = some c) : (!decide (t < c)) = true ↔ LongQ t 0 gs := by
  have e : LongQ t 0 gs ↔ c ≤ t := ⟨fun ⟨c', h', l⟩ => by rw [h] at h'; cases h'; exact l, fun l => ⟨c, h, l⟩⟩
  rw [e]
  by_cases z : t < c
  · rw [decide_eq_true z]
    exact ⟨fun y => (nomatch y), fun y => absurd z (by grind)⟩
  · rw [decide_eq_false z]
    exact ⟨fun _ => by grind, fun _ => rfl⟩
theorem near_nn {x : Rat} (h : 0 ≤ x) : 0 ≤ x * ((99 : Int) : Rat) / ((100 : Int) : Rat) := by
  have a : ((99 : Int) : Rat) = 99 := rfl
  have b : ((100 : Int) : Rat) = 100 := rfl
  rw [a, b]
  grind
theorem six_int2 : Six 12 ((2 : Int) : Rat) := ⟨12, by
  have a : ((2 : Int) : Rat) = 2 := rfl
  have b : ((12 : Int) : Rat) = 12 := rfl
  rw [a, b]
  grind, by decide, by decide⟩
section
variable {K : PySem.W.Frag} {H H' : Hp}
theorem pts_thg : ∀ {vs : List V} {ps : List (Option Pm)}, Al2 (PtQ K H) vs ps → ∀ z ∈ vs, Thg K H z
  | [], _, _, _, hz => nomatch hz
  | _ :: _, [], h, _, _ => h.elim
  | v :: vs, p :: ps, h, z, hz => by
    rcases List.mem_cons.mp hz with rfl | hz
    · exact ⟨p, h.1⟩
    · exact pts_thg h.2 z hz
theorem mtx_pts : ∀ {vs : List V} {ms : List (Rat × Rat × Nat)}, Al2 (MtX K H) vs ms → (∀ m ∈ ms, FB 4000 m.1 ∧ FB 4000 m.2.1) → Al2 (PtQ K H) vs (ms.map fun m => some (toP m))
  | [], [], _, _ => trivial
  | [], _ :: _, h, _ => h.elim
  | _ :: _, [], h, _ => h.elim
  | v :: vs, m :: ms, h, f => by
    obtain ⟨⟨p, a, b, e, h1, h2, h3, _⟩, r⟩ := h
    have z := f m (List.mem_cons_self ..)
    exact ⟨⟨p, a, b, e, h1, h2, h3, z.1, z.2⟩, mtx_pts r fun m' hm' => f m' (List.mem_cons_of_mem _ hm')⟩
noncomputable def PaQ (K : PySem.W.Frag) (H : Hp) (v : V) : Prop := ∃ (p : Addr) (zs : List V) (ps : List (Option Pm)), v = .ref p ∧ H p = some (.lst zs) ∧ Al2 (PtQ K H) zs ps
theorem PaQ.of {p : Addr} {zs : List V} (h : H p = some (.lst zs)) (al : ∀ z ∈ zs, Thg K H z) : PaQ K H (.ref p) := by
  obtain ⟨ps, e⟩ := pts_of al
  exact ⟨p, zs, ps, rfl, h, e⟩
theorem PaQ.same {v : V} (h : PaQ K H v) (s : Same H H') : PaQ K H' v := by
  obtain ⟨p, zs, ps, e, h1, h2⟩ := h
  exact ⟨p, zs, ps, e, s _ _ h1, pts_same h2 s⟩
end
theorem PrC.com {gs : List Bod} {i c : Nat} (p : PrC gs i c) (l : i ≤ 39) : Com 2646 gs := p.1.mono (by have := p.2.2.1; omega)
end Kw
set_option Elab.async false
set_option linter.all false
set_option maxRecDepth 100000
set_option maxHeartbeats 4000000
namespace Prf
open PySem PySem.Spec PyProof.Rows L2 Kw
noncomputable def top (i : Nat) : Stmt := PySem.Challenge.pw_knockwright_k33_papers_of_crowds.main.body.getD i (.Pass ⟨0, 0, 0, 0⟩)
structure Tx (K : PySem.W.Frag) (mg : Str → Option Value) (C : Nat → Addr) : Prop where
  b_isinstance : mg "isinstance" = none
  b_int : mg "int" = none
  b_bool : mg "bool" = none
  b_tuple : mg "tuple" = none
  b_list : mg "list" = none
  b_abs : mg "abs" = none
  b_len : mg "len" = none
  b_divmod : mg "divmod" = none
  b_range : mg "range" = none
  b_max : mg "max" = none
  b_min : mg "min" = none
  b_enumerate : mg "enumerate" = none
  c_Course : mg "Course" = some (.ref (C 0))
  cl_Course : Cls K (C 0)
  mk_Course : PySem.W.makesIn K (C 0) = true
  kp_Course : PySem.W.keepIn K (.ref (C 0)) = true
  n_Course_goings : NoAttr K (C 0) "goings"
  n_Course_share : NoAttr K (C 0) "share"
  n_Course_now : NoAttr K (C 0) "now"
  n_Course_gone_through : NoAttr K (C 0) "gone_through"
  n_Course_joints : NoAttr K (C 0) "joints"
  n_Course_coming : NoAttr K (C 0) "coming"
  k_LONG_BITS : ∃ t, mg "LONG_BITS" = some (.int 4000 t)
  k_NOUGHT : ∃ N, mg "NOUGHT" = some (.ref N) ∧ ∀ H, SqT K H N [.int 0, .int 1]
  k_ALL : ∃ N, mg "ALL" = some (.ref N) ∧ ∀ H, SqT K H N [.int 1, .int 1]
  k_MOST_MOMENTS : ∃ t, mg "MOST_MOMENTS" = some (.int 40 t)
section
variable {P : Program} {w : World} {K : PySem.W.Frag} {mg : Str → Option Value} {base : Heap} {C : Nat → Addr}
theorem sc_is_whole : FnScope ["thing"] ["thing"] (defScope (top 10)) := ⟨rfl, rfl, rfl, by decide +kernel, rfl, by decide +kernel, by decide +kernel⟩
theorem ok_is_whole (D : Df K mg "is_whole" (top 10) ["thing"]) (T : Tx K mg C) : Fn P w K mg base 1 "is_whole" ["thing"] (spWhole K) := by
  refine D.ok0 sc_is_whole (fun vs H Q E h => ?_) (fun f cdv A outer s H vs Q E hr h => ?_)
  · obtain ⟨x, t, b1, b2, rfl, _⟩ := h
    rfl
  obtain ⟨x, t, b1, b2, rfl, ty, k1, k2, q⟩ := h
  refine ⟨_, (pss_one (ps_ret (pe_and (pe_callB call_isinst (by rfl) T.b_isinstance PyProof.Rows.Boot.«isinstance» (pa_cons (pv 0) (pa_cons (pe_bty (by rfl) T.b_int PyProof.Rows.Boot.«int») pa_nil))) (pe_one (pe_not (pe_callB call_isinst (by rfl) T.b_isinstance PyProof.Rows.Boot.«isinstance» (pa_cons (pv 0) (pa_cons (pe_bty (by rfl) T.b_bool PyProof.Rows.Boot.«bool») pa_nil)))))))), ?_⟩
  refine ⟨_, rfl, x, _, b1, rfl, .inl ⟨_, rfl⟩, ⟨t, ty, k1⟩, b1, rfl, ?_⟩
  cases b1 with
  | false => exact iteF q
  | true => exact iteT ⟨_, rfl, x, _, b2, rfl, .inl ⟨_, rfl⟩, ⟨t, ty, k2⟩, b2, rfl, q⟩
theorem sc_common_divisor : FnScope ["one", "other", "great", "small", "steps", "rest"] ["one", "other"] (defScope (top 12)) := ⟨rfl, rfl, rfl, by decide +kernel, rfl, by decide +kernel, by decide +kernel⟩
theorem ok_common_divisor (D : Df K mg "common_divisor" (top 12) ["one", "other"]) (T : Tx K mg C) : Fn P w K mg base 1 "common_divisor" ["one", "other"] spGcdB := by
  refine D.ok0 sc_common_divisor (fun vs H Q E h => ?_) (fun f cdv A outer s H vs Q E hr h => ?_)
  · obtain ⟨a, b, rfl, _⟩ := h
    rfl
  obtain ⟨a, b, rfl, hb, q⟩ := h
  refine ⟨_, (pss_cons (ps_set (i := 2) sc_common_divisor.nd rfl (Or.inl rfl) (pe_callB call_abs (by rfl) T.b_abs PyProof.Rows.Boot.«abs» (pa_cons (pv 0) pa_nil)))
      (pss_cons (ps_set (i := 3) sc_common_divisor.nd rfl (Or.inl rfl) (pe_callB call_abs (by rfl) T.b_abs PyProof.Rows.Boot.«abs» (pa_cons (pv 1) pa_nil)))
      (pss_cons (ps_while PassesOwn.never (pt_cmpR op_gt (pe_bm0 PySem.F.plainAttrs_int PySem.F.slot_int_bit_length PySem.F.type_int_bit_length mt_bits (pe_callB (call_min2 rfl) (by rfl) T.b_min PyProof.Rows.Boot.«min» (pa_cons (pv 2) (pa_cons (pv 3) pa_nil)))) (pe_globI (by rfl) T.k_LONG_BITS) (nomark _)) pss_never)
      (pss_cons (ps_while PassesOwn.never (pt_cmpR op_gt (pv 3) pe_int (nomark _)) (pss_cons (ps_set (i := 5) sc_common_divisor.nd rfl (Or.inl rfl) (pe_op op_mod (pv 2) (pv 3)))
      (pss_cons (ps_set (i := 2) sc_common_divisor.nd rfl (Or.inl rfl) (pv 3))
      (pss_one (ps_set (i := 3) sc_common_divisor.nd rfl (Or.inl rfl) (pv 5))))))
      (pss_one (ps_ret (pv 2))))))), ?_⟩
  refine ⟨_, rfl, _, rfl, _, rfl, _, rfl, ?_⟩
  refine ⟨fun m σ' H' => ∃ r1 r2 : Option V, σ' = [some (.int a), some (.int b), some (.int (if a < 0 then -a else a)), some (.int (if b < 0 then -b else b)), r1, r2] ∧ H' = H, ⟨0, _, _, rfl, rfl⟩, ?_⟩
  rintro m σ' H' ⟨r1, r2, rfl, rfl⟩
  refine ⟨_, rfl, _, rfl, _, _, rfl, rfl, _, rfl, rfl, _, _, rfl, rfl, _, rfl, ?_⟩
  refine if_dec (fun c => absurd c (short_min hb)) (fun _ => ?_)
  refine ⟨fun m σ' H2 => ∃ g s : Int, ∃ r1 r2 : Option V, σ' = [some (.int a), some (.int b), some (.int g), some (.int s), r1, r2] ∧ H2 = H' ∧ 0 ≤ g ∧ 0 ≤ s ∧ m = s.toNat ∧ Int.gcd g s = Int.gcd a b, ⟨_, _, _, _, _, rfl, rfl, abs_nn a, abs_nn b, rfl, gcd_abs a b⟩, ?_⟩
  rintro m σ' H2 ⟨g, s, r1, r2, rfl, rfl, hg, hs, rfl, e⟩
  refine ⟨_, rfl, _, _, rfl, rfl, _, rfl, ?_⟩
  refine if_dec (fun c => ?_) (fun c => ?_)
  · refine ⟨_, fun _ _ n => n, ?_⟩
    refine ⟨_, rfl, _, rfl, _, _, rfl, rfl, c, _, rfl, _, rfl, ?_⟩
    have l := Int.emod_lt_of_pos g c
    have l0 := Int.emod_nonneg g (show s ≠ 0 by omega)
    exact ⟨_, by omega, s, g % s, _, _, rfl, rfl, by omega, l0, rfl, (gcd_step g s hg c).trans e⟩
  · refine ⟨_, rfl, ?_⟩
    have s0 : s = 0 := by omega
    subst s0
    have z := gcd_end g hg
    rw [e] at z
    rw [← z]
    exact q
noncomputable def sp_fraction (K : PySem.W.Frag) : Sp := fun vs H Q _ => ∃ (a : Int) (b : Int), vs = [.int a, .int b] ∧ Bd 4000 b ∧ b ≠ 0 ∧ (∀ (p_r : Addr) (H1 : Hp), Same H H1 → FQ K H1 p_r (Rat.divInt a b) → Q (.ref p_r) H1)
theorem sc_fraction : FnScope ["top", "bottom", "divisor"] ["top", "bottom"] (defScope (top 14)) := ⟨rfl, rfl, rfl, by decide +kernel, rfl, by decide +kernel, by decide +kernel⟩
theorem ok_fraction (D : Df K mg "fraction" (top 14) ["top", "bottom"]) (T : Tx K mg C) (F_is_whole : Fn P w K mg base 1 "is_whole" ["thing"] (spWhole K)) (F_common_divisor : Fn P w K mg base 1 "common_divisor" ["one", "other"] spGcdB) :
    Fn P w K mg base 2 "fraction" ["top", "bottom"] (sp_fraction K) := by
  refine D.ok0 sc_fraction (fun vs H Q E h => ?_) (fun f cdv A outer s H vs Q E hr h => ?_)
  · obtain ⟨a, b, rfl, _⟩ := h
    rfl
  obtain ⟨a, b, rfl, hb, c, hq⟩ := h
  refine ⟨_, (pss_cons (ps_if (pw_or (pt_not (pt_val (pe_fn F_is_whole (by decide) hr (by rfl) passE0 (pa_cons (pv 0) pa_nil)) (fun _ => rfl))) (pw_or1 (pt_not (pt_val (pe_fn F_is_whole (by decide) hr (by rfl) passE0 (pa_cons (pv 1) pa_nil)) (fun _ => rfl))))).pt (pss_one ps_never) pss_nil)
      (pss_cons (ps_if (pt_cmpR op_eq (pv 1) pe_int (nomark _)) (pss_one ps_never) pss_nil)
      (pss_cons (ps_set (i := 2) sc_fraction.nd rfl (Or.inl rfl) (pe_fn F_common_divisor (by decide) hr (by rfl) passE0 (pa_cons (pv 0) (pa_cons (pv 1) pa_nil))))
      (pss_cons (ps_if (pt_cmpR op_lt (pv 1) pe_int (nomark _)) (pss_one (ps_set (i := 2) sc_fraction.nd rfl (Or.inl rfl) (pe_un un_neg (pv 2)))) pss_nil)
      (pss_one (ps_ret (pe_tup (pa_cons (pe_op op_fdivB (pv 0) (pv 2)) (pa_cons (pe_op op_fdivB (pv 1) (pv 2)) pa_nil))))))))), ?_⟩
  refine ⟨_, rfl, _, _, true, false, rfl, .int a, kit_int_int, kit_int_bool, _, rfl, ?_⟩
  refine iteF ⟨_, rfl, _, _, true, false, rfl, .int b, kit_int_int, kit_int_bool, _, rfl, ?_⟩
  refine iteF ⟨_, rfl, rfl, _, rfl, ?_⟩
  refine if_decI (fun z => absurd z c) (fun _ => ?_)
  refine ⟨_, rfl, _, rfl, a, b, rfl, hb, ?_⟩
  have hd : (if b < 0 then -((Int.gcd a b : Nat) : Int) else ((Int.gcd a b : Nat) : Int)) = dv a b := rfl
  have lg := (bd_dv (t := a) c (hb.mono (n := 9000) (by decide))).log
  refine ⟨_, rfl, _, _, rfl, rfl, _, rfl, ?_⟩
  refine if_dec (fun n => ?_) (fun n => ?_)
  · rw [if_pos n] at hd
    refine ⟨_, rfl, _, rfl, ?_⟩
    dsimp only
    rw [hd]
    refine ⟨_, rfl, _, rfl, _, _, rfl, rfl, ⟨dv_ne c, lg⟩, _, rfl, _, rfl, _, _, rfl, rfl, ⟨dv_ne c, lg⟩, by show 2 ≤ sizeLine; decide, ?_⟩
    exact rd_new fun p H' sm hp => hq p H' sm (FQ.fit c (SqT.of hp))
  · rw [if_neg n] at hd
    rw [hd]
    refine ⟨_, rfl, _, rfl, _, _, rfl, rfl, ⟨dv_ne c, lg⟩, _, rfl, _, rfl, _, _, rfl, rfl, ⟨dv_ne c, lg⟩, by show 2 ≤ sizeLine; decide, ?_⟩
    exact rd_new fun p H' sm hp => hq p H' sm (FQ.fit c (SqT.of hp))
noncomputable def sp_plus (K : PySem.W.Frag) : Sp := fun vs H Q _ => ∃ (p_x : Addr) (x : Rat) (p_y : Addr) (y : Rat), vs = [.ref p_x, .ref p_y] ∧ FQ K H p_x x ∧ FB 8900 x ∧ FQ K H p_y y ∧ FB 4000 y ∧ (∀ (p_r : Addr) (H1 : Hp), Same H H1 → FQ K H1 p_r (x + y) → Q (.ref p_r) H1)
theorem sc_plus : FnScope ["one", "other", "shared", "top", "divisor"] ["one", "other"] (defScope (top 15)) := ⟨rfl, rfl, rfl, by decide +kernel, rfl, by decide +kernel, by decide +kernel⟩
theorem ok_plus (D : Df K mg "plus" (top 15) ["one", "other"]) (T : Tx K mg C) (F_common_divisor : Fn P w K mg base 1 "common_divisor" ["one", "other"] spGcdB) : Fn P w K mg base 2 "plus" ["one", "other"] (sp_plus K) := by
  refine D.ok0 sc_plus (fun vs H Q E h => ?_) (fun f cdv A outer s H vs Q E hr h => ?_)
  · obtain ⟨p, x, q, y, rfl, _⟩ := h
    rfl
  obtain ⟨p, x, q, y, rfl, hp, ⟨ha, hb⟩, hq, ⟨hc, hd⟩, k⟩ := h
  refine ⟨_, (pss_cons (ps_set (i := 2) sc_plus.nd rfl (Or.inl rfl) (pe_fn F_common_divisor (by decide) hr (by rfl) passE0 (pa_cons (pe_ix ix_tup (pv 0) pe_int (fun _ _ => rfl)) (pa_cons (pe_ix ix_tup (pv 1) pe_int (fun _ _ => rfl)) pa_nil))))
      (pss_cons (ps_set (i := 3) sc_plus.nd rfl (Or.inl rfl) (pe_op op_add (pe_op op_mulB (pe_ix ix_tup (pv 0) pe_int (fun _ _ => rfl)) (pe_op op_fdivB (pe_ix ix_tup (pv 1) pe_int (fun _ _ => rfl)) (pv 2))) (pe_op op_mulB (pe_ix ix_tup (pv 1) pe_int (fun _ _ => rfl)) (pe_op op_fdivB (pe_ix ix_tup (pv 0) pe_int (fun _ _ => rfl)) (pv 2)))))
      (pss_cons (ps_set (i := 4) sc_plus.nd rfl (Or.inl rfl) (pe_fn F_common_divisor (by decide) hr (by rfl) passE0 (pa_cons (pv 3) (pa_cons (pv 2) pa_nil))))
      (pss_one (ps_ret (pe_tup (pa_cons (pe_op op_fdivB (pv 3) (pv 4)) (pa_cons (pe_op op_mulB (pe_op op_fdivB (pe_ix ix_tup (pv 0) pe_int (fun _ _ => rfl)) (pv 2)) (pe_op op_fdivB (pe_ix ix_tup (pv 1) pe_int (fun _ _ => rfl)) (pv 4))) pa_nil)))))))), ?_⟩
  refine ⟨_, rfl, p, _, _, _, rfl, rfl, hp, rfl, _, rfl, q, _, _, _, rfl, rfl, hq, rfl, _, _, rfl, hd, ?_⟩
  have g0 := gpos (a := ((x.den : Nat) : Int)) (q_ne y)
  have bg := bd_gcdR (a := ((x.den : Nat) : Int)) (q_ne y) hd
  have dg1 : (((Int.gcd ((x.den : Nat) : Int) ((y.den : Nat) : Int) : Nat) : Int)) ∣ ((x.den : Nat) : Int) := Int.gcd_dvd_left ..
  have dg2 : (((Int.gcd ((x.den : Nat) : Int) ((y.den : Nat) : Int) : Nat) : Int)) ∣ ((y.den : Nat) : Int) := Int.gcd_dvd_right ..
  generalize hg : ((Int.gcd ((x.den : Nat) : Int) ((y.den : Nat) : Int) : Nat) : Int) = g at g0 bg dg1 dg2 ⊢
  have g1 : g ≠ 0 := by omega
  have lg := (bg.mono (n := 9000) (by decide)).log
  have b1 := bd_quot hd dg2 g1
  have b2 := bd_quot hb dg1 g1
  refine ⟨_, rfl, p, _, _, _, rfl, rfl, hp, rfl, _, rfl, q, _, _, _, rfl, rfl, hq, rfl, _, rfl, _, _, rfl, rfl, ⟨g1, lg⟩, _, _, rfl, rfl, ha.ok b1 (by decide), _, rfl, q, _, _, _, rfl, rfl, hq, rfl, _, rfl, p, _, _, _, rfl, rfl, hp, rfl, _, rfl, _, _, rfl, rfl, ⟨g1, lg⟩, _, _, rfl, rfl, hc.ok b2 (by decide), _, _, rfl, rfl, ?_⟩
  dsimp only
  have bt := (ha.mul b1).add (hc.mul b2)
  generalize ht : x.num * ((y.den : Nat) : Int).fdiv g + y.num * ((x.den : Nat) : Int).fdiv g = t at bt ⊢
  refine ⟨_, rfl, _, rfl, _, _, rfl, bg, ?_⟩
  have h0 := gpos (a := t) g1
  have bh := bd_gcdR (a := t) g1 bg
  have dh : ((Int.gcd t g : Nat) : Int) ∣ g := Int.gcd_dvd_right ..
  generalize hh : ((Int.gcd t g : Nat) : Int) = h at h0 bh dh ⊢
  have h1 : h ≠ 0 := by omega
  have lh := (bh.mono (n := 9000) (by decide)).log
  have b3 := bd_quot hd (Int.dvd_trans dh dg2) h1
  refine ⟨_, rfl, _, rfl, _, _, rfl, rfl, ⟨h1, lh⟩, _, rfl, p, _, _, _, rfl, rfl, hp, rfl, _, rfl, _, _, rfl, rfl, ⟨g1, lg⟩, _, rfl, q, _, _, _, rfl, rfl, hq, rfl, _, rfl, _, _, rfl, rfl, ⟨h1, lh⟩, _, _, rfl, rfl, b2.ok b3 (by decide), by show 2 ≤ sizeLine; decide, ?_⟩
  refine rd_new fun r H1 sm hr1 => k r H1 sm ?_
  obtain ⟨e1, e2⟩ := q_plus x y g t h hg.symm ht.symm hh.symm
  have z := SqT.of (K := K) hr1
  dsimp only at z
  rw [e1, e2] at z
  exact z
noncomputable def sp_minus (K : PySem.W.Frag) : Sp := fun vs H Q _ => ∃ (p_x : Addr) (x : Rat) (p_y : Addr) (y : Rat), vs = [.ref p_x, .ref p_y] ∧ FQ K H p_x x ∧ FB 8900 x ∧ FQ K H p_y y ∧ FB 4000 y ∧ (∀ (p_r : Addr) (H1 : Hp), Same H H1 → FQ K H1 p_r (x - y) → Q (.ref p_r) H1)
theorem sc_minus : FnScope ["one", "other"] ["one", "other"] (defScope (top 16)) := ⟨rfl, rfl, rfl, by decide +kernel, rfl, by decide +kernel, by decide +kernel⟩
theorem ok_minus (D : Df K mg "minus" (top 16) ["one", "other"]) (T : Tx K mg C) (F_plus : Fn P w K mg base 2 "plus" ["one", "other"] (sp_plus K)) : Fn P w K mg base 3 "minus" ["one", "other"] (sp_minus K) := by
  refine D.ok0 sc_minus (fun vs H Q E h => ?_) (fun f cdv A outer s H vs Q E hr h => ?_)
  · obtain ⟨p_x, x, p_y, y, rfl, _⟩ := h
    rfl
  obtain ⟨p_x, x, p_y, y, rfl, g_x, d_x, g_y, d_y, k0⟩ := h
  refine ⟨_, (pss_one (ps_ret (pe_fn F_plus (by decide) hr (by rfl) passE0 (pa_cons (pv 0) (pa_cons (pe_tup (pa_cons (pe_un un_neg (pe_ix ix_tup (pv 1) pe_int (fun _ _ => rfl))) (pa_cons (pe_ix ix_tup (pv 1) pe_int (fun _ _ => rfl)) pa_nil))) pa_nil))))), ?_⟩
  refine ⟨_, rfl, _, rfl, p_y, _, _, _, rfl, rfl, g_y, rfl, _, rfl, _, rfl, p_y, _, _, _, rfl, rfl, g_y, rfl, by show 2 ≤ sizeLine; decide, ?_⟩
  intro p1 n1
  obtain ⟨H1, q1, s1, e1⟩ := newO n1 (.tup [.int ((-(y).num)), .int ((((y).den : Nat) : Int))])
  rw [q1]
  clear q1
  have h1 := SqT.of (K := K) e1
  have g1 : FQ K H1 p1 (-(y)) := by exact FQ.ofNeg h1 (by omega)
  replace g_x := (Kw.Same.tup s1 g_x)
  refine ⟨_, _, _, _, rfl, g_x, (FB.mono d_x (by decide)), g1, (FB.mono (FB.neg d_y) (by decide)), fun p_r2 H2 s2 g_r2 => ?_⟩
  have d_r2 : FB 12901 (x + ((-(y)))) := (FB.mono (FB.add d_x (FB.neg d_y)) (by decide))
  have e3 : ((x + ((-(y)))) : Rat) = x - y := by grind
  exact k0 _ _ (s1.trans s2) (FQ.cast g_r2 e3)
noncomputable def sp_times (K : PySem.W.Frag) : Sp := fun vs H Q _ => ∃ (p_x : Addr) (x : Rat) (p_y : Addr) (y : Rat), vs = [.ref p_x, .ref p_y] ∧ FQ K H p_x x ∧ FB 4000 x ∧ FQ K H p_y y ∧ FB 4000 y ∧ (∀ (p_r : Addr) (H1 : Hp), Same H H1 → FQ K H1 p_r (x * y) → Q (.ref p_r) H1)
theorem sc_times : FnScope ["one", "other", "first", "second"] ["one", "other"] (defScope (top 17)) := ⟨rfl, rfl, rfl, by decide +kernel, rfl, by decide +kernel, by decide +kernel⟩
theorem ok_times (D : Df K mg "times" (top 17) ["one", "other"]) (T : Tx K mg C) (F_common_divisor : Fn P w K mg base 1 "common_divisor" ["one", "other"] spGcdB) : Fn P w K mg base 2 "times" ["one", "other"] (sp_times K) := by
  refine D.ok0 sc_times (fun vs H Q E h => ?_) (fun f cdv A outer s H vs Q E hr h => ?_)
  · obtain ⟨p, x, q, y, rfl, _⟩ := h
    rfl
  obtain ⟨p, x, q, y, rfl, hp, ⟨ha, hb⟩, hq, ⟨hc, hd⟩, k⟩ := h
  refine ⟨_, (pss_cons (ps_set (i := 2) sc_times.nd rfl (Or.inl rfl) (pe_fn F_common_divisor (by decide) hr (by rfl) passE0 (pa_cons (pe_ix ix_tup (pv 0) pe_int (fun _ _ => rfl)) (pa_cons (pe_ix ix_tup (pv 1) pe_int (fun _ _ => rfl)) pa_nil))))
      (pss_cons (ps_set (i := 3) sc_times.nd rfl (Or.inl rfl) (pe_fn F_common_divisor (by decide) hr (by rfl) passE0 (pa_cons (pe_ix ix_tup (pv 1) pe_int (fun _ _ => rfl)) (pa_cons (pe_ix ix_tup (pv 0) pe_int (fun _ _ => rfl)) pa_nil))))
      (pss_one (ps_ret (pe_tup (pa_cons (pe_op op_mulB (pe_op op_fdivB (pe_ix ix_tup (pv 0) pe_int (fun _ _ => rfl)) (pv 2)) (pe_op op_fdivB (pe_ix ix_tup (pv 1) pe_int (fun _ _ => rfl)) (pv 3))) (pa_cons (pe_op op_mulB (pe_op op_fdivB (pe_ix ix_tup (pv 0) pe_int (fun _ _ => rfl)) (pv 3)) (pe_op op_fdivB (pe_ix ix_tup (pv 1) pe_int (fun _ _ => rfl)) (pv 2))) pa_nil))))))), ?_⟩
  refine ⟨_, rfl, p, _, _, _, rfl, rfl, hp, rfl, _, rfl, q, _, _, _, rfl, rfl, hq, rfl, _, _, rfl, hd, ?_⟩
  have f0 := gpos (a := x.num) (q_ne y)
  have bf := bd_gcdR (a := x.num) (q_ne y) hd
  have df1 : ((Int.gcd x.num ((y.den : Nat) : Int) : Nat) : Int) ∣ x.num := Int.gcd_dvd_left ..
  have df2 : ((Int.gcd x.num ((y.den : Nat) : Int) : Nat) : Int) ∣ ((y.den : Nat) : Int) := Int.gcd_dvd_right ..
  generalize hf : ((Int.gcd x.num ((y.den : Nat) : Int) : Nat) : Int) = f1 at f0 bf df1 df2 ⊢
  refine ⟨_, rfl, q, _, _, _, rfl, rfl, hq, rfl, _, rfl, p, _, _, _, rfl, rfl, hp, rfl, _, _, rfl, hb, ?_⟩
  have s0 := gpos (a := y.num) (q_ne x)
  have bs := bd_gcdR (a := y.num) (q_ne x) hb
  have ds1 : ((Int.gcd y.num ((x.den : Nat) : Int) : Nat) : Int) ∣ y.num := Int.gcd_dvd_left ..
  have ds2 : ((Int.gcd y.num ((x.den : Nat) : Int) : Nat) : Int) ∣ ((x.den : Nat) : Int) := Int.gcd_dvd_right ..
  generalize hs : ((Int.gcd y.num ((x.den : Nat) : Int) : Nat) : Int) = s1 at s0 bs ds1 ds2 ⊢
  have f1' : f1 ≠ 0 := by omega
  have s1' : s1 ≠ 0 := by omega
  have lf := (bf.mono (n := 9000) (by decide)).log
  have ls := (bs.mono (n := 9000) (by decide)).log
  refine ⟨_, rfl, p, _, _, _, rfl, rfl, hp, rfl, _, rfl, _, _, rfl, rfl, ⟨f1', lf⟩, _, rfl, q, _, _, _, rfl, rfl, hq, rfl, _, rfl, _, _, rfl, rfl, ⟨s1', ls⟩, _, _, rfl, rfl, (bd_quot ha df1 f1').ok (bd_quot hc ds1 s1') (by decide), _, rfl, p, _, _, _, rfl, rfl, hp, rfl, _, rfl, _, _, rfl, rfl, ⟨s1', ls⟩, _, rfl, q, _, _, _, rfl, rfl, hq, rfl, _, rfl, _, _, rfl, rfl, ⟨f1', lf⟩, _, _, rfl, rfl, (bd_quot hb ds2 s1').ok (bd_quot hd df2 f1') (by decide), by show 2 ≤ sizeLine; decide, ?_⟩
  refine rd_new fun r H1 sm hr1 => k r H1 sm ?_
  obtain ⟨e1, e2⟩ := q_times x y f1 s1 hf.symm hs.symm
  have z := SqT.of (K := K) hr1
  dsimp only at z
  rw [e1, e2] at z
  exact z
noncomputable def sp_over (K : PySem.W.Frag) : Sp := fun vs H Q _ => ∃ (p_x : Addr) (x : Rat) (p_y : Addr) (y : Rat), vs = [.ref p_x, .ref p_y] ∧ FQ K H p_x x ∧ FB 4000 x ∧ FQ K H p_y y ∧ FB 4000 y ∧ y ≠ 0 ∧ (∀ (p_r : Addr) (H1 : Hp), Same H H1 → FQ K H1 p_r (x / y) → Q (.ref p_r) H1)
theorem sc_over : FnScope ["one", "other", "flipped"] ["one", "other"] (defScope (top 18)) := ⟨rfl, rfl, rfl, by decide +kernel, rfl, by decide +kernel, by decide +kernel⟩
theorem ok_over (D : Df K mg "over" (top 18) ["one", "other"]) (T : Tx K mg C) (F_times : Fn P w K mg base 2 "times" ["one", "other"] (sp_times K)) : Fn P w K mg base 3 "over" ["one", "other"] (sp_over K) := by
  refine D.ok0 sc_over (fun vs H Q E h => ?_) (fun f cdv A outer s H vs Q E hr h => ?_)
  · obtain ⟨p, x, q, y, rfl, _⟩ := h
    rfl
  obtain ⟨p, x, q, y, rfl, hp, dx, hq, dy, y0, k⟩ := h
  refine ⟨_, (pss_cons (ps_if (pt_cmpR op_eq (pe_ix ix_tup (pv 1) pe_int (fun _ _ => rfl)) pe_int (nomark _)) (pss_one ps_never) pss_nil)
      (pss_cons (ps_set (i := 2) sc_over.nd rfl (Or.inl rfl) (pe_ifExp (pt_cmpR op_gt (pe_ix ix_tup (pv 1) pe_int (fun _ _ => rfl)) pe_int (nomark _)) (pe_tup (pa_cons (pe_ix ix_tup (pv 1) pe_int (fun _ _ => rfl)) (pa_cons (pe_ix ix_tup (pv 1) pe_int (fun _ _ => rfl)) pa_nil))) (pe_tup (pa_cons (pe_un un_neg (pe_ix ix_tup (pv 1) pe_int (fun _ _ => rfl))) (pa_cons (pe_un un_neg (pe_ix ix_tup (pv 1) pe_int (fun _ _ => rfl))) pa_nil)))))
      (pss_one (ps_ret (pe_fn F_times (by decide) hr (by rfl) passE0 (pa_cons (pv 0) (pa_cons (pv 2) pa_nil))))))), ?_⟩
  have n0 := q_num_ne y0
  refine ⟨_, rfl, q, _, _, _, rfl, rfl, hq, rfl, rfl, _, rfl, ?_⟩
  refine if_decI (fun z => absurd z n0) (fun _ => ?_)
  refine ⟨_, rfl, q, _, _, _, rfl, rfl, hq, rfl, _, _, rfl, rfl, _, rfl, ?_⟩
  refine if_dec (fun c => ?_) (fun c => ?_)
  · refine ⟨_, rfl, q, _, _, _, rfl, rfl, hq, rfl, _, rfl, q, _, _, _, rfl, rfl, hq, rfl, by show 2 ≤ sizeLine; decide, ?_⟩
    intro p1 n1
    obtain ⟨H1, q1, s1, e1⟩ := newO n1 (.tup [.int ((y.den : Nat) : Int), .int y.num])
    rw [q1]
    clear q1
    have g1 : FQ K H1 p1 y⁻¹ := by
      have z := SqT.of (K := K) e1
      rw [← (q_invp c).1, ← (q_invp c).2] at z
      exact z
    refine ⟨_, rfl, _, rfl, p, x, p1, y⁻¹, rfl, Kw.Same.tup s1 hp, dx, g1, FB.inv dy y0, fun r H3 s3 g3 => ?_⟩
    exact k r H3 (s1.trans s3) (g3.cast (Rat.div_def x y).symm)
  · have c' : y.num < 0 := by omega
    refine ⟨_, rfl, q, _, _, _, rfl, rfl, hq, rfl, _, rfl, _, rfl, q, _, _, _, rfl, rfl, hq, rfl, _, rfl, by show 2 ≤ sizeLine; decide, ?_⟩
    intro p2 n2
    obtain ⟨H2, q2, s2, e2⟩ := newO n2 (.tup [.int (-((y.den : Nat) : Int)), .int (-y.num)])
    rw [q2]
    clear q2
    have g1 : FQ K H2 p2 y⁻¹ := by
      have z := SqT.of (K := K) e2
      rw [← (q_invn c').1, ← (q_invn c').2] at z
      exact z
    refine ⟨_, rfl, _, rfl, p, x, p2, y⁻¹, rfl, Kw.Same.tup s2 hp, dx, g1, FB.inv dy y0, fun r H3 s3 g3 => ?_⟩
    exact k r H3 (s2.trans s3) (g3.cast (Rat.div_def x y).symm)
noncomputable def sp_under (K : PySem.W.Frag) : Sp := fun vs H Q _ => ∃ (p_x : Addr) (x : Rat) (p_y : Addr) (y : Rat), vs = [.ref p_x, .ref p_y] ∧ FQ K H p_x x ∧ FB 8900 x ∧ FQ K H p_y y ∧ FB 8900 y ∧ (∀  (H1 : Hp), Same H H1 → Q (.bl (decide (x < y))) H1)
theorem sc_under : FnScope ["one", "other"] ["one", "other"] (defScope (top 19)) := ⟨rfl, rfl, rfl, by decide +kernel, rfl, by decide +kernel, by decide +kernel⟩
theorem ok_under (D : Df K mg "under" (top 19) ["one", "other"]) (T : Tx K mg C) : Fn P w K mg base 1 "under" ["one", "other"] (sp_under K) := by
  refine D.ok0 sc_under (fun vs H Q E h => ?_) (fun f cdv A outer s H vs Q E hr h => ?_)
  · obtain ⟨p_x, x, p_y, y, rfl, _⟩ := h
    rfl
  obtain ⟨p_x, x, p_y, y, rfl, g_x, d_x, g_y, d_y, k0⟩ := h
  refine ⟨_, (pss_one (ps_ret (pe_cmpR op_lt (pe_op op_mulB (pe_ix ix_tup (pv 0) pe_int (fun _ _ => rfl)) (pe_ix ix_tup (pv 1) pe_int (fun _ _ => rfl))) (pe_op op_mulB (pe_ix ix_tup (pv 1) pe_int (fun _ _ => rfl)) (pe_ix ix_tup (pv 0) pe_int (fun _ _ => rfl))) (nomark _)))), ?_⟩
  refine ⟨_, rfl, p_x, _, _, _, rfl, rfl, g_x, rfl, _, rfl, p_y, _, _, _, rfl, rfl, g_y, rfl, _, _, rfl, rfl, (d_x.1.ok d_y.2 (by decide)), _, rfl, p_y, _, _, _, rfl, rfl, g_y, rfl, _, rfl, p_x, _, _, _, rfl, rfl, g_x, rfl, _, _, rfl, rfl, (d_y.1.ok d_x.2 (by decide)), _, _, rfl, rfl, ?_⟩
  try dsimp only
  rw [show decide (((x).num * (((y).den : Nat) : Int)) < ((y).num * (((x).den : Nat) : Int))) = decide (x < y) from decide_eq_decide.mpr (by exact (q_lt x y).symm)]
  exact k0 _ (Same.refl _)
noncomputable def sp_joint_moment (K : PySem.W.Frag) : Sp := fun vs H Q _ => ∃ (p_i a_i b_i : Addr) (x_i v_i : Rat) (m_i : Int) (p_j a_j b_j : Addr) (x_j v_j : Rat) (m_j : Int), vs = [.ref p_i, .ref p_j] ∧ SqT K H p_i [.ref a_i, .ref b_i, .int m_i] ∧ FQ K H a_i x_i ∧ FQ K H b_i v_i ∧ FB 1990 x_i ∧ FB 1990 v_i ∧ 1 ≤ m_i ∧ m_i ≤ 10000 ∧ SqT K H p_j [.ref a_j, .ref b_j, .int m_j] ∧ FQ K H a_j x_j ∧ FQ K H b_j v_j ∧ FB 1990 x_j ∧ FB 1990 v_j ∧ 1 ≤ m_j ∧ m_j ≤ 10000 ∧ (¬ v_j < v_i → ∀  (H1 : Hp), Same H H1 → Q (.non) H1) ∧ (v_j < v_i → ∀ (p_r : Addr) (H1 : Hp), Same H H1 → FQ K H1 p_r ((x_j - x_i) / (v_i - v_j)) → Q (.ref p_r) H1)
theorem sc_joint_moment : FnScope ["one", "other", "gain"] ["one", "other"] (defScope (top 26)) := ⟨rfl, rfl, rfl, by decide +kernel, rfl, by decide +kernel, by decide +kernel⟩
theorem ok_joint_moment (D : Df K mg "joint_moment" (top 26) ["one", "other"]) (T : Tx K mg C) (F_minus : Fn P w K mg base 3 "minus" ["one", "other"] (sp_minus K)) (F_over : Fn P w K mg base 3 "over" ["one", "other"] (sp_over K)) : Fn P w K mg base 4 "joint_moment" ["one", "other"] (sp_joint_moment K) := by
  refine D.ok0 sc_joint_moment (fun vs H Q E h => ?_) (fun f cdv A outer s H vs Q E hr h => ?_)
  · obtain ⟨p_i, a_i, b_i, x_i, v_i, m_i, p_j, a_j, b_j, x_j, v_j, m_j, rfl, _⟩ := h
    rfl
  obtain ⟨p_i, a_i, b_i, x_i, v_i, m_i, p_j, a_j, b_j, x_j, v_j, m_j, rfl, h_i, gx_i, gv_i, dx_i, dv_i, lo_i, hi_i, h_j, gx_j, gv_j, dx_j, dv_j, lo_j, hi_j, k0, k1⟩ := h
  refine ⟨_, (pss_cons (ps_set (i := 2) sc_joint_moment.nd rfl (Or.inl rfl) (pe_fn F_minus (by decide) hr (by rfl) passE0 (pa_cons (pe_ix ix_tup (pv 0) pe_int (fun _ _ => rfl)) (pa_cons (pe_ix ix_tup (pv 1) pe_int (fun _ _ => rfl)) pa_nil))))
      (pss_cons (ps_if (pt_cmpR op_le (pe_ix ix_tup (pv 2) pe_int (fun _ _ => rfl)) pe_int (nomark _)) (pss_one (ps_ret pe_non)) pss_nil)
      (pss_one (ps_ret (pe_fn F_over (by decide) hr (by rfl) passE0 (pa_cons (pe_fn F_minus (by decide) hr (by rfl) passE0 (pa_cons (pe_ix ix_tup (pv 1) pe_int (fun _ _ => rfl)) (pa_cons (pe_ix ix_tup (pv 0) pe_int (fun _ _ => rfl)) pa_nil))) (pa_cons (pv 2) pa_nil))))))), ?_⟩
  refine ⟨_, rfl, p_i, _, _, _, rfl, rfl, h_i, rfl, _, rfl, p_j, _, _, _, rfl, rfl, h_j, rfl, _, _, _, _, rfl, gv_i, (FB.mono dv_i (by decide)), gv_j, (FB.mono dv_j (by decide)), fun p_r4 H4 s4 g_r4 => ?_⟩
  have d_r4 : FB 3981 (v_i - v_j) := (FB.mono (FB.sub dv_i dv_j) (by decide))
  refine ⟨_, rfl, p_r4, _, _, _, rfl, rfl, g_r4, rfl, _, _, rfl, rfl, _, rfl, ?_⟩
  refine if_dec (fun c5 => ?_) (fun c5 => ?_)
  · skip
    exact k0 (by have := (q_le0 (v_i - v_j)).mp ‹_›; grind) _ s4
  · skip
    replace h_j := (Kw.Same.tup s4 h_j)
    replace h_i := (Kw.Same.tup s4 h_i)
    replace gx_j := (Kw.Same.tup s4 gx_j)
    replace gx_i := (Kw.Same.tup s4 gx_i)
    refine ⟨_, rfl, p_j, _, _, _, rfl, rfl, h_j, rfl, _, rfl, p_i, _, _, _, rfl, rfl, h_i, rfl, _, _, _, _, rfl, gx_j, (FB.mono dx_j (by decide)), gx_i, (FB.mono dx_i (by decide)), fun p_r6 H6 s6 g_r6 => ?_⟩
    have d_r6 : FB 3981 (x_j - x_i) := (FB.mono (FB.sub dx_j dx_i) (by decide))
    replace g_r4 := (Kw.Same.tup s6 g_r4)
    refine ⟨_, rfl, _, _, _, _, rfl, g_r6, (FB.mono d_r6 (by decide)), g_r4, (FB.mono d_r4 (by decide)), (by have := mt (q_le0 (v_i - v_j)).mpr ‹_›; grind), fun p_r7 H7 s7 g_r7 => ?_⟩
    have d_r7 : FB 7962 (((x_j - x_i)) / ((v_i - v_j))) := (FB.mono (FB.div d_r6 d_r4 (by have := mt (q_le0 (v_i - v_j)).mpr ‹_›; grind)) (by decide))
    exact k1 (by have := mt (q_le0 (v_i - v_j)).mpr ‹_›; grind) _ _ (s4.trans (s6.trans s7)) g_r7
noncomputable def sp_least (K : PySem.W.Frag) : Sp := fun vs H Q _ => ∃ (p : Addr) (zs : List V) (qs : List Rat), vs = [.ref p] ∧ H p = some (.lst zs) ∧ Al2 (FrQ K H 1990) zs qs ∧ qs.length ≤ 100 ∧ ∀ (v : V) (H1 : Hp), Same H H1 → OptR K H1 v (leastQ qs) → Q v H1
theorem sc_least : FnScope ["moments", "found", "moment"] ["moments"] (defScope (top 30)) := ⟨rfl, rfl, rfl, by decide +kernel, rfl, by decide +kernel, by decide +kernel⟩
theorem ok_least (D : Df K mg "least" (top 30) ["moments"]) (T : Tx K mg C) (F_under : Fn P w K mg base 1 "under" ["one", "other"] (sp_under K)) : Fn P w K mg base 2 "least" ["moments"] (sp_least K) := by
  refine D.ok0 sc_least (fun vs H Q E h => ?_) (fun f cdv A outer s H vs Q E hr h => ?_)
  · obtain ⟨p, zs, qs, rfl, _⟩ := h
    rfl
  obtain ⟨p, zs, qs, rfl, hp, al, l100, k⟩ := h
  refine ⟨_, (pss_cons (ps_set (i := 1) sc_least.nd rfl (Or.inl rfl) pe_non)
      (pss_cons (ps_for PassesOwn.never rfl (pi_list (pv 0)) (pg_name (i := 2) sc_least.nd rfl (Or.inl rfl)) (pss_one (ps_if (pw_or (pt_cmpR op_isN (pv 1) pe_non (nomark _)) (pw_or1 (pt_val (pe_fn F_under (by decide) hr (by rfl) passE0 (pa_cons (pv 2) (pa_cons (pv 1) pa_nil))) (fun _ => rfl)))).pt (pss_one (ps_set (i := 1) sc_least.nd rfl (Or.inl rfl) (pv 2))) pss_nil)))
      (pss_one (ps_ret (pv 1))))), ?_⟩
  have hz := Al2.len al
  refine ⟨_, rfl, p, rfl, ⟨_, SqL.of hp⟩, for_list (K := K) (a := p) (xs := zs) (fun i σ1 H1 => ∃ (v : V) (u2 : Option V), σ1 = [some (.ref p), some v, u2] ∧ Same H H1 ∧ OptR K H1 v (leastQ (qs.take i))) ⟨.non, _, rfl, Same.refl _, .inl ⟨rfl, rfl⟩⟩ (by rintro _ _ _ _ ⟨_, _, _, g, _⟩; exact SqL.of (g _ _ hp)) ?_ ?_⟩
  · rintro i x σ1 H3 hx ⟨v, u2, rfl, s3, ov⟩
    obtain ⟨q, hq, pq, rfl, gq, dq⟩ := Al2.get (frs_same al s3) hx
    have nx := leastQ_snoc (qs.take i) q
    rw [← take_snoc hq] at nx
    rcases ov with ⟨e0, rfl⟩ | ⟨l, pl, e0, rfl, gl, dl⟩
    · refine ⟨_, rfl, rfl, _, rfl, iteT ?_⟩
      refine iteT ?_
      rw [e0] at nx
      exact ⟨_, rfl, .ref pq, _, rfl, s3, .inr ⟨q, pq, nx, rfl, gq, dq⟩⟩
    · refine ⟨_, rfl, rfl, _, rfl, iteF ?_⟩
      refine ⟨_, rfl, _, rfl, _, _, _, _, rfl, gq, dq.mono (by decide), gl, dl.mono (by decide), fun H4 s4 => ⟨_, rfl, ?_⟩⟩
      rw [e0] at nx
      refine if_dec (fun c => ?_) (fun c => ?_)
      · have e1 : less1 (some l) q = some q := if_pos c
        rw [e1] at nx
        exact ⟨_, rfl, .ref pq, _, rfl, s3.trans s4, .inr ⟨q, pq, nx, rfl, Kw.Same.tup s4 gq, dq⟩⟩
      · have e1 : less1 (some l) q = some l := if_neg c
        rw [e1] at nx
        exact ⟨.ref pl, _, rfl, s3.trans s4, .inr ⟨l, pl, nx, rfl, Kw.Same.tup s4 gl, dl⟩⟩
  · rintro σ1 H3 ⟨v, u2, rfl, s3, ov⟩
    rw [hz, List.take_length] at ov
    exact ⟨_, rfl, k v H3 s3 ov⟩
noncomputable def spC_look_ahead (K : PySem.W.Frag) (C : Addr) : Sp := fun vs H Q _ => ∃ (p dx : Addr) (fs : List (Str × V)) (j : Addr) (ys : List V) (js : List (Option Rat)), vs = [.ref p] ∧ H p = some (.ins C dx fs) ∧ fs.lookup ("joints" : Str) = some (V.ref j) ∧ fs.length < 900 ∧ H j = some (.lst ys) ∧ Al2 (OptR K H) ys js ∧ js.length ≤ 12 ∧ ∀ (co : V) (H1 : Hp), But p H H1 → H1 p = some (.ins C dx (putF ("coming" : Str) co fs)) → OptR K H1 co (leastQ (js.filterMap id)) → Q .non H1
theorem sc_Course_look_ahead : FnScope ["self"] ["self"] (defScope (mthAt (top 31) 1)) := ⟨rfl, rfl, rfl, by decide +kernel, rfl, by decide +kernel, by decide +kernel⟩
theorem ok_Course_look_ahead (D : DfM K (C 0) "look_ahead" "Course.look_ahead" (mthAt (top 31) 1) ["self"]) (T : Tx K mg C) (F_least : Fn P w K mg base 2 "least" ["moments"] (sp_least K)) : FnM P w K mg base 3 (C 0) "look_ahead" ["self"] (spC_look_ahead K (C 0)) := by
  refine D.ok0 sc_Course_look_ahead (fun vs H Q E h => ?_) (fun f cdv A outer s H vs Q E hr h => ?_)
  · obtain ⟨p, dx, fs, j, ys, js, rfl, _⟩ := h
    rfl
  obtain ⟨p, dx, fs, j, ys, js, rfl, hp, hl, hf, hj, al, l12, k⟩ := h
  refine ⟨_, (pss_one (ps_fldC T.cl_Course T.n_Course_coming (pv 0) (pe_fn F_least (by decide) hr (by rfl) passE0 (pa_cons (@pe_lcT _ _ _ _ _ _ _ _ _ _ _ _ [] [] rfl (pi_list (pe_fldC T.cl_Course T.n_Course_joints (pv 0))) rfl (by decide) rfl (by decide) rfl (by decide) cap_none (fun _ _ h => nomatch h) (no_free rfl) (fun C z Hc fp => pts_one (pt_cmpR op_notN (pv 0) pe_non (nomark _))) (fun C z Hc fp => (pv 0)) (fun _ => rfl)) pa_nil)))), ?_⟩
  have hz := Al2.len al
  refine ⟨_, rfl, p, _, _, _, rfl, hp, hl, j, rfl, ⟨_, SqL.of hj⟩, lc_filter (K := K) (fun v => !decide (v = .non)) (SqL.of hj) (Nat.le_trans (show ys.length ≤ 12 by omega) (by decide)) ?_ ?_ ?_⟩
  · intro x hx Q1 q1
    exact ⟨_, rfl, rfl, _, rfl, q1⟩
  · intro x hx Q1 q1
    exact ⟨_, rfl, q1⟩
  · intro l hln
    obtain ⟨H2, q2, s2, e2⟩ := newO hln (.lst (ys.filter fun v => !decide (v = .non)))
    rw [q2]
    clear q2
    have l100 : (js.filterMap id).length ≤ 100 := Nat.le_trans (List.length_filterMap_le _ _) (by omega)
    refine ⟨l, _, _, rfl, e2, frs_same (opts_filter al) s2, l100, fun v H3 s3 ov => ?_⟩
    have hp3 := s3 _ _ (s2 _ _ hp)
    refine ⟨_, rfl, p, dx, fs, rfl, hp3, by omega, ?_⟩
    obtain ⟨H4, q4, s4, e4⟩ := newB (H := H3) (p := p) (.ins (C 0) dx (putF ("coming" : Str) v fs))
    dsimp only
    rw [q4]
    clear q4
    have b4 : Buts [p] H3 H4 := Buts.one s4 (List.mem_singleton.mpr rfl)
    exact k v H4 ((But.of (s2.trans s3)).trans s4) e4 (ov.buts b4 (NoT.ins hp3 NoT.nil))
noncomputable def spC_init (K : PySem.W.Frag) (C : Addr) : Sp := fun vs H Q _ => ∃ (x dx p : Addr) (xs : List V) (gs : List Bod) (sh : Addr), vs = [.ref x, .ref p, .ref sh] ∧ H x = some (.ins C dx []) ∧ H p = some (.lst xs) ∧ Al2 (BdQ K H 1990) xs gs ∧ gs.length ≤ 12 ∧ Com 1989 gs ∧ FQ K H sh ((1 : Int) : Rat) ∧ ∀ (g j : Addr) (H1 : Hp), But x H H1 → H g = none → H j = none → CrsAt K H1 C x gs 0 0 g j → Q .non H1
theorem sc_Course___init__ : FnScope ["self", "world", "share"] ["self", "world", "share"] (defScope (mthAt (top 31) 0)) := ⟨rfl, rfl, rfl, by decide +kernel, rfl, by decide +kernel, by decide +kernel⟩
theorem ok_Course___init__ (D : DfM K (C 0) "__init__" "Course.__init__" (mthAt (top 31) 0) ["self", "world", "share"]) (T : Tx K mg C) (F_joint_moment : Fn P w K mg base 4 "joint_moment" ["one", "other"] (sp_joint_moment K)) (F_Course_look_ahead : FnM P w K mg base 3 (C 0) "look_ahead" ["self"] (spC_look_ahead K (C 0))) : FnM P w K mg base 5 (C 0) "__init__" ["self", "world", "share"] (spC_init K (C 0)) := by
  refine D.ok0 sc_Course___init__ (fun vs H Q E h => ?_) (fun f cdv A outer s H vs Q E hr h => ?_)
  · obtain ⟨x, dx, p, xs, gs, sh, rfl, _⟩ := h
    rfl
  obtain ⟨x, dx, p, xs, gs, sh, rfl, hx, hp, al, l12, com, gsh, k⟩ := h
  refine ⟨_, (pss_cons (ps_fldC T.cl_Course T.n_Course_goings (pv 0) (pe_callTy call_list_of (by rfl) T.b_list PyProof.Rows.Boot.«list» (pa_cons (pv 1) pa_nil)))
      (pss_cons (ps_fldC T.cl_Course T.n_Course_share (pv 0) (pv 2))
      (pss_cons (ps_fldC T.cl_Course T.n_Course_now (pv 0) (pe_globT (K := K) rfl (by rfl) T.k_NOUGHT))
      (pss_cons (ps_fldC T.cl_Course T.n_Course_gone_through (pv 0) pe_int)
      (pss_cons (ps_fldC T.cl_Course T.n_Course_joints (pv 0) (@pe_lc _ _ _ _ _ _ _ _ _ _ ["world"] [1] rfl (pi_range1 (by rfl) T.b_range (pa_cons (pe_op op_sub (pe_callB call_len (by rfl) T.b_len PyProof.Rows.Boot.«len» (pa_cons (pv 1) pa_nil)) pe_int) pa_nil)) rfl (by decide) rfl (by decide) rfl (by decide) (cap_one (j := 1) rfl rfl rfl rfl (.inl rfl)) (fun y c h => h) (cap_fr rfl) (fun C z Hc fp => (pe_fn F_joint_moment (by decide) hr (by rfl) passE0 (pa_cons (pe_ix (ixL (K := K) rfl) (pv 1) (pv 0) (fun _ _ => rfl)) (pa_cons (pe_ix (ixL (K := K) rfl) (pv 1) (pe_op op_add (pv 0) pe_int) (fun _ _ => rfl)) pa_nil)))) (fun _ => rfl)))
      (pss_one (ps_expr (pe_mt0 T.cl_Course F_Course_look_ahead (by decide) hr passE0 (pv 0))))))))), ?_⟩
  have hz := Al2.len al
  refine ⟨_, rfl, p, xs, rfl, .inl (SqL.of hp), ?_⟩
  intro p2 n2
  obtain ⟨H2, q2, s2, e2⟩ := newO n2 (.lst xs)
  rw [q2]
  clear q2
  have px : p2 ≠ x := Ne.symm (ne_of_none hx n2)
  refine ⟨_, rfl, x, dx, [], rfl, s2 _ _ hx, by decide, ?_⟩
  obtain ⟨H3, q3, s3, e3⟩ := newB (H := H2) (p := x) (.ins (C 0) dx (putF ("goings" : Str) (V.ref p2) []))
  dsimp only
  rw [q3]
  clear q3
  replace e3 : H3 x = some (.ins (C 0) dx [("goings", .ref p2)]) := e3
  refine ⟨_, rfl, _, rfl, x, dx, _, rfl, e3, by show (1 : Nat) < 1000; decide, ?_⟩
  obtain ⟨H4, q4, s4, e4⟩ := newB (H := H3) (p := x) (.ins (C 0) dx (putF ("share" : Str) (V.ref sh) [("goings", .ref p2)]))
  dsimp only
  rw [q4]
  clear q4
  replace e4 : H4 x = some (.ins (C 0) dx [("goings", .ref p2), ("share", .ref sh)]) := e4
  refine fun N hN => ?_
  refine ⟨_, rfl, x, dx, _, rfl, e4, by show (2 : Nat) < 1000; decide, ?_⟩
  obtain ⟨H5, q5, s5, e5⟩ := newB (H := H4) (p := x) (.ins (C 0) dx (putF ("now" : Str) (V.ref N) [("goings", .ref p2), ("share", .ref sh)]))
  dsimp only
  rw [q5]
  clear q5
  replace e5 : H5 x = some (.ins (C 0) dx [("goings", .ref p2), ("share", .ref sh), ("now", .ref N)]) := e5
  refine ⟨_, rfl, x, dx, _, rfl, e5, by show (3 : Nat) < 1000; decide, ?_⟩
  obtain ⟨H6, q6, s6, e6⟩ := newB (H := H5) (p := x) (.ins (C 0) dx (putF ("gone_through" : Str) (V.int 0) [("goings", .ref p2), ("share", .ref sh), ("now", .ref N)]))
  dsimp only
  rw [q6]
  clear q6
  replace e6 : H6 x = some (.ins (C 0) dx [("goings", .ref p2), ("share", .ref sh), ("now", .ref N), ("gone_through", .int 0)]) := e6
  have b26 : But x H2 H6 := s3.trans (s4.trans (s5.trans s6))
  have hx2 := s2 _ _ hx
  have nt2 : NoT [x] H2 := NoT.ins hx2 NoT.nil
  have bs26 : Buts [x] H2 H6 := Buts.one b26 (List.mem_singleton.mpr rfl)
  have npx : p ≠ x := ne_of hp hx (by intro z; cases z)
  have hp6 := b26 _ _ npx (s2 _ _ hp)
  have hg6 := b26 _ _ px e2
  have al6 := bs26.bds nt2 (bds_same al s2)
  have gsh6 := bs26.tup nt2 (Kw.Same.tup s2 gsh)
  refine ⟨_, rfl, _, _, rfl, .inl ⟨_, SqL.of hp6, rfl⟩, _, _, rfl, rfl, _, rfl, by omega, by omega, lc_range (lo := 0) (n := (((xs.length : Nat) : Int) - 1).toNat) (fun i ys H' => i ≤ gs.length - 1 ∧ Same H6 H' ∧ Al2 (OptR K H') ys ((jnts gs).take i)) ⟨Nat.zero_le _, Same.refl _, trivial⟩ (Nat.le_trans (show (((xs.length : Nat) : Int) - 1).toNat ≤ 12 by omega) (by decide)) (fun i ys H' z => by obtain ⟨l, _, e⟩ := z; have := Al2.len e; rw [List.length_take, jnts_len] at this; omega) ?_ ?_⟩
  · rintro i ys H7 Q7 hi ⟨hl, s7, hy⟩ kq
    have i1 : i + 1 < xs.length := by omega
    obtain ⟨va, hva⟩ : ∃ va, xs[i]? = some va := ⟨_, List.getElem?_eq_getElem (by omega)⟩
    obtain ⟨vb, hvb⟩ : ∃ vb, xs[i + 1]? = some vb := ⟨_, List.getElem?_eq_getElem i1⟩
    have al7 := bds_same al6 s7
    obtain ⟨a, ha, pa, a1, c1, rfl, x1, x2, x3, x4, x5, x6, x7⟩ := Al2.get al7 hva
    obtain ⟨b, hb, pb, a2, c2, rfl, y1, y2, y3, y4, y5, y6, y7⟩ := Al2.get al7 hvb
    have hp7 := s7 _ _ hp6
    have atb : atI xs ((0 : Int) + (i : Int) + 1) = some (.ref pb) := by
      have z := atI_nat hvb
      rwa [show (((i + 1 : Nat)) : Int) = 0 + (i : Int) + 1 by omega] at z
    have nx : (jnts gs).take (i + 1) = (jnts gs).take i ++ [jntQ a b] := take_snoc (jnts_get ha hb)
    have ma := List.mem_of_getElem? ha
    have mb := List.mem_of_getElem? hb
    refine ⟨_, rfl, _, rfl, p, _, _, _, rfl, rfl, SqL.of hp7, atI_z hva, _, rfl, _, rfl, _, _, rfl, rfl, p, _, _, _, rfl, rfl, SqL.of hp7, atb, pa, a1, c1, _, _, _, pb, a2, c2, _, _, _, rfl, x1, x2, x3, x4, x5, x6, x7, y1, y2, y3, y4, y5, y6, y7, fun c H8 s8 => ?_, fun c r H8 s8 g8 => ?_⟩
    · refine kq _ _ ⟨by omega, s7.trans s8, ?_⟩
      rw [nx, jnt_none c]
      exact Al2.snoc (opts_same hy s8) (.inl ⟨rfl, rfl⟩)
    · refine kq _ _ ⟨by omega, s7.trans s8, ?_⟩
      rw [nx, jnt_some c]
      exact Al2.snoc (opts_same hy s8) (.inr ⟨_, r, rfl, rfl, g8, com.jnt ma mb (jnt_some c)⟩)
  · rintro ys H7 ⟨_, s7, hy⟩ pl hpl
    have en : (jnts gs).take (((xs.length : Nat) : Int) - 1).toNat = jnts gs := by
      refine List.take_of_length_le ?_
      rw [jnts_len]
      omega
    rw [en] at hy
    obtain ⟨H8, q8, s8, e8⟩ := newO hpl (.lst ys)
    rw [q8]
    clear q8
    have s68 := s7.trans s8
    refine ⟨_, rfl, x, dx, _, rfl, s68 _ _ e6, by show (4 : Nat) < 1000; decide, ?_⟩
    obtain ⟨H9, q9, s9, e9⟩ := newB (H := H8) (p := x) (.ins (C 0) dx (putF ("joints" : Str) (V.ref pl) [("goings", .ref p2), ("share", .ref sh), ("now", .ref N), ("gone_through", .int 0)]))
    dsimp only
    rw [q9]
    clear q9
    replace e9 : H9 x = some (.ins (C 0) dx [("goings", .ref p2), ("share", .ref sh), ("now", .ref N), ("gone_through", .int 0), ("joints", .ref pl)]) := e9
    have hx8 := s68 _ _ e6
    have plx : pl ≠ x := fun z => by rw [z, s7 _ _ e6] at hpl; cases hpl
    have plg : p2 ≠ pl := fun z => by rw [← z, s7 _ _ hg6] at hpl; cases hpl
    have bs89 : Buts [x] H8 H9 := Buts.one s9 (List.mem_singleton.mpr rfl)
    have nt8 : NoT [x] H8 := NoT.ins hx8 NoT.nil
    have hj9 := s9 _ _ plx e8
    have hy9 := opts_buts (opts_same hy s8) bs89 nt8
    have lj : (jnts gs).length ≤ 12 := by rw [jnts_len]; omega
    refine ⟨_, rfl, x, dx, _, rfl, e9, rfl, x, dx, _, pl, ys, _, rfl, e9, rfl, by show (5 : Nat) < 900; decide, hj9, hy9, lj, fun co H10 s10 e10 oc => ?_⟩
    replace e10 : H10 x = some (.ins (C 0) dx (crs p2 sh N ((0 : Nat) : Int) pl co)) := e10
    have bs910 : Buts [x] H9 H10 := Buts.one s10 (List.mem_singleton.mpr rfl)
    have nt9 : NoT [x] H9 := NoT.ins e9 NoT.nil
    have B6 : But x H H6 := (But.of s2).trans b26
    have B10 : But x H H10 := B6.trans ((But.of s68).trans (s9.trans s10))
    have npl : H pl = none := by
      cases q : H pl with
      | none => rfl
      | some o =>
        have z := s7 _ _ (B6 _ _ plx q)
        rw [hpl] at z
        cases z
    refine k p2 pl H10 B10 n2 npl ⟨dx, sh, N, co, xs, ys, e10, ?_, ?_, ?_, ?_, ?_, s10 _ _ plx hj9, opts_buts hy9 bs910 nt9, oc, plg⟩
    · exact s10 _ _ px (s9 _ _ px (s68 _ _ hg6))
    · exact bs910.bds nt9 (bs89.bds nt8 (bds_same al6 s68))
    · exact bs910.tup nt9 (bs89.tup nt8 (Kw.Same.tup s68 gsh6))
    · exact hN _
    · exact (FB.ofInt (n := 64) (Bd.small (i := 0) (by decide) (by decide)) (by decide)).mono (by decide)
noncomputable def sp_place_at (K : PySem.W.Frag) : Sp := fun vs H Q _ => ∃ (p_i a_i b_i : Addr) (x_i v_i : Rat) (m_i : Int) (p_t : Addr) (t : Rat), vs = [.ref p_i, .ref p_t] ∧ SqT K H p_i [.ref a_i, .ref b_i, .int m_i] ∧ FQ K H a_i x_i ∧ FQ K H b_i v_i ∧ FB 1990 x_i ∧ FB 1990 v_i ∧ 1 ≤ m_i ∧ m_i ≤ 10000 ∧ FQ K H p_t t ∧ FB 1990 t ∧ (∀ (p_r : Addr) (H1 : Hp), Same H H1 → FQ K H1 p_r (x_i + v_i * t) → Q (.ref p_r) H1)
theorem sc_place_at : FnScope ["body", "moment"] ["body", "moment"] (defScope (top 25)) := ⟨rfl, rfl, rfl, by decide +kernel, rfl, by decide +kernel, by decide +kernel⟩
theorem ok_place_at (D : Df K mg "place_at" (top 25) ["body", "moment"]) (T : Tx K mg C) (F_times : Fn P w K mg base 2 "times" ["one", "other"] (sp_times K)) (F_plus : Fn P w K mg base 2 "plus" ["one", "other"] (sp_plus K)) : Fn P w K mg base 3 "place_at" ["body", "moment"] (sp_place_at K) := by
  refine D.ok0 sc_place_at (fun vs H Q E h => ?_) (fun f cdv A outer s H vs Q E hr h => ?_)
  · obtain ⟨p_i, a_i, b_i, x_i, v_i, m_i, p_t, t, rfl, _⟩ := h
    rfl
  obtain ⟨p_i, a_i, b_i, x_i, v_i, m_i, p_t, t, rfl, h_i, gx_i, gv_i, dx_i, dv_i, lo_i, hi_i, g_t, d_t, k0⟩ := h
  refine ⟨_, (pss_one (ps_ret (pe_fn F_plus (by decide) hr (by rfl) passE0 (pa_cons (pe_ix ix_tup (pv 0) pe_int (fun _ _ => rfl)) (pa_cons (pe_fn F_times (by decide) hr (by rfl) passE0 (pa_cons (pe_ix ix_tup (pv 0) pe_int (fun _ _ => rfl)) (pa_cons (pv 1) pa_nil))) pa_nil))))), ?_⟩
  refine ⟨_, rfl, p_i, _, _, _, rfl, rfl, h_i, rfl, _, rfl, p_i, _, _, _, rfl, rfl, h_i, rfl, _, rfl, _, _, _, _, rfl, gv_i, (FB.mono dv_i (by decide)), g_t, (FB.mono d_t (by decide)), fun p_r8 H8 s8 g_r8 => ?_⟩
  have d_r8 : FB 3980 (v_i * t) := (FB.mono (FB.mul dv_i d_t) (by decide))
  replace gx_i := (Kw.Same.tup s8 gx_i)
  refine ⟨_, _, _, _, rfl, gx_i, (FB.mono dx_i (by decide)), g_r8, (FB.mono d_r8 (by decide)), fun p_r9 H9 s9 g_r9 => ?_⟩
  have d_r9 : FB 5971 (x_i + ((v_i * t))) := (FB.mono (FB.add dx_i d_r8) (by decide))
  exact k0 _ _ (s8.trans s9) g_r9
theorem none_of_sm {H H1 : Hp} {a : Addr} (s : Same H H1) (n : H1 a = none) : H a = none := by
  cases e : H a with
  | none => rfl
  | some o => have := s _ _ e; rw [n] at this; cases this
noncomputable def intsN (l : List Nat) : List V := l.map fun i : Nat => V.int (i : Int)
noncomputable def spC_lefts (K : PySem.W.Frag) (C : Addr) : Sp := fun vs H Q _ => ∃ (p : Addr) (gs : List Bod) (now : Rat) (n : Nat) (g j : Addr), vs = [.ref p] ∧ CrsAt K H C p gs now n g j ∧ gs.length ≤ 12 ∧ ∀ (r : Addr) (H1 : Hp), Same H H1 → H r = none → H1 r = some (.lst (intsN (leftsQ gs))) → Q (.ref r) H1
theorem sc_Course_lefts : FnScope ["self"] ["self"] (defScope (mthAt (top 31) 4)) := ⟨rfl, rfl, rfl, by decide +kernel, rfl, by decide +kernel, by decide +kernel⟩
theorem ok_Course_lefts (D : DfM K (C 0) "lefts" "Course.lefts" (mthAt (top 31) 4) ["self"]) (T : Tx K mg C) : FnM P w K mg base 1 (C 0) "lefts" ["self"] (spC_lefts K (C 0)) := by
  refine D.ok0 sc_Course_lefts (fun vs H Q E h => ?_) (fun f cdv A outer s H vs Q E hr h => ?_)
  · obtain ⟨p, gs, now, n, g, j, rfl, _⟩ := h
    rfl
  obtain ⟨p, gs, now, n, g, j, rfl, ⟨dx, sh, nw, co, xs, ys, hp, hg, al, gsh, gnw, dnw, hj, aj, oc, ne⟩, l12, k⟩ := h
  refine ⟨_, (pss_cons (ps_if (pt_cmpR op_isN (pe_fldC T.cl_Course T.n_Course_coming (pv 0)) pe_non (nomark _)) (pss_one (ps_ret (pe_lst pa_nil))) pss_nil)
      (pss_one (ps_ret (@pe_lcT _ _ _ _ _ _ _ _ _ _ _ _ ["self"] [0] rfl (pi_range1 (by rfl) T.b_range (pa_cons (pe_callB call_len (by rfl) T.b_len PyProof.Rows.Boot.«len» (pa_cons (pe_fldC T.cl_Course T.n_Course_joints (pv 0)) pa_nil)) pa_nil)) rfl (by decide) rfl (by decide) rfl (by decide) (cap_one (j := 0) rfl rfl rfl rfl (.inl rfl)) (fun y c h => h) (cap_fr rfl) (fun C z Hc fp => pts_one (pt_cmpR (op_eqOR (K := K) rfl (u100 hr)) (pe_ix (ixL (K := K) rfl) (pe_fldC T.cl_Course T.n_Course_joints (pv 1)) (pv 0) (fun _ _ => rfl)) (pe_fldC T.cl_Course T.n_Course_coming (pv 1)) (nomark _))) (fun C z Hc fp => (pv 0)) (fun _ => rfl))))), ?_⟩
  have lj := Al2.len aj
  have lg := jnts_len gs
  refine ⟨_, rfl, p, _, _, _, rfl, hp, crs_c, rfl, _, rfl, ?_⟩
  refine if_dec (fun c => ?_) (fun c => ?_)
  · have cn := oc.non.mp c
    refine ⟨by show 0 ≤ sizeLine; decide, ?_⟩
    intro p2 n2
    obtain ⟨H2, q2, s2, e2⟩ := newO n2 (.lst [])
    rw [q2]
    clear q2
    refine k p2 H2 s2 n2 ?_
    unfold leftsQ
    rw [cn]
    exact e2
  · obtain ⟨t, et⟩ : ∃ t, cmng gs = some t := by
      cases q : cmng gs with
      | none => exact absurd (oc.non.mpr q) c
      | some t => exact ⟨t, rfl⟩
    refine ⟨_, rfl, p, _, _, _, rfl, hp, crs_j, _, _, rfl, .inl ⟨_, SqL.of hj, rfl⟩, _, rfl, by omega, by omega, lc_rangeF (n := ((ys.length : Nat) : Int).toNat) (fun i => decide ((jnts gs)[i]? = some (cmng gs))) (Nat.le_trans (show ((ys.length : Nat) : Int).toNat ≤ 12 by omega) (by decide)) ?_ ?_ ?_⟩
    · intro i hi Q1 q1
      obtain ⟨v, hv⟩ : ∃ v, ys[i]? = some v := ⟨_, List.getElem?_eq_getElem (by omega)⟩
      obtain ⟨o, ho, ro⟩ := Al2.get aj hv
      refine ⟨_, rfl, p, _, _, _, rfl, hp, crs_j, _, rfl, j, _, _, _, rfl, rfl, SqL.of hj, atI_z hv, _, rfl, p, _, _, _, rfl, hp, crs_c, o, cmng gs, ro, oc, _, rfl, ?_⟩
      have e : decide (o = cmng gs) = decide ((jnts gs)[i]? = some (cmng gs)) := by
        rw [ho]
        exact decide_eq_decide.mpr ⟨fun h => by rw [h], fun h => Option.some.inj h⟩
      rw [e]
      exact q1
    · intro i hi Q1 q1
      exact ⟨_, rfl, q1⟩
    · intro l hln
      have e : (((List.range ((ys.length : Nat) : Int).toNat).filter fun i => decide ((jnts gs)[i]? = some (cmng gs))).map fun i : Nat => V.int (0 + (i : Int))) = intsN (leftsQ gs) := by
        unfold leftsQ intsN
        rw [et]
        have z : ((ys.length : Nat) : Int).toNat = (jnts gs).length := by omega
        rw [z]
        refine List.map_congr_left fun i _ => ?_
        rw [Int.zero_add]
      rw [e]
      obtain ⟨H2, q2, s2, e2⟩ := newO hln (.lst (intsN (leftsQ gs)))
      rw [q2]
      clear q2
      exact k l H2 s2 hln e2
noncomputable def spC_meetings (K : PySem.W.Frag) (C : Addr) : Sp := fun vs H Q _ => ∃ (p : Addr) (gs : List Bod) (now : Rat) (n : Nat) (g j : Addr), vs = [.ref p] ∧ CrsAt K H C p gs now n g j ∧ gs.length ≤ 12 ∧ ∀ (r : Addr) (zs : List V) (H1 : Hp), Same H H1 → H r = none → H1 r = some (.lst zs) → Al2 (MtQ K H1) zs (metsQ gs) → Q (.ref r) H1
theorem sc_Course_meetings : FnScope ["self"] ["self"] (defScope (mthAt (top 31) 5)) := ⟨rfl, rfl, rfl, by decide +kernel, rfl, by decide +kernel, by decide +kernel⟩
theorem ok_Course_meetings (D : DfM K (C 0) "meetings" "Course.meetings" (mthAt (top 31) 5) ["self"]) (T : Tx K mg C) (F_place_at : Fn P w K mg base 3 "place_at" ["body", "moment"] (sp_place_at K)) (F_Course_lefts : FnM P w K mg base 1 (C 0) "lefts" ["self"] (spC_lefts K (C 0))) : FnM P w K mg base 4 (C 0) "meetings" ["self"] (spC_meetings K (C 0)) := by
  refine D.ok0 sc_Course_meetings (fun vs H Q E h => ?_) (fun f cdv A outer s H vs Q E hr h => ?_)
  · obtain ⟨p, gs, now, n, g, j, rfl, _⟩ := h
    rfl
  obtain ⟨p, gs, now, n, g, j, rfl, cr, l12, k⟩ := h
  refine ⟨_, (pss_one (ps_ret (@pe_lc _ _ _ _ _ _ _ _ _ _ ["self"] [0] rfl (pi_list (pe_mt0 T.cl_Course F_Course_lefts (by decide) hr passE0 (pv 0))) rfl (by decide) rfl (by decide) rfl (by decide) (cap_one (j := 0) rfl rfl rfl rfl (.inl rfl)) (fun y c h => h) (cap_fr rfl) (fun C z Hc fp => (pe_tup (pa_cons (pe_fldC T.cl_Course T.n_Course_coming (pv 1)) (pa_cons (pe_fn F_place_at (by decide) hr (by rfl) passE0 (pa_cons (pe_ix (ixL (K := K) rfl) (pe_fldC T.cl_Course T.n_Course_goings (pv 1)) (pv 0) (fun _ _ => rfl)) (pa_cons (pe_fldC T.cl_Course T.n_Course_coming (pv 1)) pa_nil))) (pa_cons (pv 0) pa_nil))))) (fun _ => rfl)))), ?_⟩
  obtain ⟨dx, sh, nw, co, xs, ys, hp, hg, al, gsh, gnw, dnw, hj, aj, oc, ne⟩ := id cr
  have hz := Al2.len al
  refine ⟨_, rfl, p, _, _, rfl, hp, rfl, p, gs, now, n, g, j, rfl, cr, l12, fun r1 H1 s1 n1 e1 => ?_⟩
  have ll : (leftsQ gs).length ≤ 12 := by
    unfold leftsQ
    split
    · exact Nat.zero_le _
    · exact Nat.le_trans (List.length_filter_le _ _) (by rw [List.length_range, jnts_len]; omega)
  have mq : metsQ gs = (leftsQ gs).map fun i => ((cmng gs).getD 0, plcQ (bodAt gs i) ((cmng gs).getD 0), i) := by
    unfold metsQ
    cases q : cmng gs with
    | none =>
      unfold leftsQ
      rw [q]
      rfl
    | some t => rfl
  have len : (intsN (leftsQ gs)).length = (leftsQ gs).length := List.length_map _
  refine ⟨r1, rfl, ⟨_, SqL.of e1⟩, lc_list (K := K) (xs := intsN (leftsQ gs)) (fun i zs H' => i ≤ (leftsQ gs).length ∧ Same H1 H' ∧ Al2 (MtQ K H') zs ((metsQ gs).take i)) ⟨Nat.zero_le _, Same.refl _, trivial⟩ (by rw [len]; exact Nat.le_trans ll (by decide)) (fun i zs H1 z => by obtain ⟨l, _, e⟩ := z; have := Al2.len e; rw [mq, List.length_take, List.length_map] at this; omega) (fun i zs H' z => by obtain ⟨_, g, _⟩ := z; exact SqL.of (g _ _ e1)) ?_ ?_⟩
  · rintro i x zs H2 Q2 hx ⟨hl, s2, hy⟩ kq
    have hi : i < (leftsQ gs).length := by rw [← len]; exact (List.getElem?_eq_some_iff.mp hx).1
    unfold intsN at hx
    rw [List.getElem?_map] at hx
    obtain ⟨l, hlm, rfl⟩ := Option.map_eq_some_iff.mp hx
    have lm := List.mem_of_getElem? hlm
    obtain ⟨lg, jt⟩ := lefts_lt lm
    obtain ⟨t, et⟩ : ∃ t, cmng gs = some t := by
      cases q : cmng gs with
      | none =>
        unfold leftsQ at lm
        rw [q] at lm
        exact nomatch lm
      | some t => exact ⟨t, rfl⟩
    have s12 := s1.trans s2
    obtain ⟨_, pt, e0, rfl, gt, dt⟩ : ∃ (q : Rat) (pt : Addr), cmng gs = some q ∧ co = .ref pt ∧ FQ K H2 pt t ∧ FB 1990 t := by
      rcases oc.same s12 with ⟨e, _⟩ | ⟨q, pt, e, e', g', d'⟩
      · rw [et] at e
        cases e
      · rw [et] at e
        injection e with e
        subst e
        exact ⟨t, pt, et, e', g', d'⟩
    obtain ⟨va, hva⟩ : ∃ va, xs[l]? = some va := ⟨_, List.getElem?_eq_getElem (by omega)⟩
    obtain ⟨b, hb, pb, pa, pc, rfl, x1, x2, x3, x4, x5, x6, x7⟩ := Al2.get (bds_same al s12) hva
    have hp2 := s12 _ _ hp
    have hg2 := s12 _ _ hg
    refine ⟨_, rfl, p, _, _, _, rfl, hp2, crs_c, _, rfl, p, _, _, _, rfl, hp2, crs_g, _, rfl, g, _, _, _, rfl, rfl, SqL.of hg2, atI_nat hva, _, rfl, p, _, _, _, rfl, hp2, crs_c, pb, pa, pc, _, _, _, pt, t, rfl, x1, x2, x3, x4, x5, x6, x7, gt, dt, fun r3 H3 s3 g3 => ?_⟩
    refine ⟨_, rfl, by show 3 ≤ sizeLine; decide, ?_⟩
    intro p4 n4
    obtain ⟨H4, q4, s4, e4⟩ := newO n4 (.tup [.ref pt, .ref r3, .int (l : Int)])
    rw [q4]
    clear q4
    refine kq _ _ ⟨hi, s2.trans (s3.trans s4), ?_⟩
    have nx : (metsQ gs)[i]? = some (t, plcQ b t, l) := by
      rw [mq, List.getElem?_map, hlm, et]
      show some (t, plcQ (bodAt gs l) t, l) = _
      rw [bodAt_of hb]
    rw [take_snoc nx]
    exact Al2.snoc (mts_same hy (s3.trans s4)) ⟨p4, pt, r3, rfl, SqT.of e4, Kw.Same.tup (s3.trans s4) gt, Kw.Same.tup s4 g3, dt, (FB.add x4 (FB.mul x5 dt)).mono (by decide)⟩
  · rintro zs H2 ⟨_, s2, hy⟩ pl hpl
    have en : (metsQ gs).take (intsN (leftsQ gs)).length = metsQ gs := List.take_of_length_le (by rw [mq, List.length_map, len]; exact Nat.le_refl _)
    rw [en] at hy
    obtain ⟨H3, q3, s3, e3⟩ := newO hpl (.lst zs)
    rw [q3]
    clear q3
    exact k pl zs H3 (s1.trans (s2.trans s3)) (none_of_sm (s1.trans s2) hpl) e3 (mts_same hy s3)
noncomputable def sp_go_alike (K : PySem.W.Frag) : Sp := fun vs H Q _ => ∃ (p a c : Addr) (x v : Rat) (m : Int) (p' a' c' : Addr) (x' v' : Rat) (m' : Int), vs = [.ref p, .ref p'] ∧ SqT K H p [.ref a, .ref c, .int m] ∧ FQ K H a x ∧ FQ K H c v ∧ SqT K H p' [.ref a', .ref c', .int m'] ∧ FQ K H a' x' ∧ FQ K H c' v' ∧ Q (.bl (decide (x = x' ∧ v = v'))) H
theorem sc_go_alike : FnScope ["one", "other"] ["one", "other"] (defScope (top 29)) := ⟨rfl, rfl, rfl, by decide +kernel, rfl, by decide +kernel, by decide +kernel⟩
theorem ok_go_alike (D : Df K mg "go_alike" (top 29) ["one", "other"]) (T : Tx K mg C) : Fn P w K mg base 1 "go_alike" ["one", "other"] (sp_go_alike K) := by
  refine D.ok0 sc_go_alike (fun vs H Q E h => ?_) (fun f cdv A outer s H vs Q E hr h => ?_)
  · obtain ⟨p, a, c, x, v, m, p', a', c', x', v', m', rfl, _⟩ := h
    rfl
  obtain ⟨p, a, c, x, v, m, p', a', c', x', v', m', rfl, hp, ga, gc, hp', ga', gc', k⟩ := h
  refine ⟨_, (pss_one (ps_ret (pe_and (pe_cmpR (op_eqQ (K := K) rfl (u100 hr)) (pe_ix ix_tup (pv 0) pe_int (fun _ _ => rfl)) (pe_ix ix_tup (pv 1) pe_int (fun _ _ => rfl)) (nomark _)) (pe_one (pe_cmpR (op_eqQ (K := K) rfl (u100 hr)) (pe_ix ix_tup (pv 0) pe_int (fun _ _ => rfl)) (pe_ix ix_tup (pv 1) pe_int (fun _ _ => rfl)) (nomark _)))))), ?_⟩
  refine ⟨_, rfl, p, _, _, _, rfl, rfl, hp, rfl, _, rfl, p', _, _, _, rfl, rfl, hp', rfl, a, a', x, x', rfl, rfl, ga, ga', ?_⟩
  by_cases e : x = x'
  · refine ⟨_, rfl, ?_⟩
    rw [decide_eq_true e]
    refine iteT ?_
    refine ⟨_, rfl, p, _, _, _, rfl, rfl, hp, rfl, _, rfl, p', _, _, _, rfl, rfl, hp', rfl, c, c', v, v', rfl, rfl, gc, gc', ?_⟩
    have z : decide (x = x' ∧ v = v') = decide (v = v') := decide_eq_decide.mpr ⟨fun h => h.2, fun h => ⟨e, h⟩⟩
    rw [z] at k
    exact k
  · refine ⟨_, rfl, ?_⟩
    rw [decide_eq_false e]
    refine iteF ?_
    have z : decide (x = x' ∧ v = v') = false := decide_eq_false fun h => e h.1
    rw [z] at k
    exact k
noncomputable def spC_are_together (K : PySem.W.Frag) (C : Addr) : Sp := fun vs H Q _ => ∃ (p : Addr) (gs : List Bod) (now : Rat) (n : Nat) (g j : Addr) (i : Nat), vs = [.ref p, .int (i : Int)] ∧ CrsAt K H C p gs now n g j ∧ i + 1 < gs.length ∧ Q (.bl (decide (togQ gs i))) H
theorem sc_Course_are_together : FnScope ["self", "left"] ["self", "left"] (defScope (mthAt (top 31) 6)) := ⟨rfl, rfl, rfl, by decide +kernel, rfl, by decide +kernel, by decide +kernel⟩
theorem ok_Course_are_together (D : DfM K (C 0) "are_together" "Course.are_together" (mthAt (top 31) 6) ["self", "left"]) (T : Tx K mg C) (F_go_alike : Fn P w K mg base 1 "go_alike" ["one", "other"] (sp_go_alike K)) : FnM P w K mg base 2 (C 0) "are_together" ["self", "left"] (spC_are_together K (C 0)) := by
  refine D.ok0 sc_Course_are_together (fun vs H Q E h => ?_) (fun f cdv A outer s H vs Q E hr h => ?_)
  · obtain ⟨p, gs, now, n, g, j, i, rfl, _⟩ := h
    rfl
  obtain ⟨p, gs, now, n, g, j, i, rfl, ⟨dx, sh, nw, co, xs, ys, hp, hg, al, gsh, gnw, dnw, hj, aj, oc, ne⟩, i1, k⟩ := h
  refine ⟨_, (pss_one (ps_ret (pe_or (pe_cmpR (op_eqOR (K := K) rfl (u100 hr)) (pe_ix ix_list (pe_fldC T.cl_Course T.n_Course_joints (pv 0)) (pv 1) (fun _ _ => rfl)) (pe_fldC T.cl_Course T.n_Course_coming (pv 0)) (nomark _)) (pe_one (pe_fn F_go_alike (by decide) hr (by rfl) passE0 (pa_cons (pe_ix ix_list (pe_fldC T.cl_Course T.n_Course_goings (pv 0)) (pv 1) (fun _ _ => rfl)) (pa_cons (pe_ix ix_list (pe_fldC T.cl_Course T.n_Course_goings (pv 0)) (pe_op op_add (pv 1) pe_int) (fun _ _ => rfl)) pa_nil))))))), ?_⟩
  have hz := Al2.len al
  have lj := Al2.len aj
  have lg := jnts_len gs
  obtain ⟨v, hv⟩ : ∃ v, ys[i]? = some v := ⟨_, List.getElem?_eq_getElem (by omega)⟩
  obtain ⟨o, ho, ro⟩ := Al2.get aj hv
  refine ⟨_, rfl, p, _, _, _, rfl, hp, crs_j, _, rfl, j, _, _, _, rfl, rfl, SqL.of hj, atI_nat hv, _, rfl, p, _, _, _, rfl, hp, crs_c, o, cmng gs, ro, oc, ?_⟩
  by_cases e : o = cmng gs
  · refine ⟨_, rfl, ?_⟩
    rw [decide_eq_true e]
    refine iteT ?_
    have z : decide (togQ gs i) = true := decide_eq_true (.inl (by rw [ho, e]))
    rw [z] at k
    exact k
  · refine ⟨_, rfl, ?_⟩
    rw [decide_eq_false e]
    refine iteF ?_
    obtain ⟨va, hva⟩ : ∃ va, xs[i]? = some va := ⟨_, List.getElem?_eq_getElem (by omega)⟩
    obtain ⟨vb, hvb⟩ : ∃ vb, xs[i + 1]? = some vb := ⟨_, List.getElem?_eq_getElem (by omega)⟩
    obtain ⟨a, ha, pa, a1, c1, rfl, x1, x2, x3, _⟩ := Al2.get al hva
    obtain ⟨b, hb, pb, a2, c2, rfl, y1, y2, y3, _⟩ := Al2.get al hvb
    refine ⟨_, rfl, p, _, _, _, rfl, hp, crs_g, _, rfl, g, _, _, _, rfl, rfl, SqL.of hg, atI_nat hva, _, rfl, p, _, _, _, rfl, hp, crs_g, _, rfl, _, _, rfl, rfl, g, _, _, _, rfl, rfl, SqL.of hg, atI_nat hvb, pa, a1, c1, _, _, _, pb, a2, c2, _, _, _, rfl, x1, x2, x3, y1, y2, y3, ?_⟩
    have z : decide (togQ gs i) = decide (a.1 = b.1 ∧ a.2.1 = b.2.1) := by
      refine decide_eq_decide.mpr ⟨fun h => ?_, fun h => .inr ?_⟩
      · rcases h with h | h
        · rw [ho] at h
          exact absurd (Option.some.inj h) e
        · rw [bodAt_of ha, bodAt_of hb] at h
          exact h
      · rw [bodAt_of ha, bodAt_of hb]
        exact h
    rw [z] at k
    exact k
noncomputable def spC_gathered (K : PySem.W.Frag) (C : Addr) : Sp := fun vs H Q _ => ∃ (p : Addr) (gs : List Bod) (now : Rat) (n : Nat) (g j : Addr) (i : Nat), vs = [.ref p, .int (i : Int)] ∧ CrsAt K H C p gs now n g j ∧ gs.length ≤ 12 ∧ i + 1 < gs.length ∧ ∀ (r : Addr) (a m : Nat) (H1 : Hp), Same H H1 → GathQ gs i a m → H1 r = some (.tup ((List.range m).map fun k : Nat => V.int ((a : Int) + (k : Int)))) → Q (.ref r) H1
theorem sc_Course_gathered : FnScope ["self", "left", "first", "last"] ["self", "left"] (defScope (mthAt (top 31) 7)) := ⟨rfl, rfl, rfl, by decide +kernel, rfl, by decide +kernel, by decide +kernel⟩
theorem ok_Course_gathered (D : DfM K (C 0) "gathered" "Course.gathered" (mthAt (top 31) 7) ["self", "left"]) (T : Tx K mg C) (F_Course_are_together : FnM P w K mg base 2 (C 0) "are_together" ["self", "left"] (spC_are_together K (C 0))) : FnM P w K mg base 3 (C 0) "gathered" ["self", "left"] (spC_gathered K (C 0)) := by
  refine D.ok0 sc_Course_gathered (fun vs H Q E h => ?_) (fun f cdv A outer s H vs Q E hr h => ?_)
  · obtain ⟨p, gs, now, n, g, j, i, rfl, _⟩ := h
    rfl
  obtain ⟨p, gs, now, n, g, j, i, rfl, cr, l12, i1, k⟩ := h
  refine ⟨_, (pss_cons (ps_set (i := 2) sc_Course_gathered.nd rfl (Or.inl rfl) (pv 1))
      (pss_cons (ps_while PassesOwn.never (pw_and (pt_cmpR op_gt (pv 2) pe_int (nomark _)) (pw_and1 (pt_val (pe_mt T.cl_Course F_Course_are_together (by decide) hr passE0 (pv 0) (pa_cons (pe_op op_sub (pv 2) pe_int) pa_nil)) (fun _ => rfl)))).pt (pss_one (ps_aug (i := 2) sc_Course_gathered.nd rfl (Or.inl rfl) pe_int ip_sub)))
      (pss_cons (ps_set (i := 3) sc_Course_gathered.nd rfl (Or.inl rfl) (pe_op op_add (pv 1) pe_int))
      (pss_cons (ps_while PassesOwn.never (pw_and (pt_cmpR op_lt (pv 3) (pe_callB call_len (by rfl) T.b_len PyProof.Rows.Boot.«len» (pa_cons (pe_fldC T.cl_Course T.n_Course_joints (pv 0)) pa_nil)) (nomark _)) (pw_and1 (pt_val (pe_mt T.cl_Course F_Course_are_together (by decide) hr passE0 (pv 0) (pa_cons (pv 3) pa_nil)) (fun _ => rfl)))).pt (pss_one (ps_aug (i := 3) sc_Course_gathered.nd rfl (Or.inl rfl) pe_int ip_add)))
      (pss_one (ps_ret (pe_tupRange rfl (by rfl) T.b_tuple (by rfl) T.b_range (pa_cons (pv 2) (pa_cons (pe_op op_add (pv 3) pe_int) pa_nil))))))))), ?_⟩
  obtain ⟨dx, sh, nw, co, xs, ys, hp, hg, al, gsh, gnw, dnw, hj, aj, oc, ne⟩ := id cr
  have lj := Al2.len aj
  have lg := jnts_len gs
  refine ⟨_, rfl, ?_⟩
  refine g_go ?_
  dsimp only
  refine cut1 (fun σ' H' => ∃ a : Nat, σ' = [some (.ref p), some (.int (i : Int)), some (.int (a : Int)), none] ∧ H' = H ∧ a ≤ i ∧ (∀ k, a ≤ k → k < i → togQ gs k) ∧ (a = 0 ∨ ¬ togQ gs (a - 1))) (fun N hN => ?_) ?_
  · refine ⟨fun m σ' H' => ∃ a : Nat, σ' = [some (.ref p), some (.int (i : Int)), some (.int (a : Int)), none] ∧ H' = H ∧ m = a ∧ a ≤ i ∧ ∀ k, a ≤ k → k < i → togQ gs k, ⟨_, i, rfl, rfl, rfl, Nat.le_refl _, fun k h1 h2 => absurd h1 (by omega)⟩, ?_⟩
    rintro m σ' H' ⟨a, rfl, rfl, rfl, ai, up⟩
    refine ⟨_, rfl, _, _, rfl, rfl, _, rfl, ?_⟩
    refine if_dec (fun c => ?_) (fun c => ?_)
    · have m0 : 0 < m := by omega
      refine ⟨_, rfl, p, _, _, rfl, hp, rfl, _, rfl, _, _, rfl, rfl, p, gs, now, n, g, j, m - 1, by rw [show ((m - 1 : Nat) : Int) = (m : Int) - 1 by omega]; rfl, cr, by omega, _, rfl, ?_⟩
      refine if_dec (fun tg => ?_) (fun tg => ?_)
      · refine ⟨_, fun _ _ n => n, ?_⟩
        refine ⟨_, rfl, _, _, rfl, rfl, ?_⟩
        refine ⟨m - 1, by omega, m - 1, by rw [show ((m - 1 : Nat) : Int) = (m : Int) - 1 by omega]; rfl, rfl, rfl, by omega, fun k h1 h2 => ?_⟩
        by_cases e : k = m - 1
        · rw [e]
          exact tg
        · exact up k (by omega) h2
      · exact hN _ _ ⟨m, rfl, rfl, ai, up, .inr tg⟩
    · exact hN _ _ ⟨m, rfl, rfl, ai, up, .inl (by omega)⟩
  · rintro σ' H' ⟨a, rfl, rfl, ai, up, low⟩
    refine ⟨_, rfl, _, _, rfl, rfl, ?_⟩
    refine g_go ?_
    dsimp only
    refine cut1 (fun σ' H1 => ∃ b : Nat, σ' = [some (.ref p), some (.int (i : Int)), some (.int (a : Int)), some (.int (b : Int))] ∧ H1 = H' ∧ i + 1 ≤ b ∧ b + 1 ≤ gs.length ∧ (∀ k, i < k → k < b → togQ gs k) ∧ (b + 1 = gs.length ∨ ¬ togQ gs b)) (fun N hN => ?_) ?_
    · refine ⟨fun m σ' H1 => ∃ b : Nat, σ' = [some (.ref p), some (.int (i : Int)), some (.int (a : Int)), some (.int (b : Int))] ∧ H1 = H' ∧ m = gs.length - b ∧ i + 1 ≤ b ∧ b + 1 ≤ gs.length ∧ ∀ k, i < k → k < b → togQ gs k, ⟨_, i + 1, rfl, rfl, rfl, Nat.le_refl _, by omega, fun k h1 h2 => absurd h1 (by omega)⟩, ?_⟩
      rintro m σ' H1 ⟨b, rfl, rfl, rfl, bi, bl, dn⟩
      refine ⟨_, rfl, _, rfl, p, _, _, _, rfl, hp, crs_j, _, _, rfl, .inl ⟨_, SqL.of hj, rfl⟩, _, _, rfl, rfl, _, rfl, ?_⟩
      refine if_dec (fun c => ?_) (fun c => ?_)
      · have bl' : b + 1 < gs.length := by omega
        refine ⟨_, rfl, p, _, _, rfl, hp, rfl, _, rfl, p, gs, now, n, g, j, b, rfl, cr, bl', _, rfl, ?_⟩
        refine if_dec (fun tg => ?_) (fun tg => ?_)
        · refine ⟨_, fun _ _ n => n, ?_⟩
          refine ⟨_, rfl, _, _, rfl, rfl, ?_⟩
          refine ⟨gs.length - (b + 1), by omega, b + 1, rfl, rfl, rfl, by omega, by omega, fun k h1 h2 => ?_⟩
          by_cases e : k = b
          · rw [e]
            exact tg
          · exact dn k h1 (by omega)
        · exact hN _ _ ⟨b, rfl, rfl, bi, bl, dn, .inr tg⟩
      · exact hN _ _ ⟨b, rfl, rfl, bi, bl, dn, .inl (by omega)⟩
    · rintro σ' H1 ⟨b, rfl, rfl, bi, bl, dn, hi⟩
      refine ⟨_, rfl, _, rfl, _, _, rfl, rfl, (a : Int), b + 1 - a, by rw [show (a : Int) + ((b + 1 - a : Nat) : Int) = (b : Int) + 1 by omega], by omega, by omega, by omega, ?_⟩
      intro p5 n5
      obtain ⟨H5, q5, s5, e5⟩ := newO n5 (.tup ((List.range (b + 1 - a)).map fun k : Nat => V.int ((a : Int) + (k : Int))))
      rw [q5]
      clear q5
      refine k p5 a (b + 1 - a) H5 s5 ⟨ai, by omega, by omega, up, low, fun k h1 h2 => dn k h1 (by omega), ?_⟩ e5
      rcases hi with e | e
      · exact .inl (by omega)
      · refine .inr ?_
        rw [show a + (b + 1 - a) - 1 = b by omega]
        exact e
noncomputable def CrwAt (gs : List Bod) (i : Nat) : Prop := (0 < i ∧ togQ gs (i - 1)) ∨ (i + 1 < (jnts gs).length ∧ togQ gs (i + 1))
noncomputable def FrsC (gs : List Bod) (i : Nat) : Prop := ∃ k : Nat, (leftsQ gs)[k]? = some i ∧ CrwAt gs i ∧ ∀ k' i' : Nat, k' < k → (leftsQ gs)[k']? = some i' → ¬ CrwAt gs i'
noncomputable def spC_crowd (K : PySem.W.Frag) (C : Addr) : Sp := fun vs H Q _ => ∃ (p : Addr) (gs : List Bod) (now : Rat) (n : Nat) (g j : Addr), vs = [.ref p] ∧ CrsAt K H C p gs now n g j ∧ gs.length ≤ 12 ∧ (¬ crwQ gs → ∀ H1, Same H H1 → Q .non H1) ∧ (crwQ gs → ∀ (r : Addr) (i a m : Nat) (H1 : Hp), Same H H1 → FrsC gs i → GathQ gs i a m → H1 r = some (.tup ((List.range m).map fun k : Nat => V.int ((a : Int) + (k : Int)))) → Q (.ref r) H1)
theorem sc_Course_crowd : FnScope ["self", "left", "numbers"] ["self"] (defScope (mthAt (top 31) 8)) := ⟨rfl, rfl, rfl, by decide +kernel, rfl, by decide +kernel, by decide +kernel⟩
theorem ok_Course_crowd (D : DfM K (C 0) "crowd" "Course.crowd" (mthAt (top 31) 8) ["self"]) (T : Tx K mg C) (F_Course_lefts : FnM P w K mg base 1 (C 0) "lefts" ["self"] (spC_lefts K (C 0))) (F_Course_gathered : FnM P w K mg base 3 (C 0) "gathered" ["self", "left"] (spC_gathered K (C 0))) : FnM P w K mg base 4 (C 0) "crowd" ["self"] (spC_crowd K (C 0)) := by
  refine D.ok0 sc_Course_crowd (fun vs H Q E h => ?_) (fun f cdv A outer s H vs Q E hr h => ?_)
  · obtain ⟨p, gs, now, n, g, j, rfl, _⟩ := h
    rfl
  obtain ⟨p, gs, now, n, g, j, rfl, cr, l12, kn, kc⟩ := h
  refine ⟨_, (pss_cons (ps_for PassesOwn.never rfl (pi_list (pe_mt0 T.cl_Course F_Course_lefts (by decide) hr passE0 (pv 0))) (pg_name (i := 1) sc_Course_crowd.nd rfl (Or.inl rfl)) (pss_cons (ps_set (i := 2) sc_Course_crowd.nd rfl (Or.inl rfl) (pe_mt T.cl_Course F_Course_gathered (by decide) hr passE0 (pv 0) (pa_cons (pv 1) pa_nil)))
      (pss_one (ps_if (pt_cmpR op_gt (pe_callB call_len (by rfl) T.b_len PyProof.Rows.Boot.«len» (pa_cons (pv 2) pa_nil)) pe_int (nomark _)) (pss_one (ps_ret (pv 2))) pss_nil))))
      (pss_one (ps_ret pe_non))), ?_⟩
  obtain ⟨dx, sh, nw, co, xs, ys, hp, hg, al, gsh, gnw, dnw, hj, aj, oc, ne⟩ := id cr
  refine ⟨_, rfl, p, _, _, rfl, hp, rfl, p, gs, now, n, g, j, rfl, cr, l12, fun r1 H1 s1 n1 e1 => ?_⟩
  have len : (intsN (leftsQ gs)).length = (leftsQ gs).length := List.length_map _
  refine ⟨r1, rfl, ⟨_, SqL.of e1⟩, for_list (K := K) (a := r1) (xs := intsN (leftsQ gs)) (fun k σ' H' => ∃ u1 u2 : Option V, σ' = [some (.ref p), u1, u2] ∧ Same H1 H' ∧ ∀ k' i' : Nat, k' < k → (leftsQ gs)[k']? = some i' → ¬ CrwAt gs i') ⟨_, _, rfl, Same.refl _, fun k' i' h => absurd h (by omega)⟩ (by rintro _ _ _ _ ⟨_, _, _, g, _⟩; exact SqL.of (g _ _ e1)) ?_ ?_⟩
  · rintro k x σ' H2 hx ⟨u1, u2, rfl, s2, below⟩
    unfold intsN at hx
    rw [List.getElem?_map] at hx
    obtain ⟨i, hi, rfl⟩ := Option.map_eq_some_iff.mp hx
    have lm := List.mem_of_getElem? hi
    obtain ⟨lg, _⟩ := lefts_lt lm
    have s12 := s1.trans s2
    refine ⟨_, rfl, p, _, _, rfl, s12 _ _ hp, rfl, _, rfl, p, gs, now, n, g, j, i, rfl, cr.same s12, l12, lg, fun r3 a m H3 s3 gq e3 => ?_⟩
    have two := gq.two
    refine ⟨_, rfl, _, _, rfl, .inr ⟨_, SqT.of e3, rfl⟩, _, _, rfl, rfl, _, rfl, ?_⟩
    refine if_dec (fun c => ?_) (fun c => ?_)
    · rw [List.length_map, List.length_range] at c
      have ca : CrwAt gs i := two.mp (by omega)
      exact ⟨_, rfl, kc ⟨i, lm, ca⟩ r3 i a m H3 (s12.trans s3) ⟨k, hi, ca, below⟩ gq e3⟩
    · rw [List.length_map, List.length_range] at c
      refine ⟨_, _, rfl, s2.trans s3, fun k' i' h1 h2 => ?_⟩
      by_cases e : k' = k
      · subst e
        cases hi.symm.trans h2
        exact fun z => c (by have := two.mpr z; omega)
      · exact below k' i' (by omega) h2
  · rintro σ' H2 ⟨u1, u2, rfl, s2, below⟩
    refine kn (fun z => ?_) H2 (s1.trans s2)
    obtain ⟨i, hi, ca⟩ := z
    obtain ⟨k, hk, ek⟩ := List.mem_iff_getElem.mp hi
    exact below k i (by rw [len]; exact hk) (by rw [List.getElem?_eq_getElem hk, ek]) ca
noncomputable def spC_is_crowded (K : PySem.W.Frag) (C : Addr) : Sp := fun vs H Q _ => ∃ (p : Addr) (gs : List Bod) (now : Rat) (n : Nat) (g j : Addr), vs = [.ref p] ∧ CrsAt K H C p gs now n g j ∧ gs.length ≤ 12 ∧ ∀ (b : Bool) (H1 : Hp), (b = true ↔ crwQ gs) → Same H H1 → Q (.bl b) H1
theorem sc_Course_is_crowded : FnScope ["self"] ["self"] (defScope (mthAt (top 31) 9)) := ⟨rfl, rfl, rfl, by decide +kernel, rfl, by decide +kernel, by decide +kernel⟩
theorem ok_Course_is_crowded (D : DfM K (C 0) "is_crowded" "Course.is_crowded" (mthAt (top 31) 9) ["self"]) (T : Tx K mg C) (F_Course_crowd : FnM P w K mg base 4 (C 0) "crowd" ["self"] (spC_crowd K (C 0))) : FnM P w K mg base 5 (C 0) "is_crowded" ["self"] (spC_is_crowded K (C 0)) := by
  refine D.ok0 sc_Course_is_crowded (fun vs H Q E h => ?_) (fun f cdv A outer s H vs Q E hr h => ?_)
  · obtain ⟨p, gs, now, n, g, j, rfl, _⟩ := h
    rfl
  obtain ⟨p, gs, now, n, g, j, rfl, cr, l12, k⟩ := h
  refine ⟨_, (pss_one (ps_ret (pe_cmpR op_notN (pe_mt0 T.cl_Course F_Course_crowd (by decide) hr passE0 (pv 0)) pe_non (nomark _)))), ?_⟩
  obtain ⟨dx, sh, nw, co, xs, ys, hp, _⟩ := id cr
  refine ⟨_, rfl, p, _, _, rfl, hp, rfl, p, gs, now, n, g, j, rfl, cr, l12, fun nc H1 s1 => ⟨rfl, ?_⟩, fun c r i a m H1 s1 fc gq e1 => ⟨rfl, ?_⟩⟩
  · exact k _ H1 ⟨fun z => Bool.noConfusion z, fun z => absurd z nc⟩ s1
  · exact k _ H1 ⟨fun _ => c, fun _ => rfl⟩ s1
noncomputable def sp_mixed (K : PySem.W.Frag) : Sp := fun vs H Q _ => ∃ (p_x : Addr) (x : Rat) (p_y : Addr) (y : Rat) (m : Int) (u : Int) (p_s : Addr) (s : Rat), vs = [.ref p_x, .ref p_y, .int m, .int u, .ref p_s] ∧ FQ K H p_x x ∧ FB 1990 x ∧ FQ K H p_y y ∧ FB 1990 y ∧ 1 ≤ m ∧ m ≤ 10000 ∧ 1 ≤ u ∧ u ≤ 10000 ∧ FQ K H p_s s ∧ FB 64 s ∧ (∀ (p_r : Addr) (H1 : Hp), Same H H1 → FQ K H1 p_r (mixS x y m u s) → Q (.ref p_r) H1)
theorem sc_mixed : FnScope ["own", "far", "weight", "mass", "share", "both", "kept", "taken"] ["own", "far", "weight", "mass", "share"] (defScope (top 27)) := ⟨rfl, rfl, rfl, by decide +kernel, rfl, by decide +kernel, by decide +kernel⟩
theorem ok_mixed (D : Df K mg "mixed" (top 27) ["own", "far", "weight", "mass", "share"]) (T : Tx K mg C) (F_fraction : Fn P w K mg base 2 "fraction" ["top", "bottom"] (sp_fraction K)) (F_times : Fn P w K mg base 2 "times" ["one", "other"] (sp_times K)) (F_plus : Fn P w K mg base 2 "plus" ["one", "other"] (sp_plus K)) : Fn P w K mg base 3 "mixed" ["own", "far", "weight", "mass", "share"] (sp_mixed K) := by
  refine D.ok0 sc_mixed (fun vs H Q E h => ?_) (fun f cdv A outer s H vs Q E hr h => ?_)
  · obtain ⟨p_x, x, p_y, y, m, u, p_s, s, rfl, _⟩ := h
    rfl
  obtain ⟨p_x, x, p_y, y, m, u, p_s, s, rfl, g_x, d_x, g_y, d_y, lo_m, hi_m, lo_u, hi_u, g_s, d_s, k0⟩ := h
  refine ⟨_, (pss_cons (ps_set (i := 5) sc_mixed.nd rfl (Or.inl rfl) (pe_op op_mulB (pe_op op_add (pv 2) (pv 3)) (pe_ix ix_tup (pv 4) pe_int (fun _ _ => rfl))))
      (pss_cons (ps_set (i := 6) sc_mixed.nd rfl (Or.inl rfl) (pe_fn F_times (by decide) hr (by rfl) passE0 (pa_cons (pv 0) (pa_cons (pe_fn F_fraction (by decide) hr (by rfl) passE0 (pa_cons (pe_op op_sub (pe_op op_mulB (pv 2) (pe_ix ix_tup (pv 4) pe_int (fun _ _ => rfl))) (pe_op op_mulB (pv 3) (pe_ix ix_tup (pv 4) pe_int (fun _ _ => rfl)))) (pa_cons (pv 5) pa_nil))) pa_nil))))
      (pss_cons (ps_set (i := 7) sc_mixed.nd rfl (Or.inl rfl) (pe_fn F_times (by decide) hr (by rfl) passE0 (pa_cons (pv 1) (pa_cons (pe_fn F_fraction (by decide) hr (by rfl) passE0 (pa_cons (pe_op op_mulB (pv 3) (pe_op op_add (pe_ix ix_tup (pv 4) pe_int (fun _ _ => rfl)) (pe_ix ix_tup (pv 4) pe_int (fun _ _ => rfl)))) (pa_cons (pv 5) pa_nil))) pa_nil))))
      (pss_one (ps_ret (pe_fn F_plus (by decide) hr (by rfl) passE0 (pa_cons (pv 6) (pa_cons (pv 7) pa_nil)))))))), ?_⟩
  refine ⟨_, rfl, _, rfl, _, _, rfl, rfl, _, rfl, p_s, _, _, _, rfl, rfl, g_s, rfl, _, _, rfl, rfl, ((Bd.add ((Bd.small (i := m) (by omega) (by omega)).mono (n := 64) (by decide)) ((Bd.small (i := u) (by omega) (by omega)).mono (n := 64) (by decide))).ok d_s.2 (by decide)), ?_⟩
  refine ⟨_, rfl, _, rfl, _, rfl, p_s, _, _, _, rfl, rfl, g_s, rfl, _, _, rfl, rfl, ((Bd.small (i := m) (by omega) (by omega)).ok d_s.2 (by decide)), _, rfl, _, rfl, p_s, _, _, _, rfl, rfl, g_s, rfl, _, _, rfl, rfl, ((Bd.small (i := u) (by omega) (by omega)).ok d_s.1 (by decide)), _, _, rfl, rfl, _, rfl, _, _, rfl, ((Bd.mul (Bd.add ((Bd.small (i := m) (by omega) (by omega)).mono (n := 64) (by decide)) ((Bd.small (i := u) (by omega) (by omega)).mono (n := 64) (by decide))) d_s.2).mono (by decide)), (by exact both_ne (by omega) (by omega)), fun p_r10 H10 s10 g_r10 => ?_⟩
  have d_r10 : FB 129 (Rat.divInt (((m * (((s).den : Nat) : Int)) - (u * (s).num))) (((m + u) * (((s).den : Nat) : Int)))) := (FB.mono (FB.fit (by exact both_ne (by omega) (by omega)) ((Bd.sub ((Bd.mul (Bd.small (i := m) (by omega) (by omega)) d_s.2).mono (n := 128) (by decide)) ((Bd.mul (Bd.small (i := u) (by omega) (by omega)) d_s.1).mono (n := 128) (by decide))).mono (n := 129) (by decide)) ((Bd.mul (Bd.add ((Bd.small (i := m) (by omega) (by omega)).mono (n := 64) (by decide)) ((Bd.small (i := u) (by omega) (by omega)).mono (n := 64) (by decide))) d_s.2).mono (n := 129) (by decide))) (by decide))
  replace g_x := (Kw.Same.tup s10 g_x)
  refine ⟨_, _, _, _, rfl, g_x, (FB.mono d_x (by decide)), g_r10, (FB.mono d_r10 (by decide)), fun p_r11 H11 s11 g_r11 => ?_⟩
  have d_r11 : FB 2119 (x * ((Rat.divInt (((m * (((s).den : Nat) : Int)) - (u * (s).num))) (((m + u) * (((s).den : Nat) : Int)))))) := (FB.mono (FB.mul d_x d_r10) (by decide))
  replace g_s := (Kw.Same.tup s11 (Kw.Same.tup s10 g_s))
  refine ⟨_, rfl, _, rfl, _, rfl, p_s, _, _, _, rfl, rfl, g_s, rfl, _, rfl, p_s, _, _, _, rfl, rfl, g_s, rfl, _, _, rfl, rfl, _, _, rfl, rfl, ((Bd.small (i := u) (by omega) (by omega)).ok (Bd.add (d_s.2.mono (n := 64) (by decide)) (d_s.1.mono (n := 64) (by decide))) (by decide)), _, rfl, _, _, rfl, ((Bd.mul (Bd.add ((Bd.small (i := m) (by omega) (by omega)).mono (n := 64) (by decide)) ((Bd.small (i := u) (by omega) (by omega)).mono (n := 64) (by decide))) d_s.2).mono (by decide)), (by exact both_ne (by omega) (by omega)), fun p_r12 H12 s12 g_r12 => ?_⟩
  have d_r12 : FB 129 (Rat.divInt ((u * ((((s).den : Nat) : Int) + (s).num))) (((m + u) * (((s).den : Nat) : Int)))) := (FB.mono (FB.fit (by exact both_ne (by omega) (by omega)) ((Bd.mul (Bd.small (i := u) (by omega) (by omega)) (Bd.add (d_s.2.mono (n := 64) (by decide)) (d_s.1.mono (n := 64) (by decide)))).mono (n := 129) (by decide)) ((Bd.mul (Bd.add ((Bd.small (i := m) (by omega) (by omega)).mono (n := 64) (by decide)) ((Bd.small (i := u) (by omega) (by omega)).mono (n := 64) (by decide))) d_s.2).mono (n := 129) (by decide))) (by decide))
  replace g_y := (Kw.Same.tup s12 (Kw.Same.tup s11 (Kw.Same.tup s10 g_y)))
  refine ⟨_, _, _, _, rfl, g_y, (FB.mono d_y (by decide)), g_r12, (FB.mono d_r12 (by decide)), fun p_r13 H13 s13 g_r13 => ?_⟩
  have d_r13 : FB 2119 (y * ((Rat.divInt ((u * ((((s).den : Nat) : Int) + (s).num))) (((m + u) * (((s).den : Nat) : Int)))))) := (FB.mono (FB.mul d_y d_r12) (by decide))
  replace g_r11 := (Kw.Same.tup s13 (Kw.Same.tup s12 g_r11))
  refine ⟨_, rfl, _, rfl, _, _, _, _, rfl, g_r11, (FB.mono d_r11 (by decide)), g_r13, (FB.mono d_r13 (by decide)), fun p_r14 H14 s14 g_r14 => ?_⟩
  have d_r14 : FB 4239 (((x * ((Rat.divInt (((m * (((s).den : Nat) : Int)) - (u * (s).num))) (((m + u) * (((s).den : Nat) : Int))))))) + ((y * ((Rat.divInt ((u * ((((s).den : Nat) : Int) + (s).num))) (((m + u) * (((s).den : Nat) : Int)))))))) := (FB.mono (FB.add d_r11 d_r13) (by decide))
  have e15 : ((((x * ((Rat.divInt (((m * (((s).den : Nat) : Int)) - (u * (s).num))) (((m + u) * (((s).den : Nat) : Int))))))) + ((y * ((Rat.divInt ((u * ((((s).den : Nat) : Int) + (s).num))) (((m + u) * (((s).den : Nat) : Int)))))))) : Rat) = mixS x y m u s := by rfl
  exact k0 _ _ (s10.trans (s11.trans (s12.trans (s13.trans s14)))) (FQ.cast g_r14 e15)
noncomputable def sp_behind (K : PySem.W.Frag) : Sp := fun vs H Q _ => ∃ (p a c : Addr) (x v : Rat) (m : Int) (p' a' c' : Addr) (x' v' : Rat) (m' : Int) (sh : Addr), vs = [.ref p, .ref p', .ref sh] ∧ SqT K H p [.ref a, .ref c, .int m] ∧ FQ K H a x ∧ FQ K H c v ∧ FB 1990 x ∧ FB 1990 v ∧ 1 ≤ m ∧ m ≤ 10000 ∧ SqT K H p' [.ref a', .ref c', .int m'] ∧ FQ K H a' x' ∧ FQ K H c' v' ∧ FB 1990 x' ∧ FB 1990 v' ∧ 1 ≤ m' ∧ m' ≤ 10000 ∧ FQ K H sh ((1 : Int) : Rat) ∧ ∀ (r f1 f2 : Addr) (H1 : Hp), Same H H1 → SqT K H1 r [.ref f1, .ref f2, .int m] → FQ K H1 f1 (mixQ x x' m m') → FQ K H1 f2 (mixQ v v' m m') → Q (.ref r) H1
theorem sc_behind : FnScope ["one", "other", "share", "place", "speed"] ["one", "other", "share"] (defScope (top 28)) := ⟨rfl, rfl, rfl, by decide +kernel, rfl, by decide +kernel, by decide +kernel⟩
theorem ok_behind (D : Df K mg "behind" (top 28) ["one", "other", "share"]) (T : Tx K mg C) (F_mixed : Fn P w K mg base 3 "mixed" ["own", "far", "weight", "mass", "share"] (sp_mixed K)) : Fn P w K mg base 4 "behind" ["one", "other", "share"] (sp_behind K) := by
  refine D.ok0 sc_behind (fun vs H Q E h => ?_) (fun f cdv A outer s H vs Q E hr h => ?_)
  · obtain ⟨p, a, c, x, v, m, p', a', c', x', v', m', sh, rfl, _⟩ := h
    rfl
  obtain ⟨p, a, c, x, v, m, p', a', c', x', v', m', sh, rfl, hp, ga, gc, da, dc, m1, m2, hp', ga', gc', da', dc', m1', m2', gsh, k⟩ := h
  refine ⟨_, (pss_cons (ps_set (i := 3) sc_behind.nd rfl (Or.inl rfl) (pe_fn F_mixed (by decide) hr (by rfl) passE0 (pa_cons (pe_ix ix_tup (pv 0) pe_int (fun _ _ => rfl)) (pa_cons (pe_ix ix_tup (pv 1) pe_int (fun _ _ => rfl)) (pa_cons (pe_ix ix_tup (pv 0) pe_int (fun _ _ => rfl)) (pa_cons (pe_ix ix_tup (pv 1) pe_int (fun _ _ => rfl)) (pa_cons (pv 2) pa_nil)))))))
      (pss_cons (ps_set (i := 4) sc_behind.nd rfl (Or.inl rfl) (pe_fn F_mixed (by decide) hr (by rfl) passE0 (pa_cons (pe_ix ix_tup (pv 0) pe_int (fun _ _ => rfl)) (pa_cons (pe_ix ix_tup (pv 1) pe_int (fun _ _ => rfl)) (pa_cons (pe_ix ix_tup (pv 0) pe_int (fun _ _ => rfl)) (pa_cons (pe_ix ix_tup (pv 1) pe_int (fun _ _ => rfl)) (pa_cons (pv 2) pa_nil)))))))
      (pss_one (ps_ret (pe_tup (pa_cons (pv 3) (pa_cons (pv 4) (pa_cons (pe_ix ix_tup (pv 0) pe_int (fun _ _ => rfl)) pa_nil)))))))), ?_⟩
  have ds : FB 64 ((1 : Int) : Rat) := FB.ofInt (Bd.small (i := 1) (by decide) (by decide)) (by decide)
  refine ⟨_, rfl, p, _, _, _, rfl, rfl, hp, rfl, _, rfl, p', _, _, _, rfl, rfl, hp', rfl, _, rfl, p, _, _, _, rfl, rfl, hp, rfl, _, rfl, p', _, _, _, rfl, rfl, hp', rfl, _, rfl, a, x, a', x', m, m', sh, _, rfl, ga, da, ga', da', m1, m2, m1', m2', gsh, ds, fun r1 H1 s1 g1 => ?_⟩
  have hp1 := Kw.Same.tup s1 hp
  have hp1' := Kw.Same.tup s1 hp'
  refine ⟨_, rfl, p, _, _, _, rfl, rfl, hp1, rfl, _, rfl, p', _, _, _, rfl, rfl, hp1', rfl, _, rfl, p, _, _, _, rfl, rfl, hp1, rfl, _, rfl, p', _, _, _, rfl, rfl, hp1', rfl, _, rfl, c, v, c', v', m, m', sh, _, rfl, Kw.Same.tup s1 gc, dc, Kw.Same.tup s1 gc', dc', m1, m2, m1', m2', Kw.Same.tup s1 gsh, ds, fun r2 H2 s2 g2 => ?_⟩
  have hp2 := Kw.Same.tup s2 hp1
  refine ⟨_, rfl, _, rfl, _, rfl, p, _, _, _, rfl, rfl, hp2, rfl, by show 3 ≤ sizeLine; decide, ?_⟩
  intro p3 n3
  obtain ⟨H3, q3, s3, e3⟩ := newO n3 (.tup [.ref r1, .ref r2, .int m])
  rw [q3]
  clear q3
  exact k p3 r1 r2 H3 (s1.trans (s2.trans s3)) (SqT.of e3) (FQ.cast (Kw.Same.tup (s2.trans s3) g1) (mixS_one _ _ _ _)) (FQ.cast (Kw.Same.tup s3 g2) (mixS_one _ _ _ _))
noncomputable def spC_part (K : PySem.W.Frag) (C : Addr) : Sp := fun vs H Q _ => ∃ (p dx g sh nw : Addr) (n : Int) (j : Addr) (co : V) (xs ys : List V) (gs : List Bod) (i : Nat), vs = [.ref p, .int (i : Int)] ∧ H p = some (.ins C dx (crs g sh nw n j co)) ∧ H g = some (.lst xs) ∧ Al2 (BdQ K H 1990) xs gs ∧ FQ K H sh ((1 : Int) : Rat) ∧ H j = some (.lst ys) ∧ Al2 (OptR K H) ys (jnts gs) ∧ g ≠ j ∧ gs.length ≤ 12 ∧ i + 1 < gs.length ∧ Com 1974 gs ∧ ∀ (xs' ys' : List V) (H1 : Hp), Buts [g, j] H H1 → H1 g = some (.lst xs') → Al2 (BdQ K H1 1990) xs' (partQ gs i) → H1 j = some (.lst ys') → Al2 (OptR K H1) ys' (jnts (partQ gs i)) → Q .non H1
theorem sc_Course_part : FnScope ["self", "left", "one", "other", "near"] ["self", "left"] (defScope (mthAt (top 31) 12)) := ⟨rfl, rfl, rfl, by decide +kernel, rfl, by decide +kernel, by decide +kernel⟩
theorem ok_Course_part (D : DfM K (C 0) "part" "Course.part" (mthAt (top 31) 12) ["self", "left"]) (T : Tx K mg C) (F_behind : Fn P w K mg base 4 "behind" ["one", "other", "share"] (sp_behind K)) (F_joint_moment : Fn P w K mg base 4 "joint_moment" ["one", "other"] (sp_joint_moment K)) : FnM P w K mg base 5 (C 0) "part" ["self", "left"] (spC_part K (C 0)) := by
  refine D.ok0 sc_Course_part (fun vs H Q E h => ?_) (fun f cdv A outer s H vs Q E hr h => ?_)
  · obtain ⟨p, dx, g, sh, nw, n, j, co, xs, ys, gs, i, rfl, _⟩ := h
    rfl
  obtain ⟨p, dx, g, sh, nw, n, j, co, xs, ys, gs, i, rfl, hp, hg, al, gsh, hj, aj, ne, l12, i1, com, k⟩ := h
  refine ⟨_, (pss_cons (ps_set (i := 2) sc_Course_part.nd rfl (Or.inl rfl) (pe_ix ix_list (pe_fldC T.cl_Course T.n_Course_goings (pv 0)) (pv 1) (fun _ _ => rfl)))
      (pss_cons (ps_set (i := 3) sc_Course_part.nd rfl (Or.inl rfl) (pe_ix ix_list (pe_fldC T.cl_Course T.n_Course_goings (pv 0)) (pe_op op_add (pv 1) pe_int) (fun _ _ => rfl)))
      (pss_cons (ps_asg (pe_fn F_behind (by decide) hr (by rfl) passE0 (pa_cons (pv 2) (pa_cons (pv 3) (pa_cons (pe_fldC T.cl_Course T.n_Course_share (pv 0)) pa_nil)))) (pg_sub (pe_fldC T.cl_Course T.n_Course_goings (pv 0)) (pv 1) set_list))
      (pss_cons (ps_asg (pe_fn F_behind (by decide) hr (by rfl) passE0 (pa_cons (pv 3) (pa_cons (pv 2) (pa_cons (pe_fldC T.cl_Course T.n_Course_share (pv 0)) pa_nil)))) (pg_sub (pe_fldC T.cl_Course T.n_Course_goings (pv 0)) (pe_op op_add (pv 1) pe_int) set_list))
      (pss_one (ps_for PassesOwn.never rfl (pi_range2 (by rfl) T.b_range (pa_cons (pe_callB (call_max2 rfl) (by rfl) T.b_max PyProof.Rows.Boot.«max» (pa_cons (pe_op op_sub (pv 1) pe_int) (pa_cons pe_int pa_nil))) (pa_cons (pe_callB (call_min2 rfl) (by rfl) T.b_min PyProof.Rows.Boot.«min» (pa_cons (pe_op op_add (pv 1) pe_int) (pa_cons (pe_callB call_len (by rfl) T.b_len PyProof.Rows.Boot.«len» (pa_cons (pe_fldC T.cl_Course T.n_Course_joints (pv 0)) pa_nil)) pa_nil))) pa_nil))) (pg_name (i := 4) sc_Course_part.nd rfl (Or.inl rfl)) (pss_one (ps_asg (pe_fn F_joint_moment (by decide) hr (by rfl) passE0 (pa_cons (pe_ix ix_list (pe_fldC T.cl_Course T.n_Course_goings (pv 0)) (pv 4) (fun _ _ => rfl)) (pa_cons (pe_ix ix_list (pe_fldC T.cl_Course T.n_Course_goings (pv 0)) (pe_op op_add (pv 4) pe_int) (fun _ _ => rfl)) pa_nil))) (pg_sub (pe_fldC T.cl_Course T.n_Course_joints (pv 0)) (pv 4) set_list))))))))), ?_⟩
  have hz := Al2.len al
  have lj := Al2.len aj
  have lg := jnts_len gs
  have png : p ≠ g := ne_of hp hg (by intro z; cases z)
  have pnj : p ≠ j := ne_of hp hj (by intro z; cases z)
  have hw : ∀ b ∈ gs, 1 ≤ b.2.2 ∧ b.2.2 ≤ 10000 := fun b hb => by
    obtain ⟨k, hk, ek⟩ := List.mem_iff_getElem.mp hb
    obtain ⟨v, hv⟩ : ∃ v, xs[k]? = some v := ⟨_, List.getElem?_eq_getElem (by omega)⟩
    obtain ⟨b', hb', _, _, _, _, _, _, _, _, _, w1, w2⟩ := Al2.get al hv
    rw [List.getElem?_eq_getElem hk, ek] at hb'
    cases hb'
    exact ⟨w1, w2⟩
  have com' := com.part hw i1
  obtain ⟨va, hva⟩ : ∃ va, xs[i]? = some va := ⟨_, List.getElem?_eq_getElem (by omega)⟩
  obtain ⟨vb, hvb⟩ : ∃ vb, xs[i + 1]? = some vb := ⟨_, List.getElem?_eq_getElem (by omega)⟩
  obtain ⟨a, ha, pa, a1, c1, rfl, x1, x2, x3, x4, x5, x6, x7⟩ := Al2.get al hva
  obtain ⟨b, hb, pb, a2, c2, rfl, y1, y2, y3, y4, y5, y6, y7⟩ := Al2.get al hvb
  have ea := bodAt_of ha
  have eb := bodAt_of hb
  refine ⟨_, rfl, p, _, _, _, rfl, hp, crs_g, _, rfl, g, _, _, _, rfl, rfl, SqL.of hg, atI_nat hva, ?_⟩
  refine ⟨_, rfl, p, _, _, _, rfl, hp, crs_g, _, rfl, _, _, rfl, rfl, g, _, _, _, rfl, rfl, SqL.of hg, atI_nat hvb, ?_⟩
  refine ⟨_, rfl, _, rfl, _, rfl, p, _, _, _, rfl, hp, crs_s, pa, a1, c1, _, _, _, pb, a2, c2, _, _, _, sh, rfl, x1, x2, x3, x4, x5, x6, x7, y1, y2, y3, y4, y5, y6, y7, gsh, fun r1 f1 f2 H1 s1 t1 u1 w1 => ?_⟩
  have hg1 := s1 _ _ hg
  refine ⟨_, rfl, p, _, _, _, rfl, s1 _ _ hp, crs_g, _, rfl, g, xs, _, i, rfl, rfl, hg1, ixN_nat (by omega), ?_⟩
  obtain ⟨H2, q2, s2, e2⟩ := newB (H := H1) (p := g) (.lst (xs.set i (V.ref r1)))
  dsimp only
  rw [q2]
  clear q2
  have tk2 : ∀ {q : Addr} {zs : List V}, SqT K H q zs → SqT K H2 q zs := fun h => s2.tup hg1 (Kw.Same.tup s1 h)
  have hp2 := s2 _ _ png (s1 _ _ hp)
  refine ⟨_, rfl, _, rfl, _, rfl, p, _, _, _, rfl, hp2, crs_s, pb, a2, c2, _, _, _, pa, a1, c1, _, _, _, sh, rfl, tk2 y1, tk2 y2, tk2 y3, y4, y5, y6, y7, tk2 x1, tk2 x2, tk2 x3, x4, x5, x6, x7, tk2 gsh, fun r3 f3 f4 H3 s3 t3 u3 w3 => ?_⟩
  have hg3 := s3 _ _ e2
  refine ⟨_, rfl, p, _, _, _, rfl, s3 _ _ hp2, crs_g, _, rfl, _, _, rfl, rfl, g, _, _, i + 1, rfl, rfl, hg3, ixN_nat (j := i + 1) (by rw [List.length_set]; omega), ?_⟩
  obtain ⟨H4, q4, s4, e4⟩ := newB (H := H3) (p := g) (.lst ((xs.set i (V.ref r1)).set (i + 1) (V.ref r3)))
  dsimp only
  rw [q4]
  clear q4
  have B4 : But g H H4 := (But.of s1).trans (s2.trans ((But.of s3).trans s4))
  have hp4 := B4 _ _ png hp
  have hj4 := B4 _ _ (Ne.symm ne) hj
  have fb1 := com'.fb (behQ a b) (by
    have z : bodAt (partQ gs i) i = behQ a b := by rw [part_at i1, if_pos rfl, ea, eb]
    rw [← z]
    exact List.mem_of_getElem? (bodAt_get (by rw [partQ_len]; omega)))
  have fb3 := com'.fb (behQ b a) (by
    have z : bodAt (partQ gs i) (i + 1) = behQ b a := by rw [part_at i1, if_neg (by omega), if_pos rfl, ea, eb]
    rw [← z]
    exact List.mem_of_getElem? (bodAt_get (by rw [partQ_len]; omega)))
  have up1 : BdQ K H4 1990 (.ref r1) (behQ a b) := ⟨r1, f1, f2, rfl, s4.tup hg3 (Kw.Same.tup s3 (s2.tup hg1 t1)), s4.tup hg3 (Kw.Same.tup s3 (s2.tup hg1 u1)), s4.tup hg3 (Kw.Same.tup s3 (s2.tup hg1 w1)), fb1.1.mono (by decide), fb1.2.mono (by decide), x6, x7⟩
  have up3 : BdQ K H4 1990 (.ref r3) (behQ b a) := ⟨r3, f3, f4, rfl, s4.tup hg3 t3, s4.tup hg3 u3, s4.tup hg3 w3, fb3.1.mono (by decide), fb3.2.mono (by decide), y6, y7⟩
  have eP : partQ gs i = (gs.set i (behQ a b)).set (i + 1) (behQ b a) := by unfold partQ; rw [ea, eb]
  have al4 : Al2 (BdQ K H4 1990) ((xs.set i (V.ref r1)).set (i + 1) (V.ref r3)) (partQ gs i) := by
    rw [eP]
    exact Al2.set (Al2.set (bds_but (bds_same (bds_but (bds_same al s1) s2 hg1) s3) s4 hg3) up1) up3
  have aj4 : Al2 (OptR K H4) ys (jnts gs) := opts_buts aj (Buts.one B4 (List.mem_singleton.mpr rfl)) (NoT.lst hg NoT.nil)
  obtain ⟨gs', eg⟩ : ∃ gs', partQ gs i = gs' := ⟨_, rfl⟩
  have lp : gs'.length = gs.length := by rw [← eg]; exact partQ_len gs i
  have far := fun k h1 h2 h3 => part_far (gs := gs) (i := i) (k := k) i1 h1 h2 h3
  rw [eg] at al4 com' far k
  have hz' := Al2.len al4
  obtain ⟨xs', exs⟩ : ∃ xs', (xs.set i (V.ref r1)).set (i + 1) (V.ref r3) = xs' := ⟨_, rfl⟩
  rw [exs] at e4 al4 hz'
  refine ⟨_, rfl, _, _, rfl, rfl, _, _, rfl, _, rfl, _, _, rfl, rfl, _, rfl, p, _, _, _, rfl, hp4, crs_j, _, _, rfl, .inl ⟨_, SqL.of hj4, rfl⟩, _, _, rfl, ?_⟩
  have elo : (if (0 : Int) > (i : Int) - 1 then (0 : Int) else (i : Int) - 1) = ((i - 1 : Nat) : Int) := by split <;> omega
  have ehi : (if ((ys.length : Nat) : Int) < (i : Int) + 2 then ((ys.length : Nat) : Int) else (i : Int) + 2) = ((min ys.length (i + 2) : Nat) : Int) := by split <;> omega
  rw [elo, ehi]
  refine ⟨_, _, rfl, ⟨by omega, by omega, by omega, by omega⟩, for_range (lo := ((i - 1 : Nat) : Int)) (n := (((min ys.length (i + 2) : Nat) : Int) - ((i - 1 : Nat) : Int)).toNat) (fun c σ' H' => ∃ (u4 : Option V) (zs : List V) (js : List (Option Rat)), σ' = [some (.ref p), some (.int (i : Int)), some (.ref pa), some (.ref pb), u4] ∧ But j H4 H' ∧ H' j = some (.lst zs) ∧ Al2 (OptR K H') zs js ∧ js.length = (jnts gs).length ∧ ∀ k : Nat, (i - 1 ≤ k → k < i - 1 + c → js[k]? = (jnts gs')[k]?) ∧ (¬ (i - 1 ≤ k ∧ k < i - 1 + c) → js[k]? = (jnts gs)[k]?)) ⟨_, ys, jnts gs, rfl, But.refl _, hj4, aj4, rfl, fun k => ⟨fun h1 h2 => absurd h2 (by omega), fun _ => rfl⟩⟩ ?_ ?_⟩
  · rintro c σ' H5 hc ⟨u4, zs, js, rfl, s5, hz5, az5, lz, rel⟩
    obtain ⟨e, ee⟩ : ∃ e : Nat, i - 1 + c = e := ⟨_, rfl⟩
    have ec : ((i - 1 : Nat) : Int) + (c : Int) = (e : Int) := by omega
    have e1 : e + 1 < gs.length := by omega
    have bs5 : Buts [j] H4 H5 := Buts.one s5 (List.mem_singleton.mpr rfl)
    have nt4 : NoT [j] H4 := NoT.lst hj4 NoT.nil
    have al5 := bs5.bds nt4 al4
    have hg5 := s5 _ _ ne e4
    have hp5 := s5 _ _ pnj hp4
    obtain ⟨vc, hvc⟩ : ∃ vc, xs'[e]? = some vc := ⟨_, List.getElem?_eq_getElem (by omega)⟩
    obtain ⟨vd, hvd⟩ : ∃ vd, xs'[e + 1]? = some vd := ⟨_, List.getElem?_eq_getElem (by omega)⟩
    obtain ⟨bc, hbc, qc, c3, c4, rfl, z1, z2, z3, z4, z5, z6, z7⟩ := Al2.get al5 hvc
    obtain ⟨bd, hbd, qd, d3, d4, rfl, v1, v2, v3, v4, v5, v6, v7⟩ := Al2.get al5 hvd
    have jn := jnts_get hbc hbd
    have mc := List.mem_of_getElem? hbc
    have md := List.mem_of_getElem? hbd
    have lzs := Al2.len az5
    have fin : ∀ (w : V) (H6 : Hp), Same H5 H6 → OptR K H6 w (jntQ bc bd) → ∀ (H7 : Hp), But j H6 H7 → H7 j = some (.lst (zs.set e w)) → ∃ (u4 : Option V) (zs : List V) (js : List (Option Rat)), [some (V.ref p), some (.int (i : Int)), some (.ref pa), some (.ref pb), some (.int (e : Int))] = [some (.ref p), some (.int (i : Int)), some (.ref pa), some (.ref pb), u4] ∧ But j H4 H7 ∧ H7 j = some (.lst zs) ∧ Al2 (OptR K H7) zs js ∧ js.length = (jnts gs).length ∧ ∀ k : Nat, (i - 1 ≤ k → k < i - 1 + (c + 1) → js[k]? = (jnts gs')[k]?) ∧ (¬ (i - 1 ≤ k ∧ k < i - 1 + (c + 1)) → js[k]? = (jnts gs)[k]?) := fun w H6 s6 ow H7 s7 e7 => by
      have hz6 := s6 _ _ hz5
      refine ⟨_, _, js.set e (jntQ bc bd), rfl, s5.trans ((But.of s6).trans s7), e7, ?_, by rw [List.length_set]; exact lz, fun k => ?_⟩
      · exact opts_buts (Al2.set (opts_same az5 s6) ow) (Buts.one s7 (List.mem_singleton.mpr rfl)) (NoT.lst hz6 NoT.nil)
      · by_cases q : k = e
        · subst q
          refine ⟨fun _ _ => ?_, fun z => absurd (show i - 1 ≤ k ∧ k < i - 1 + (c + 1) by omega) z⟩
          rw [List.getElem?_set_self (by omega), jn]
        · have z := rel k
          refine ⟨fun h1 h2 => ?_, fun h => ?_⟩
          · rw [List.getElem?_set_ne (Ne.symm q)]
            exact z.1 h1 (by omega)
          · rw [List.getElem?_set_ne (Ne.symm q)]
            exact z.2 (by omega)
    rw [ec]
    refine ⟨_, rfl, p, _, _, _, rfl, hp5, crs_g, _, rfl, g, _, _, _, rfl, rfl, SqL.of hg5, atI_nat hvc, _, rfl, p, _, _, _, rfl, hp5, crs_g, _, rfl, _, _, rfl, rfl, g, _, _, _, rfl, rfl, SqL.of hg5, atI_nat hvd, qc, c3, c4, _, _, _, qd, d3, d4, _, _, _, rfl, z1, z2, z3, z4, z5, z6, z7, v1, v2, v3, v4, v5, v6, v7, fun cc H6 s6 => ?_, fun cc r6 H6 s6 g6 => ?_⟩
    · refine ⟨_, rfl, p, _, _, _, rfl, s6 _ _ hp5, crs_j, _, rfl, j, zs, _, e, rfl, rfl, s6 _ _ hz5, ixN_nat (by omega), ?_⟩
      obtain ⟨H7, q7, s7, e7⟩ := newB (H := H6) (p := j) (.lst (zs.set e V.non))
      dsimp only
      rw [q7]
      clear q7
      exact fin _ H6 s6 (by rw [jnt_none cc]; exact .inl ⟨rfl, rfl⟩) H7 s7 e7
    · refine ⟨_, rfl, p, _, _, _, rfl, s6 _ _ hp5, crs_j, _, rfl, j, zs, _, e, rfl, rfl, s6 _ _ hz5, ixN_nat (by omega), ?_⟩
      obtain ⟨H7, q7, s7, e7⟩ := newB (H := H6) (p := j) (.lst (zs.set e (V.ref r6)))
      dsimp only
      rw [q7]
      clear q7
      exact fin _ H6 s6 (by rw [jnt_some cc]; exact .inr ⟨_, r6, rfl, rfl, g6, com'.jnt mc md (jnt_some cc)⟩) H7 s7 e7
  · rintro σ' H5 ⟨u4, zs, js, rfl, s5, hz5, az5, lz, rel⟩
    have ej : js = jnts gs' := by
      refine List.ext_getElem? fun k => ?_
      by_cases q : i - 1 ≤ k ∧ k < i - 1 + (((min ys.length (i + 2) : Nat) : Int) - ((i - 1 : Nat) : Int)).toNat
      · exact (rel k).1 q.1 q.2
      · rw [(rel k).2 q]
        by_cases kl : k + 1 < gs.length
        · exact (far k (by omega) (by omega) (by omega)).symm
        · rw [jnts_no kl, jnts_no (by rw [lp]; exact kl)]
    rw [ej] at az5
    refine k xs' zs H5 ?_ (s5 _ _ ne e4) ?_ hz5 az5
    · exact (Buts.one B4 (by simp)).trans (Buts.one s5 (by simp))
    · exact (Buts.one s5 (List.mem_singleton.mpr rfl) : Buts [j] H4 H5).bds (NoT.lst hj4 NoT.nil) al4
noncomputable def spC_go_on (K : PySem.W.Frag) (C : Addr) : Sp := fun vs H Q _ => ∃ (p : Addr) (gs : List Bod) (now : Rat) (n : Nat) (g j : Addr) (t : Rat) (B : Nat), vs = [.ref p] ∧ CrsAt K H C p gs now n g j ∧ gs.length ≤ 12 ∧ cmng gs = some t ∧ Com B gs ∧ B + 180 ≤ 1974 ∧ ∀ H1 : Hp, Buts [p, g, j] H H1 → CrsAt K H1 C p (onQ gs) t (n + 1) g j → Com (B + 180) (onQ gs) → Q .non H1
theorem sc_Course_go_on : FnScope ["self", "lefts", "left"] ["self"] (defScope (mthAt (top 31) 11)) := ⟨rfl, rfl, rfl, by decide +kernel, rfl, by decide +kernel, by decide +kernel⟩
theorem ok_Course_go_on (D : DfM K (C 0) "go_on" "Course.go_on" (mthAt (top 31) 11) ["self"]) (T : Tx K mg C) (F_Course_lefts : FnM P w K mg base 1 (C 0) "lefts" ["self"] (spC_lefts K (C 0))) (F_Course_part : FnM P w K mg base 5 (C 0) "part" ["self", "left"] (spC_part K (C 0))) (F_Course_look_ahead : FnM P w K mg base 3 (C 0) "look_ahead" ["self"] (spC_look_ahead K (C 0))) : FnM P w K mg base 6 (C 0) "go_on" ["self"] (spC_go_on K (C 0)) := by
  refine D.ok0 sc_Course_go_on (fun vs H Q E h => ?_) (fun f cdv A outer s H vs Q E hr h => ?_)
  · obtain ⟨p, gs, now, n, g, j, t, B, rfl, _⟩ := h
    rfl
  obtain ⟨p, gs, now, n, g, j, t, B, rfl, cr, l12, et, com, hB, k⟩ := h
  refine ⟨_, (pss_cons (ps_set (i := 1) sc_Course_go_on.nd rfl (Or.inl rfl) (pe_mt0 T.cl_Course F_Course_lefts (by decide) hr passE0 (pv 0)))
      (pss_cons (ps_fldC T.cl_Course T.n_Course_now (pv 0) (pe_fldC T.cl_Course T.n_Course_coming (pv 0)))
      (pss_cons (ps_fldadd T.cl_Course T.n_Course_gone_through in_add (pv 0) pe_int)
      (pss_cons (ps_for PassesOwn.never rfl (pi_list (pv 1)) (pg_name (i := 2) sc_Course_go_on.nd rfl (Or.inl rfl)) (pss_one (ps_expr (pe_mt T.cl_Course F_Course_part (by decide) hr passE0 (pv 0) (pa_cons (pv 2) pa_nil)))))
      (pss_one (ps_expr (pe_mt0 T.cl_Course F_Course_look_ahead (by decide) hr passE0 (pv 0)))))))), ?_⟩
  obtain ⟨dx, sh, nw, co, xs, ys, hp, hg, al, gsh, gnw, dnw, hj, aj, oc, ne⟩ := id cr
  have png : p ≠ g := ne_of hp hg (by intro z; cases z)
  have pnj : p ≠ j := ne_of hp hj (by intro z; cases z)
  refine ⟨_, rfl, p, _, _, rfl, hp, rfl, p, gs, now, n, g, j, rfl, cr, l12, fun r1 H1 s1 n1 e1 => ?_⟩
  have hp1 := s1 _ _ hp
  obtain ⟨pt, rfl, gt1, dt⟩ : ∃ pt : Addr, co = .ref pt ∧ FQ K H1 pt t ∧ FB 1990 t := by
    rcases oc.same s1 with ⟨e, _⟩ | ⟨q, pt, e, e', g', d'⟩
    · rw [et] at e
      cases e
    · rw [et] at e
      injection e with e
      subst e
      exact ⟨pt, e', g', d'⟩
  refine ⟨_, rfl, p, _, _, _, rfl, hp1, crs_c, _, rfl, p, dx, _, rfl, hp1, by show (6 : Nat) < 1000; decide, ?_⟩
  obtain ⟨H2, q2, s2, e2⟩ := newB (H := H1) (p := p) (.ins (C 0) dx (putF ("now" : Str) (V.ref pt) (crs g sh nw (n : Int) j (.ref pt))))
  dsimp only
  rw [q2]
  clear q2
  replace e2 : H2 p = some (.ins (C 0) dx (crs g sh pt (n : Int) j (.ref pt))) := e2
  refine ⟨_, rfl, p, dx, _, _, rfl, e2, crs_t, 1, rfl, rfl, by show (6 : Nat) < 1000; decide, ?_⟩
  obtain ⟨H3, q3, s3, e3⟩ := newB (H := H2) (p := p) (.ins (C 0) dx (putF ("gone_through" : Str) (V.int ((n : Int) + 1)) (crs g sh pt (n : Int) j (.ref pt))))
  dsimp only
  rw [q3]
  clear q3
  replace e3 : H3 p = some (.ins (C 0) dx (crs g sh pt ((n + 1 : Nat) : Int) j (.ref pt))) := e3
  have b13 : But p H1 H3 := s2.trans s3
  have bs13 : Buts [p] H1 H3 := Buts.one b13 (List.mem_singleton.mpr rfl)
  have nt1 : NoT [p] H1 := NoT.ins hp1 NoT.nil
  have r1p : r1 ≠ p := fun z => by rw [z, hp] at n1; cases n1
  have r1g : r1 ≠ g := fun z => by rw [z, hg] at n1; cases n1
  have r1j : r1 ≠ j := fun z => by rw [z, hj] at n1; cases n1
  have er3 := b13 _ _ r1p e1
  have hg3 := b13 _ _ (Ne.symm png) (s1 _ _ hg)
  have hj3 := b13 _ _ (Ne.symm pnj) (s1 _ _ hj)
  have al3 := bs13.bds nt1 (bds_same al s1)
  have aj3 := opts_buts (opts_same aj s1) bs13 nt1
  have gsh3 := bs13.tup nt1 (Kw.Same.tup s1 gsh)
  have gt3 := bs13.tup nt1 gt1
  have nt3 : NoT [g, j] H3 := NoT.lst hg3 (NoT.lst hj3 NoT.nil)
  have len : (intsN (leftsQ gs)).length = (leftsQ gs).length := List.length_map _
  have few := lefts_few l12
  refine ⟨_, rfl, r1, rfl, ⟨_, SqL.of er3⟩, for_list (K := K) (a := r1) (xs := intsN (leftsQ gs)) (fun k σ' H' => ∃ (u2 : Option V) (xs' ys' : List V), σ' = [some (.ref p), some (.ref r1), u2] ∧ Buts [g, j] H3 H' ∧ H' g = some (.lst xs') ∧ Al2 (BdQ K H' 1990) xs' (((leftsQ gs).take k).foldl partQ gs) ∧ H' j = some (.lst ys') ∧ Al2 (OptR K H') ys' (jnts (((leftsQ gs).take k).foldl partQ gs)) ∧ Com (B + 15 * k) (((leftsQ gs).take k).foldl partQ gs)) ⟨_, xs, ys, rfl, Buts.refl, hg3, al3, hj3, aj3, com⟩ (by rintro _ _ _ _ ⟨_, _, _, _, g5, _⟩; exact SqL.of (g5 _ _ (by simp [r1g, r1j]) er3)) ?_ ?_⟩
  · rintro m x σ' H4 hx ⟨u2, xs', ys', rfl, s4, hg4, al4, hj4, aj4, com4⟩
    have hm : m < (leftsQ gs).length := by rw [← len]; exact (List.getElem?_eq_some_iff.mp hx).1
    unfold intsN at hx
    rw [List.getElem?_map] at hx
    obtain ⟨i, hi, rfl⟩ := Option.map_eq_some_iff.mp hx
    obtain ⟨lg, _⟩ := lefts_lt (List.mem_of_getElem? hi)
    rw [take_snoc hi, List.foldl_append]
    have ln := fold_len ((leftsQ gs).take m) gs
    generalize hq : ((leftsQ gs).take m).foldl partQ gs = gk at al4 aj4 com4 ln
    have hp4 := s4 _ _ (by simp [png, pnj]) e3
    have w4 := bds_w al4
    refine ⟨_, rfl, p, _, _, rfl, hp4, rfl, _, rfl, p, dx, g, sh, pt, _, j, _, xs', ys', gk, i, rfl, hp4, hg4, al4, s4.tup nt3 gsh3, hj4, aj4, ne, by omega, by omega, com4.mono (by omega), fun xs5 ys5 H5 s5 e5 al5 f5 aj5 => ?_⟩
    exact ⟨_, xs5, ys5, rfl, s4.trans s5, e5, al5, f5, aj5, (com4.part w4 (by omega)).mono (by omega)⟩
  · rintro σ' H4 ⟨u2, xs', ys', rfl, s4, hg4, al4, hj4, aj4, com4⟩
    rw [len, List.take_length] at al4 aj4 com4
    have hp4 := s4 _ _ (by simp [png, pnj]) e3
    have ln : (jnts (onQ gs)).length ≤ 12 := by rw [jnts_len, on_len]; omega
    refine ⟨_, rfl, p, _, _, rfl, hp4, rfl, p, dx, _, j, ys', jnts (onQ gs), rfl, hp4, rfl, by show (6 : Nat) < 900; decide, hj4, aj4, ln, fun co5 H5 s5 e5 oc5 => ?_⟩
    replace e5 : H5 p = some (.ins (C 0) dx (crs g sh pt ((n + 1 : Nat) : Int) j co5)) := e5
    have bs5 : Buts [p] H4 H5 := Buts.one s5 (List.mem_singleton.mpr rfl)
    have nt4 : NoT [p] H4 := NoT.ins hp4 NoT.nil
    refine k H5 ?_ ⟨dx, sh, pt, co5, xs', ys', e5, s5 _ _ (Ne.symm png) hg4, bs5.bds nt4 al4, bs5.tup nt4 (s4.tup nt3 gsh3), bs5.tup nt4 (s4.tup nt3 gt3), dt, s5 _ _ (Ne.symm pnj) hj4, opts_buts aj4 bs5 nt4, oc5, ne⟩ (com4.mono (by omega))
    exact (Buts.of s1).trans ((Buts.one b13 (by simp)).trans ((s4.mono (by simp)).trans (Buts.one s5 (by simp))))
theorem sc_law_cell : FnScope ["script", "k"] ["script", "k"] (defScope (top 40)) := ⟨rfl, rfl, rfl, by decide +kernel, rfl, by decide +kernel, by decide +kernel⟩
theorem ok_law_cell (D : Df K mg "_law_cell" (top 40) ["script", "k"]) (T : Tx K mg C) : Fn P w K mg base 1 "_law_cell" ["script", "k"] (spCell K) := by
  refine D.ok0 sc_law_cell (fun vs H Q E h => ?_) (fun f cdv A outer s H vs Q E hr h => ?_)
  · obtain ⟨a, k, rfl, _⟩ := h
    rfl
  obtain ⟨a, k, rfl, ⟨ns, hS, h63, hbd⟩, k0, k1, q⟩ := h
  refine ⟨_, (pss_cons (ps_if (pt_cmpR op_lt (pv 1) (pe_callB call_len (by rfl) T.b_len PyProof.Rows.Boot.«len» (pa_cons (pv 0) pa_nil)) (nomark _)) (pss_one (ps_ret (pe_ix ix_list (pv 0) (pv 1) (fun _ _ => rfl)))) pss_nil)
      (pss_one (ps_ret (pe_op op_add (pe_op op_mulB pe_int (pv 1)) pe_int)))), ?_⟩
  refine ⟨_, rfl, _, rfl, _, _, rfl, .inl ⟨_, hS, rfl⟩, _, _, rfl, rfl, _, rfl, ?_⟩
  refine if_dec (fun c => ?_) (fun c => ?_)
  · rw [List.length_map] at c
    have hk : k.toNat < ns.length := by omega
    have ek : k = ((k.toNat : Nat) : Int) := by omega
    have z : atI (ns.map V.int) ((k.toNat : Nat) : Int) = some (.int ns[k.toNat]) := atI_nat (by rw [List.getElem?_map, List.getElem?_eq_getElem hk] <;> rfl)
    rw [← ek] at z
    exact ⟨_, rfl, _, rfl, a, _, _, _, rfl, rfl, hS, z, q _ (hbd _ (List.getElem_mem hk))⟩
  · refine ⟨_, rfl, _, _, rfl, rfl, mulOk_smallL (by decide) (by decide), _, _, rfl, rfl, q _ ?_⟩
    exact (Bd.small (by omega) (by omega)).mono (by decide)
theorem sc_law_mix : FnScope ["cell", "k", "number"] ["cell", "k"] (defScope (top 41)) := ⟨rfl, rfl, rfl, by decide +kernel, rfl, by decide +kernel, by decide +kernel⟩
theorem ok_law_mix (D : Df K mg "_law_mix" (top 41) ["cell", "k"]) (T : Tx K mg C) : Fn P w K mg base 1 "_law_mix" ["cell", "k"] spMix := by
  refine D.ok0 sc_law_mix (fun vs H Q E h => ?_) (fun f cdv A outer s H vs Q E hr h => ?_)
  · obtain ⟨c, k, rfl, _⟩ := h
    rfl
  obtain ⟨c, k, rfl, hc, k0, k1, q⟩ := h
  refine ⟨_, (pss_cons (ps_set (i := 2) sc_law_mix.nd rfl (Or.inl rfl) (pe_op op_add (pe_op op_mulB (pe_op op_add (pv 0) pe_int) pe_int) (pe_op op_mulB pe_int (pv 1))))
      (pss_cons (ps_set (i := 2) sc_law_mix.nd rfl (Or.inl rfl) (pe_op op_add (pe_op op_mod (pe_op op_mulB (pv 2) (pv 2)) pe_int) (pv 1)))
      (pss_one (ps_ret (pe_op op_mod (pe_op op_mulB (pv 2) (pe_op op_add (pv 2) pe_int)) pe_int))))), ?_⟩
  have s1 : ∀ i : Int, -(2 ^ 64) < i → i < 2 ^ 64 → Bd 1048576 i := fun i h1 h2 => (Bd.small h1 h2).mono (by decide)
  have b1 : Bd 1048641 ((c + 1) * 40692) := ((hc.add (s1 1 (by decide) (by decide))).mul (Bd.small (i := 40692) (by decide) (by decide))).mono (by decide)
  have b2 : Bd 1048642 ((c + 1) * 40692 + 104729 * k) := (b1.add ((Bd.small (by omega) (by omega)).mono (by decide))).mono (by decide)
  refine ⟨_, rfl, _, _, rfl, rfl, _, _, rfl, rfl, mulOk_small (by decide) (by decide), _, rfl, _, _, rfl, rfl, mulOk_smallL (by decide) (by decide), _, _, rfl, rfl, ?_⟩
  refine ⟨_, rfl, _, rfl, _, _, rfl, rfl, b2.ok b2 (by decide), _, _, rfl, rfl, (by show (0 : Int) < 2147483399; decide), _, rfl, _, _, rfl, rfl, ?_⟩
  have e0 := Int.emod_nonneg (((c + 1) * 40692 + 104729 * k) * ((c + 1) * 40692 + 104729 * k)) (show (2147483399 : Int) ≠ 0 by decide)
  have e1 := Int.emod_lt_of_pos (((c + 1) * 40692 + 104729 * k) * ((c + 1) * 40692 + 104729 * k)) (show (0 : Int) < 2147483399 by decide)
  exact ⟨_, rfl, _, rfl, _, _, rfl, rfl, _, _, rfl, rfl, mulOk_smallL (by omega) (by omega), _, _, rfl, rfl, (by show (0 : Int) < 2147483563; decide), q _⟩
theorem sc_law_box : FnScope ["script", "k", "here", "number", "j"] ["script", "k"] (defScope (top 42)) := ⟨rfl, rfl, rfl, by decide +kernel, rfl, by decide +kernel, by decide +kernel⟩
theorem ok_law_box (D : Df K mg "_law_box" (top 42) ["script", "k"]) (T : Tx K mg C) (F_law_cell : Fn P w K mg base 1 "_law_cell" ["script", "k"] (spCell K)) (F_law_mix : Fn P w K mg base 1 "_law_mix" ["cell", "k"] spMix) :
    Fn P w K mg base 2 "_law_box" ["script", "k"] (spBox K) := by
  refine D.ok0 sc_law_box (fun vs H Q E h => ?_) (fun f cdv A outer s H vs Q E hr h => ?_)
  · obtain ⟨a, k, rfl, _⟩ := h
    rfl
  obtain ⟨a, k, rfl, hS, k0, k1, q⟩ := h
  refine ⟨_, (pss_cons (ps_set (i := 2) sc_law_box.nd rfl (Or.inl rfl) (pe_fn F_law_cell (by decide) hr (by rfl) passE0 (pa_cons (pv 0) (pa_cons (pv 1) pa_nil))))
      (pss_cons (ps_if (pt_cmpR op_eq (pe_op op_mod (pv 2) pe_int) pe_int (nomark _)) (pss_one (ps_ret (pe_lst (pa_cons (pe_op op_fdivB (pv 2) pe_int) pa_nil)))) pss_nil)
      (pss_cons (ps_set (i := 3) sc_law_box.nd rfl (Or.inl rfl) pe_int)
      (pss_cons (ps_for PassesOwn.never rfl (pi_range1 (by rfl) T.b_range (pa_cons pe_int pa_nil)) (pg_name (i := 4) sc_law_box.nd rfl (Or.inl rfl)) (pss_one (ps_set (i := 3) sc_law_box.nd rfl (Or.inl rfl) (pe_op op_add (pe_op op_mulB (pv 3) pe_int) (pe_fn F_law_mix (by decide) hr (by rfl) passE0 (pa_cons (pv 2) (pa_cons (pv 4) pa_nil)))))))
      (pss_one (ps_ret (pe_lst (pa_cons (pv 3) pa_nil)))))))), ?_⟩
  refine ⟨_, rfl, _, rfl, a, k, rfl, hS, k0, k1, fun c hc => ?_⟩
  refine ⟨_, rfl, _, _, rfl, rfl, (by show (0 : Int) < 2; decide), rfl, _, rfl, ?_⟩
  refine if_decI (fun z => ?_) (fun z => ?_)
  · refine ⟨_, rfl, _, _, rfl, rfl, ⟨by decide, by decide +kernel⟩, (by show 1 ≤ sizeLine; decide), fun p hp => ?_⟩
    exact q p _ _ hp (same_new hp _) upd_same
  refine ⟨_, rfl, by decide, by decide, for_range (n := 16) (fun i σ' H' => ∃ (n : Int) (r : Option V), σ' = [some (.ref a), some (.int k), some (.int c), some (.int n), r] ∧ H' = H) ⟨_, _, rfl, rfl⟩ ?_ ?_⟩
  · rintro i σ' H' hi ⟨n, r, rfl, rfl⟩
    refine ⟨_, rfl, _, _, rfl, rfl, mulOk_small (by decide) (by decide), _, rfl, _, rfl, c, _, rfl, hc, by omega, by omega, fun m => ?_⟩
    exact ⟨_, _, rfl, rfl, _, _, rfl, rfl⟩
  · rintro σ' H' ⟨n, r, rfl, rfl⟩
    refine ⟨_, rfl, (by show 1 ≤ sizeLine; decide), fun p hp => ?_⟩
    exact q p _ _ hp (same_new hp _) upd_same
theorem sc_law_take : FnScope ["box", "many", "left", "digit"] ["box", "many"] (defScope (top 43)) := ⟨rfl, rfl, rfl, by decide +kernel, rfl, by decide +kernel, by decide +kernel⟩
theorem ok_law_take (D : Df K mg "_law_take" (top 43) ["box", "many"]) (T : Tx K mg C) : Fn P w K mg base 1 "_law_take" ["box", "many"] spTake := by
  refine D.ok0 sc_law_take (fun vs H Q E h => ?_) (fun f cdv A outer s H vs Q E hr h => ?_)
  · obtain ⟨b, m, n, rfl, _⟩ := h
    rfl
  obtain ⟨b, m, n, rfl, hb, m0, hm, q⟩ := h
  refine ⟨_, (pss_cons (ps_asg (pe_callB call_divmodB (by rfl) T.b_divmod PyProof.Rows.Boot.«divmod» (pa_cons (pe_ix ix_list (pv 0) pe_int (fun _ _ => rfl)) (pa_cons (pv 1) pa_nil))) (pg_tup rfl (pgs_cons (pg_name (i := 2) sc_law_take.nd rfl (Or.inl rfl)) (pgs_cons (pg_name (i := 3) sc_law_take.nd rfl (Or.inl rfl)) pgs_nil))))
      (pss_cons (ps_asg (pv 2) (pg_sub (pv 0) pe_int set_list))
      (pss_one (ps_ret (pv 3))))), ?_⟩
  refine ⟨_, rfl, b, _, _, _, rfl, rfl, SqL.of hb, rfl, _, rfl, n, m, rfl, ⟨m0, hm.log⟩, ?_⟩
  intro p hp0
  have sm := same_new hp0 (.tup [.int (n / m), .int (n % m)])
  have hp : upd H p (.tup [.int (n / m), .int (n % m)]) p = some (.tup [.int (n / m), .int (n % m)]) := upd_same
  refine ⟨p, _, rfl, SqT.of hp, rfl, _, _, rfl, _, _, rfl, rfl, ?_⟩
  refine ⟨_, rfl, _, rfl, b, _, _, 0, rfl, rfl, sm _ _ hb, rfl, _, rfl, ?_⟩
  have d0 := Int.emod_nonneg n (show m ≠ 0 by omega)
  have d1 := Int.emod_lt_of_pos n m0
  exact q (n % m) (n / m) _ d0 d1 ((But.of sm).trans (but_upd _)) upd_same
theorem sc_law_fit : FnScope ["top", "bottom", "one", "other"] ["top", "bottom"] (defScope (top 44)) := ⟨rfl, rfl, rfl, by decide +kernel, rfl, by decide +kernel, by decide +kernel⟩
theorem ok_law_fit0 (D : Df K mg "_law_fit" (top 44) ["top", "bottom"]) (T : Tx K mg C) : Fn P w K mg base 1 "_law_fit" ["top", "bottom"] spFitE := by
  refine D.ok0 sc_law_fit (fun vs H Q E h => ?_) (fun f cdv A outer s H vs Q E hr h => ?_)
  · obtain ⟨a, b, rfl, _⟩ := h
    rfl
  obtain ⟨a, b, rfl, c, hb, hq⟩ := h
  refine ⟨_, (pss_cons (ps_par (i := 2) (j := 3) rfl sc_law_fit.nd rfl rfl (by decide) rfl rfl (pa_cons (pe_callB call_abs (by rfl) T.b_abs PyProof.Rows.Boot.«abs» (pa_cons (pv 0) pa_nil)) (pa_cons (pe_callB call_abs (by rfl) T.b_abs PyProof.Rows.Boot.«abs» (pa_cons (pv 1) pa_nil)) pa_nil)) rfl)
      (pss_cons (ps_while PassesOwn.never (pt_cmpR op_gt (pv 3) pe_int (nomark _)) (pss_one (ps_par (i := 2) (j := 3) rfl sc_law_fit.nd rfl rfl (by decide) rfl rfl (pa_cons (pv 3) (pa_cons (pe_op op_mod (pv 2) (pv 3)) pa_nil)) rfl)))
      (pss_cons (ps_if (pt_cmpR op_lt (pv 1) pe_int (nomark _)) (pss_one (ps_set (i := 2) sc_law_fit.nd rfl (Or.inl rfl) (pe_op op_sub pe_int (pv 2)))) pss_nil)
      (pss_one (ps_ret (pe_tup (pa_cons (pe_op op_fdivE (pv 0) (pv 2)) (pa_cons (pe_op op_fdivE (pv 1) (pv 2)) pa_nil)))))))), ?_⟩
  refine ⟨_, rfl, _, rfl, _, rfl, _, rfl, _, _, rfl, ?_⟩
  refine ⟨fun m σ' H' => ∃ g s : Int, σ' = [some (.int a), some (.int b), some (.int g), some (.int s)] ∧ H' = H ∧ 0 ≤ g ∧ 0 ≤ s ∧ m = s.toNat ∧ Int.gcd g s = Int.gcd a b, ⟨_, _, _, rfl, rfl, abs_nn a, abs_nn b, rfl, gcd_abs a b⟩, ?_⟩
  rintro m σ' H' ⟨g, s, rfl, rfl, hg, hs, rfl, e⟩
  refine ⟨_, rfl, _, _, rfl, rfl, _, rfl, ?_⟩
  refine if_dec (fun c => ?_) (fun z => ?_)
  · refine ⟨_, fun _ _ n => n, ?_⟩
    refine ⟨_, rfl, _, rfl, _, rfl, _, _, rfl, rfl, c, _, _, rfl, ?_⟩
    have l := Int.emod_lt_of_pos g c
    have l0 := Int.emod_nonneg g (show s ≠ 0 by omega)
    exact ⟨_, by omega, s, g % s, rfl, rfl, by omega, l0, rfl, (gcd_step g s hg c).trans e⟩
  · have s0 : s = 0 := by omega
    subst s0
    have z := gcd_end g hg
    rw [e] at z
    subst z
    have hd : (if b < 0 then -((Int.gcd a b : Nat) : Int) else ((Int.gcd a b : Nat) : Int)) = dv a b := rfl
    have lg := hb.top c
    have lh := hb.bot c
    refine ⟨_, rfl, _, _, rfl, rfl, _, rfl, ?_⟩
    refine if_dec (fun n => ?_) (fun n => ?_)
    · rw [if_pos n] at hd
      refine ⟨_, rfl, _, _, rfl, rfl, ?_⟩
      dsimp only
      rw [show (0 : Int) - ((Int.gcd a b : Nat) : Int) = dv a b by rw [← hd]; omega]
      refine ⟨_, rfl, _, rfl, _, _, rfl, rfl, lg, _, rfl, _, rfl, _, _, rfl, rfl, lh, by show 2 ≤ sizeLine; decide, ?_⟩
      exact rd_new fun p H' sm hp => hq p H' sm hp
    · rw [if_neg n] at hd
      rw [hd]
      refine ⟨_, rfl, _, rfl, _, _, rfl, rfl, lg, _, rfl, _, rfl, _, _, rfl, rfl, lh, by show 2 ≤ sizeLine; decide, ?_⟩
      exact rd_new fun p H' sm hp => hq p H' sm hp
noncomputable def sp_law_fit (K : PySem.W.Frag) : Sp := fun vs H Q _ => ∃ (a : Int) (b : Int), vs = [.int a, .int b] ∧ FitD a b ∧ b ≠ 0 ∧ (∀ (p_r : Addr) (H1 : Hp), Same H H1 → FQ K H1 p_r (Rat.divInt a b) → Q (.ref p_r) H1)
theorem ok_law_fit (D : Df K mg "_law_fit" (top 44) ["top", "bottom"]) (T : Tx K mg C) : Fn P w K mg base 1 "_law_fit" ["top", "bottom"] (sp_law_fit K) :=
  (ok_law_fit0 D T).imp fun vs H Q E h => by
    obtain ⟨a, b, rfl, hb, b0, k⟩ := h
    exact ⟨a, b, rfl, b0, hb, fun p H' s e => k p H' s (FQ.fit b0 (SqT.of e))⟩
noncomputable def sp_law_fitS (K : PySem.W.Frag) : Sp := fun vs H Q _ => ∃ a b : Int, vs = [.int a, .int b] ∧ Bd 9000 b ∧ b ≠ 0 ∧ ∀ (p : Addr) (H1 : Hp), Same H H1 → FQ K H1 p (Rat.divInt a b) → Q (.ref p) H1
theorem fit_small {d : Nat} {ps : List Str} (F : Fn P w K mg base d "_law_fit" ps (sp_law_fit K)) : Fn P w K mg base d "_law_fit" ps (sp_law_fitS K) := F.imp fun vs H Q E h => by
  obtain ⟨a, b, e, hb, b0, k⟩ := h
  exact ⟨a, b, e, Or.inl hb, b0, k⟩
noncomputable def sp_law_plus (K : PySem.W.Frag) : Sp := fun vs H Q _ => ∃ (p_x : Addr) (x : Rat) (n_x : Nat) (p_y : Addr) (y : Rat) (n_y : Nat), vs = [.ref p_x, .ref p_y] ∧ FQ K H p_x x ∧ FB n_x x ∧ FQ K H p_y y ∧ FB n_y y ∧ n_x + n_y ≤ 13480 ∧ (∀ (p_r : Addr) (H1 : Hp), Same H H1 → FQ K H1 p_r (x + y) → Q (.ref p_r) H1)
theorem sc_law_plus : FnScope ["one", "other"] ["one", "other"] (defScope (top 45)) := ⟨rfl, rfl, rfl, by decide +kernel, rfl, by decide +kernel, by decide +kernel⟩
theorem ok_law_plus (D : Df K mg "_law_plus" (top 45) ["one", "other"]) (T : Tx K mg C) (F_law_fit : Fn P w K mg base 1 "_law_fit" ["top", "bottom"] (sp_law_fit K)) : Fn P w K mg base 2 "_law_plus" ["one", "other"] (sp_law_plus K) := by
  refine D.ok0 sc_law_plus (fun vs H Q E h => ?_) (fun f cdv A outer s H vs Q E hr h => ?_)
  · obtain ⟨p, x, n, q, y, m, rfl, _⟩ := h
    rfl
  obtain ⟨p, x, n, q, y, m, rfl, hp, dx, hq, dy, hn, k⟩ := h
  refine ⟨_, (pss_one (ps_ret (pe_fn F_law_fit (by decide) hr (by rfl) passE0 (pa_cons (pe_op op_add (pe_op op_mulB (pe_ix ix_tup (pv 0) pe_int (fun _ _ => rfl)) (pe_ix ix_tup (pv 1) pe_int (fun _ _ => rfl))) (pe_op op_mulB (pe_ix ix_tup (pv 1) pe_int (fun _ _ => rfl)) (pe_ix ix_tup (pv 0) pe_int (fun _ _ => rfl)))) (pa_cons (pe_op op_mulB (pe_ix ix_tup (pv 0) pe_int (fun _ _ => rfl)) (pe_ix ix_tup (pv 1) pe_int (fun _ _ => rfl))) pa_nil))))), ?_⟩
  refine ⟨_, rfl, p, _, _, _, rfl, rfl, hp, rfl, _, rfl, q, _, _, _, rfl, rfl, hq, rfl, _, _, rfl, rfl, dx.1.ok dy.2 (by omega), _, rfl, q, _, _, _, rfl, rfl, hq, rfl, _, rfl, p, _, _, _, rfl, rfl, hp, rfl, _, _, rfl, rfl, dy.1.ok dx.2 (by omega), _, _, rfl, rfl, _, rfl, p, _, _, _, rfl, rfl, hp, rfl, _, rfl, q, _, _, _, rfl, rfl, hq, rfl, _, _, rfl, rfl, dx.2.ok dy.2 (by omega), _, _, rfl, Or.inr ⟨(((dx.1.mul dy.2).mono (n := 13490) (by omega)).add ((dy.1.mul dx.2).mono (by omega))).mono (by decide), (dx.2.mul dy.2).mono (by omega)⟩, Int.mul_ne_zero (q_ne _) (q_ne _), fun r H1 s1 g1 => k r H1 s1 (FQ.cast g1 (q_add x y))⟩
noncomputable def sp_law_minus (K : PySem.W.Frag) : Sp := fun vs H Q _ => ∃ (p_x : Addr) (x : Rat) (n_x : Nat) (p_y : Addr) (y : Rat) (n_y : Nat), vs = [.ref p_x, .ref p_y] ∧ FQ K H p_x x ∧ FB n_x x ∧ FQ K H p_y y ∧ FB n_y y ∧ n_x + n_y ≤ 13480 ∧ (∀ (p_r : Addr) (H1 : Hp), Same H H1 → FQ K H1 p_r (x - y) → Q (.ref p_r) H1)
theorem sc_law_minus : FnScope ["one", "other"] ["one", "other"] (defScope (top 46)) := ⟨rfl, rfl, rfl, by decide +kernel, rfl, by decide +kernel, by decide +kernel⟩
theorem ok_law_minus (D : Df K mg "_law_minus" (top 46) ["one", "other"]) (T : Tx K mg C) (F_law_fit : Fn P w K mg base 1 "_law_fit" ["top", "bottom"] (sp_law_fit K)) : Fn P w K mg base 2 "_law_minus" ["one", "other"] (sp_law_minus K) := by
  refine D.ok0 sc_law_minus (fun vs H Q E h => ?_) (fun f cdv A outer s H vs Q E hr h => ?_)
  · obtain ⟨p, x, n, q, y, m, rfl, _⟩ := h
    rfl
  obtain ⟨p, x, n, q, y, m, rfl, hp, dx, hq, dy, hn, k⟩ := h
  refine ⟨_, (pss_one (ps_ret (pe_fn F_law_fit (by decide) hr (by rfl) passE0 (pa_cons (pe_op op_sub (pe_op op_mulB (pe_ix ix_tup (pv 0) pe_int (fun _ _ => rfl)) (pe_ix ix_tup (pv 1) pe_int (fun _ _ => rfl))) (pe_op op_mulB (pe_ix ix_tup (pv 1) pe_int (fun _ _ => rfl)) (pe_ix ix_tup (pv 0) pe_int (fun _ _ => rfl)))) (pa_cons (pe_op op_mulB (pe_ix ix_tup (pv 0) pe_int (fun _ _ => rfl)) (pe_ix ix_tup (pv 1) pe_int (fun _ _ => rfl))) pa_nil))))), ?_⟩
  refine ⟨_, rfl, p, _, _, _, rfl, rfl, hp, rfl, _, rfl, q, _, _, _, rfl, rfl, hq, rfl, _, _, rfl, rfl, dx.1.ok dy.2 (by omega), _, rfl, q, _, _, _, rfl, rfl, hq, rfl, _, rfl, p, _, _, _, rfl, rfl, hp, rfl, _, _, rfl, rfl, dy.1.ok dx.2 (by omega), _, _, rfl, rfl, _, rfl, p, _, _, _, rfl, rfl, hp, rfl, _, rfl, q, _, _, _, rfl, rfl, hq, rfl, _, _, rfl, rfl, dx.2.ok dy.2 (by omega), _, _, rfl, Or.inr ⟨(((dx.1.mul dy.2).mono (n := 13490) (by omega)).sub ((dy.1.mul dx.2).mono (by omega))).mono (by decide), (dx.2.mul dy.2).mono (by omega)⟩, Int.mul_ne_zero (q_ne _) (q_ne _), fun r H1 s1 g1 => k r H1 s1 (FQ.cast g1 (q_sub x y))⟩
noncomputable def sp_law_times (K : PySem.W.Frag) : Sp := fun vs H Q _ => ∃ (p_x : Addr) (x : Rat) (n_x : Nat) (p_y : Addr) (y : Rat) (n_y : Nat), vs = [.ref p_x, .ref p_y] ∧ FQ K H p_x x ∧ FB n_x x ∧ FQ K H p_y y ∧ FB n_y y ∧ n_x + n_y ≤ 13480 ∧ (∀ (p_r : Addr) (H1 : Hp), Same H H1 → FQ K H1 p_r (x * y) → Q (.ref p_r) H1)
theorem sc_law_times : FnScope ["one", "other"] ["one", "other"] (defScope (top 47)) := ⟨rfl, rfl, rfl, by decide +kernel, rfl, by decide +kernel, by decide +kernel⟩
theorem ok_law_times (D : Df K mg "_law_times" (top 47) ["one", "other"]) (T : Tx K mg C) (F_law_fit : Fn P w K mg base 1 "_law_fit" ["top", "bottom"] (sp_law_fit K)) : Fn P w K mg base 2 "_law_times" ["one", "other"] (sp_law_times K) := by
  refine D.ok0 sc_law_times (fun vs H Q E h => ?_) (fun f cdv A outer s H vs Q E hr h => ?_)
  · obtain ⟨p, x, n, q, y, m, rfl, _⟩ := h
    rfl
  obtain ⟨p, x, n, q, y, m, rfl, hp, dx, hq, dy, hn, k⟩ := h
  refine ⟨_, (pss_one (ps_ret (pe_fn F_law_fit (by decide) hr (by rfl) passE0 (pa_cons (pe_op op_mulB (pe_ix ix_tup (pv 0) pe_int (fun _ _ => rfl)) (pe_ix ix_tup (pv 1) pe_int (fun _ _ => rfl))) (pa_cons (pe_op op_mulB (pe_ix ix_tup (pv 0) pe_int (fun _ _ => rfl)) (pe_ix ix_tup (pv 1) pe_int (fun _ _ => rfl))) pa_nil))))), ?_⟩
  refine ⟨_, rfl, p, _, _, _, rfl, rfl, hp, rfl, _, rfl, q, _, _, _, rfl, rfl, hq, rfl, _, _, rfl, rfl, dx.1.ok dy.1 (by omega), _, rfl, p, _, _, _, rfl, rfl, hp, rfl, _, rfl, q, _, _, _, rfl, rfl, hq, rfl, _, _, rfl, rfl, dx.2.ok dy.2 (by omega), _, _, rfl, Or.inr ⟨(dx.1.mul dy.1).mono (by omega), (dx.2.mul dy.2).mono (by omega)⟩, Int.mul_ne_zero (q_ne _) (q_ne _), fun r H1 s1 g1 => k r H1 s1 (FQ.cast g1 (q_mul x y))⟩
noncomputable def sp_law_over (K : PySem.W.Frag) : Sp := fun vs H Q _ => ∃ (p_x : Addr) (x : Rat) (n_x : Nat) (p_y : Addr) (y : Rat) (n_y : Nat), vs = [.ref p_x, .ref p_y] ∧ FQ K H p_x x ∧ FB n_x x ∧ FQ K H p_y y ∧ FB n_y y ∧ n_x + n_y ≤ 13480 ∧ y ≠ 0 ∧ (∀ (p_r : Addr) (H1 : Hp), Same H H1 → FQ K H1 p_r (x / y) → Q (.ref p_r) H1)
theorem sc_law_over : FnScope ["one", "other"] ["one", "other"] (defScope (top 48)) := ⟨rfl, rfl, rfl, by decide +kernel, rfl, by decide +kernel, by decide +kernel⟩
theorem ok_law_over (D : Df K mg "_law_over" (top 48) ["one", "other"]) (T : Tx K mg C) (F_law_fit : Fn P w K mg base 1 "_law_fit" ["top", "bottom"] (sp_law_fit K)) : Fn P w K mg base 2 "_law_over" ["one", "other"] (sp_law_over K) := by
  refine D.ok0 sc_law_over (fun vs H Q E h => ?_) (fun f cdv A outer s H vs Q E hr h => ?_)
  · obtain ⟨p, x, n, q, y, m, rfl, _⟩ := h
    rfl
  obtain ⟨p, x, n, q, y, m, rfl, hp, dx, hq, dy, hn, y0, k⟩ := h
  refine ⟨_, (pss_one (ps_ret (pe_fn F_law_fit (by decide) hr (by rfl) passE0 (pa_cons (pe_op op_mulB (pe_ix ix_tup (pv 0) pe_int (fun _ _ => rfl)) (pe_ix ix_tup (pv 1) pe_int (fun _ _ => rfl))) (pa_cons (pe_op op_mulB (pe_ix ix_tup (pv 0) pe_int (fun _ _ => rfl)) (pe_ix ix_tup (pv 1) pe_int (fun _ _ => rfl))) pa_nil))))), ?_⟩
  refine ⟨_, rfl, p, _, _, _, rfl, rfl, hp, rfl, _, rfl, q, _, _, _, rfl, rfl, hq, rfl, _, _, rfl, rfl, dx.1.ok dy.2 (by omega), _, rfl, p, _, _, _, rfl, rfl, hp, rfl, _, rfl, q, _, _, _, rfl, rfl, hq, rfl, _, _, rfl, rfl, dx.2.ok dy.1 (by omega), _, _, rfl, Or.inr ⟨(dx.1.mul dy.2).mono (by omega), (dx.2.mul dy.1).mono (by omega)⟩, Int.mul_ne_zero (q_ne _) (q_num_ne y0), fun r H1 s1 g1 => k r H1 s1 (FQ.cast g1 (q_div x y))⟩
noncomputable def sp_law_less (K : PySem.W.Frag) : Sp := fun vs H Q _ => ∃ (p_x : Addr) (x : Rat) (p_y : Addr) (y : Rat), vs = [.ref p_x, .ref p_y] ∧ FQ K H p_x x ∧ FB 60000 x ∧ FQ K H p_y y ∧ FB 60000 y ∧ (∀  (H1 : Hp), Same H H1 → Q (.bl (decide (x < y))) H1)
theorem sc_law_less : FnScope ["one", "other"] ["one", "other"] (defScope (top 49)) := ⟨rfl, rfl, rfl, by decide +kernel, rfl, by decide +kernel, by decide +kernel⟩
theorem ok_law_less (D : Df K mg "_law_less" (top 49) ["one", "other"]) (T : Tx K mg C) : Fn P w K mg base 1 "_law_less" ["one", "other"] (sp_law_less K) := by
  refine D.ok0 sc_law_less (fun vs H Q E h => ?_) (fun f cdv A outer s H vs Q E hr h => ?_)
  · obtain ⟨p_x, x, p_y, y, rfl, _⟩ := h
    rfl
  obtain ⟨p_x, x, p_y, y, rfl, g_x, d_x, g_y, d_y, k0⟩ := h
  refine ⟨_, (pss_one (ps_ret (pe_cmpR op_lt (pe_op op_mulB (pe_ix ix_tup (pv 0) pe_int (fun _ _ => rfl)) (pe_ix ix_tup (pv 1) pe_int (fun _ _ => rfl))) (pe_op op_mulB (pe_ix ix_tup (pv 1) pe_int (fun _ _ => rfl)) (pe_ix ix_tup (pv 0) pe_int (fun _ _ => rfl))) (nomark _)))), ?_⟩
  refine ⟨_, rfl, p_x, _, _, _, rfl, rfl, g_x, rfl, _, rfl, p_y, _, _, _, rfl, rfl, g_y, rfl, _, _, rfl, rfl, (d_x.1.ok d_y.2 (by decide)), _, rfl, p_y, _, _, _, rfl, rfl, g_y, rfl, _, rfl, p_x, _, _, _, rfl, rfl, g_x, rfl, _, _, rfl, rfl, (d_y.1.ok d_x.2 (by decide)), _, _, rfl, rfl, ?_⟩
  try dsimp only
  rw [show decide (((x).num * (((y).den : Nat) : Int)) < ((y).num * (((x).den : Nat) : Int))) = decide (x < y) from decide_eq_decide.mpr (by exact (q_lt x y).symm)]
  exact k0 _ (Same.refl _)
noncomputable def sp_law_small (K : PySem.W.Frag) : Sp := fun vs H Q _ => ∃ (bx : Addr) (n_bx : Int), vs = [.ref bx] ∧ H bx = some (.lst [.int n_bx]) ∧ (∀ (p_r : Addr) (r : Rat) (H1 : Hp) (n1 : Int), But bx H H1 → H1 bx = some (.lst [.int n1]) → FQ K H1 p_r (r) → FB 70 r → Six 72 r → Q (.ref p_r) H1)
theorem sc_law_small : FnScope ["box"] ["box"] (defScope (top 50)) := ⟨rfl, rfl, rfl, by decide +kernel, rfl, by decide +kernel, by decide +kernel⟩
theorem ok_law_small (D : Df K mg "_law_small" (top 50) ["box"]) (T : Tx K mg C) (F_law_take : Fn P w K mg base 1 "_law_take" ["box", "many"] spTake) (F_law_fit : Fn P w K mg base 1 "_law_fit" ["top", "bottom"] (sp_law_fit K)) : Fn P w K mg base 2 "_law_small" ["box"] (sp_law_small K) := by
  refine D.ok0 sc_law_small (fun vs H Q E h => ?_) (fun f cdv A outer s H vs Q E hr h => ?_)
  · obtain ⟨bx, n_bx, rfl, _⟩ := h
    rfl
  obtain ⟨bx, n_bx, rfl, hb_bx, k0⟩ := h
  refine ⟨_, (pss_one (ps_ret (pe_fn F_law_fit (by decide) hr (by rfl) passE0 (pa_cons (pe_op op_sub (pe_fn F_law_take (by decide) hr (by rfl) passE0 (pa_cons (pv 0) (pa_cons pe_int pa_nil))) pe_int) (pa_cons (pe_ix ix_list (pe_lst (pa_cons pe_int (pa_cons pe_int (pa_cons pe_int (pa_cons pe_int pa_nil))))) (pe_fn F_law_take (by decide) hr (by rfl) passE0 (pa_cons (pv 0) (pa_cons pe_int pa_nil))) (fun _ _ => rfl)) pa_nil))))), ?_⟩
  refine ⟨_, rfl, _, _, _, rfl, hb_bx, (by decide +kernel), ((Bd.small (i := (25 : Int)) (by decide) (by decide)).mono (by decide)), fun d16 n16 H16 lo16 hi16 s16 hb16 => ?_⟩
  refine ⟨_, _, rfl, rfl, by show 4 ≤ sizeLine; decide, ?_⟩
  intro p17 n17
  obtain ⟨H17, q17, s17, e17⟩ := newO n17 (.lst [.int ((1 : Int)), .int ((1 : Int)), .int ((2 : Int)), .int ((3 : Int))])
  rw [q17]
  clear q17
  have hB18 := s17 _ _ hb16
  have h17 := SqL.of (K := K) e17
  have ap17 : p17 ≠ bx := fun z => by rw [z, hb16] at n17; cases n17
  refine ⟨_, rfl, _, _, _, rfl, hB18, (by decide +kernel), ((Bd.small (i := (4 : Int)) (by decide) (by decide)).mono (by decide)), fun d19 n19 H19 lo19 hi19 s19 hb19 => ?_⟩
  obtain ⟨v20, ev20, m21⟩ := atI_mem ([(1 : Int), (1 : Int), (2 : Int), (3 : Int)] : List Int) d19 (by omega) (by show _ < (4 : Int); omega)
  have bv20 : 1 ≤ v20 ∧ v20 ≤ 3 := (show ∀ z ∈ ([(1 : Int), (1 : Int), (2 : Int), (3 : Int)] : List Int), 1 ≤ z ∧ z ≤ 3 by decide +kernel) v20 m21
  replace h17 := (But.seq s19 ap17 h17)
  refine ⟨p17, _, _, _, rfl, rfl, h17, ev20, _, _, rfl, (Or.inl (((Bd.small (i := v20) (by omega) (by omega))).mono (by decide))), (by omega), fun p_r22 H22 s22 g_r22 => ?_⟩
  have hB23 := s22 _ _ hb19
  have d_r22 : FB 65 (Rat.divInt ((d16 - (12 : Int))) v20) := (FB.mono (FB.fit (by omega) ((Bd.sub ((Bd.small (i := d16) (by omega) (by omega)).mono (n := 64) (by decide)) ((Bd.small (i := (12 : Int)) (by decide) (by decide)).mono (n := 64) (by decide))).mono (n := 65) (by decide)) ((Bd.small (i := v20) (by omega) (by omega)).mono (n := 65) (by decide))) (by decide))
  exact k0 _ _ _ _ (s16.trans ((But.of s17).trans (s19.trans (But.of s22)))) hB23 g_r22 (FB.mono d_r22 (by decide)) (by exact (six_fit (N := 12) (by omega) (by omega) (by omega) (by omega)).mono (by decide))
noncomputable def sp_law_led_together (K : PySem.W.Frag) : Sp := fun vs H Q _ => ∃ (b : Addr) (n : Int) (f : Addr) (xs : List V) (bs : List Bod) (W : Int), vs = [.ref b, .ref f] ∧ H b = some (.lst [.int n]) ∧ f ≠ b ∧ H f = some (.lst xs) ∧ Al2 (BdQ K H 64) xs bs ∧ 1 ≤ bs.length ∧ bs.length ≤ 12 ∧ Asc bs ∧ (∀ a ∈ bs, a.2.2 ≤ W) ∧ (∀ a ∈ bs, Six 720 a.1) ∧ (∀ a ∈ bs, Frn 72 100000 a.2.1) ∧
  ∀ (f1 : Addr) (xs1 : List V) (bs1 : List Bod) (n1 : Int) (H1 : Hp), But b H H1 → H f1 = none → f1 ≠ b → H1 b = some (.lst [.int n1]) → H1 f1 = some (.lst xs1) → Al2 (BdQ K H1 64) xs1 bs1 → bs1.length = bs.length → Asc bs1 → (∀ a ∈ bs1, a.2.2 ≤ W) → (∀ a ∈ bs1, Six 720 a.1) → (∀ a ∈ bs1, Frn 72 100000 a.2.1) → Q (.ref f1) H1
theorem sc_law_led_together : FnScope ["box", "world", "spot", "many", "moment", "meet", "found", "number", "body"] ["box", "world"] (defScope (top 52)) := ⟨rfl, rfl, rfl, by decide +kernel, rfl, by decide +kernel, by decide +kernel⟩
theorem ok_law_led_together (D : Df K mg "_law_led_together" (top 52) ["box", "world"]) (T : Tx K mg C) (F_law_take : Fn P w K mg base 1 "_law_take" ["box", "many"] spTake) (F_law_fit : Fn P w K mg base 1 "_law_fit" ["top", "bottom"] (sp_law_fit K)) (F_law_small : Fn P w K mg base 2 "_law_small" ["box"] (sp_law_small K)) (F_law_plus : Fn P w K mg base 2 "_law_plus" ["one", "other"] (sp_law_plus K)) (F_law_minus : Fn P w K mg base 2 "_law_minus" ["one", "other"] (sp_law_minus K)) (F_law_over : Fn P w K mg base 2 "_law_over" ["one", "other"] (sp_law_over K)) : Fn P w K mg base 3 "_law_led_together" ["box", "world"] (sp_law_led_together K) := by
  refine D.ok0 sc_law_led_together (fun vs H Q E h => ?_) (fun f cdv A outer s H vs Q E hr h => ?_)
  · obtain ⟨b, n, f, xs, bs, W, rfl, _⟩ := h
    rfl
  obtain ⟨b, n, f, xs, bs, W, rfl, hb, nfb, hf, al, l1, l12, asc, hw, six, s72, k⟩ := h
  have F_law_fit := fit_small F_law_fit
  refine ⟨_, (pss_cons (ps_set (i := 2) sc_law_led_together.nd rfl (Or.inl rfl) (pe_fn F_law_take (by decide) hr (by rfl) passE0 (pa_cons (pv 0) (pa_cons (pe_callB call_len (by rfl) T.b_len PyProof.Rows.Boot.«len» (pa_cons (pv 1) pa_nil)) pa_nil))))
      (pss_cons (ps_set (i := 3) sc_law_led_together.nd rfl (Or.inl rfl) (pe_op op_add pe_int (pe_fn F_law_take (by decide) hr (by rfl) passE0 (pa_cons (pv 0) (pa_cons pe_int pa_nil)))))
      (pss_cons (ps_set (i := 4) sc_law_led_together.nd rfl (Or.inl rfl) (pe_fn F_law_fit (by decide) hr (by rfl) passE0 (pa_cons (pe_op op_add pe_int (pe_fn F_law_take (by decide) hr (by rfl) passE0 (pa_cons (pv 0) (pa_cons pe_int pa_nil)))) (pa_cons (pe_op op_add pe_int (pe_fn F_law_take (by decide) hr (by rfl) passE0 (pa_cons (pv 0) (pa_cons pe_int pa_nil)))) pa_nil))))
      (pss_cons (ps_set (i := 5) sc_law_led_together.nd rfl (Or.inl rfl) (pe_fn F_law_plus (by decide) hr (by rfl) passE0 (pa_cons (pe_ix ix_tup (pe_ix ix_list (pv 1) (pv 2) (fun _ _ => rfl)) pe_int (fun _ _ => rfl)) (pa_cons (pe_fn F_law_small (by decide) hr (by rfl) passE0 (pa_cons (pv 0) pa_nil)) pa_nil))))
      (pss_cons (ps_set (i := 6) sc_law_led_together.nd rfl (Or.inl rfl) (pe_lst pa_nil))
      (pss_cons (ps_for PassesOwn.never rfl (pi_enum (by rfl) T.b_enumerate (pa_cons (pv 1) pa_nil)) (pg_tup rfl (pgs_cons (pg_name (i := 7) sc_law_led_together.nd rfl (Or.inl rfl)) (pgs_cons (pg_name (i := 8) sc_law_led_together.nd rfl (Or.inl rfl)) pgs_nil))) (pss_cons (ps_if (pt_chain op_le op_lt (pv 2) (pv 7) (pe_op op_add (pv 2) (pv 3))) (pss_one (ps_set (i := 8) sc_law_led_together.nd rfl (Or.inl rfl) (pe_tup (pa_cons (pe_ix ix_tup (pv 8) pe_int (fun _ _ => rfl)) (pa_cons (pe_fn F_law_over (by decide) hr (by rfl) passE0 (pa_cons (pe_fn F_law_minus (by decide) hr (by rfl) passE0 (pa_cons (pv 5) (pa_cons (pe_ix ix_tup (pv 8) pe_int (fun _ _ => rfl)) pa_nil))) (pa_cons (pv 4) pa_nil))) (pa_cons (pe_ix ix_tup (pv 8) pe_int (fun _ _ => rfl)) pa_nil)))))) pss_nil)
      (pss_one (ps_expr (pe_bm PySem.F.plainAttrs_list PySem.F.slot_list_append PySem.F.type_list_append mt_append (pv 6) (pa_cons (pv 8) pa_nil))))))
      (pss_one (ps_ret (pv 6))))))))), ?_⟩
  have sm9 : ∀ i : Int, -(2 ^ 64) < i → i < 2 ^ 64 → Bd 9000 i := fun i h1 h2 => (Bd.small h1 h2).mono (by decide)
  have hz := Al2.len al
  refine ⟨_, rfl, _, rfl, _, _, rfl, .inl ⟨_, SqL.of hf, rfl⟩, b, _, _, rfl, hb, by omega, sm9 _ (by omega) (by omega), fun d1 n1 H1 lo1 hi1 s1 hb1 => ?_⟩
  refine ⟨_, rfl, b, 4, _, rfl, hb1, by decide, sm9 _ (by decide) (by decide), fun d2 n2 H2 lo2 hi2 s2 hb2 => ?_⟩
  refine ⟨_, _, rfl, rfl, ?_⟩
  refine ⟨_, rfl, b, 4, _, rfl, hb2, by decide, sm9 _ (by decide) (by decide), fun d3 n3 H3 lo3 hi3 s3 hb3 => ?_⟩
  refine ⟨_, _, rfl, rfl, _, rfl, b, 3, _, rfl, hb3, by decide, sm9 _ (by decide) (by decide), fun d4 n4 H4 lo4 hi4 s4 hb4 => ?_⟩
  refine ⟨_, _, rfl, rfl, _, _, rfl, sm9 _ (by omega) (by omega), by omega, fun pm H5 s5 gm => ?_⟩
  have dm : FB 64 (Rat.divInt (1 + d3) (1 + d4)) := FB.fit (by omega) (Bd.small (by omega) (by omega)) (Bd.small (by omega) (by omega))
  have mpos : (0 : Rat) < Rat.divInt (1 + d3) (1 + d4) := q_divpos (by omega) (by omega)
  have hb5 := s5 _ _ hb4
  have s05 := s1.trans (s2.trans (s3.trans (s4.trans (But.of s5))))
  have hf5 := s05 _ _ nfb hf
  have al5 := bds_but al s05 hb
  obtain ⟨y, hy⟩ : ∃ y, xs[d1.toNat]? = some y := ⟨_, List.getElem?_eq_getElem (by omega)⟩
  obtain ⟨by', hby, py, ay, cy, rfl, y1, y2, _, y4, _⟩ := Al2.get al5 hy
  have aty : atI xs d1 = some (.ref py) := by
    have z := atI_nat hy
    rwa [show ((d1.toNat : Nat) : Int) = d1 by omega] at z
  refine ⟨_, rfl, _, rfl, f, _, _, _, rfl, rfl, SqL.of hf5, aty, py, _, _, _, rfl, rfl, y1, rfl, _, rfl, b, n4, rfl, hb5, fun ps xs' H6 n6 s6 hb6 gs ds ss => ?_⟩
  refine ⟨_, _, 64, _, _, 70, rfl, s6.tup hb5 y2, y4, gs, ds, by decide, fun pe H7 s7 ge => ?_⟩
  have sixm : Six 792 (by'.1 + xs') := ((six by' (List.mem_of_getElem? hby)).add ss).mono (by decide)
  have de : FB 64 (by'.1 + xs') := sixm.fb (by decide)
  generalize by'.1 + xs' = meet at ge de sixm
  have ovr : ∀ x : Rat, Six 1512 x → FB 64 (x / Rat.divInt (1 + d3) (1 + d4)) := fun x h => six_over h (by decide) (by omega) (by omega) (by omega) (by omega)
  have ovs : ∀ x : Rat, Six 1512 x → Frn 72 100000 (x / Rat.divInt (1 + d3) (1 + d4)) := fun x h => (six_by h (by omega) (by omega) (by omega) (by omega) (by decide)).mono (by decide)
  generalize Rat.divInt (1 + d3) (1 + d4) = tm at gm dm mpos ovr ovs
  refine ⟨by show 0 ≤ sizeLine; decide, ?_⟩
  intro p8 n8
  obtain ⟨H8, q8, s8, e8⟩ := newO n8 (.lst [])
  rw [q8]
  clear q8
  have hb7 := s7 _ _ hb6
  have s07 := s05.trans (s6.trans (But.of s7))
  have nf0 : H p8 = none := by
    by_cases z : p8 = b
    · rw [z, hb7] at n8; cases n8
    · exact none_of_but s07 n8 z
  have nfb8 : p8 ≠ b := fun z => by rw [z, hb7] at n8; cases n8
  have s08 := s07.trans (But.of s8)
  have hf8 := s08 _ _ nfb hf
  have nf8 : f ≠ p8 := ne_of_none hf nf0
  have gm8 := Kw.Same.tup s8 (Kw.Same.tup s7 (s6.tup hb5 gm))
  have ge8 := Kw.Same.tup s8 ge
  have al8 := bds_but al s08 hb
  have hb8 := s8 _ _ hb7
  refine ⟨_, rfl, f, xs, rfl, SqL.of hf8, for_enum (K := K) (a := f) (xs := xs) (fun i σ1 H' => ∃ (u7 u8 : Option V) (ys : List V) (cs : List Bod), σ1 = [some (.ref b), some (.ref f), some (.int d1), some (.int (2 + d2)), some (.ref pm), some (.ref pe), some (.ref p8), u7, u8] ∧ But p8 H8 H' ∧ H' p8 = some (.lst ys) ∧ Al2 (BdQ K H' 64) ys cs ∧ cs.map (·.1) = (bs.take i).map (·.1) ∧ cs.map (·.2.2) = (bs.take i).map (·.2.2) ∧ ∀ c ∈ cs, Frn 72 100000 c.2.1) ⟨_, _, [], [], rfl, But.refl _, e8, trivial, rfl, rfl, fun _ z => (nomatch z)⟩ (fun _ _ _ ⟨_, _, _, _, _, g, _⟩ => SqL.of (g _ _ nf8 hf8)) ?_ ?_⟩
  · rintro i x σ1 H9 hx ⟨u7, u8, ys, cs, rfl, s9, hl9, ac9, pc9, wc9, sc9⟩ pp H10 s10 npp epp
    obtain ⟨bd, hbd, p, pa, pc, rfl, x1, x2, x3, x4, x5, x6, x7⟩ := Al2.get (bds_same (bds_but al8 s9 e8) s10) hx
    have hi : i < xs.length := (List.getElem?_eq_some_iff.mp hx).1
    have ly : ys.length < sizeLine := by
      have q1 := Al2.len ac9
      have q2 := congrArg List.length pc9
      simp at q2
      exact Nat.lt_of_le_of_lt (show ys.length ≤ 12 by omega) (by decide)
    have tk := take_snoc hbd
    have ext : ∀ (v : Rat) (cb : Bod), cb = (bd.1, v, bd.2.2) → (cs ++ [cb]).map (·.1) = (bs.take (i + 1)).map (·.1) ∧ (cs ++ [cb]).map (·.2.2) = (bs.take (i + 1)).map (·.2.2) := fun v cb e => by
      subst e
      rw [tk, List.map_append, List.map_append, List.map_append, List.map_append, pc9, wc9]
      exact ⟨rfl, rfl⟩
    refine ⟨pp, _, rfl, SqT.of epp, rfl, _, _, rfl, _, _, rfl, rfl, ?_⟩
    refine ⟨_, rfl, _, rfl, _, _, rfl, rfl, _, rfl, ?_⟩
    refine if_dec (fun c1 => ?_) (fun c1 => ?_)
    · refine ⟨_, rfl, _, rfl, _, _, rfl, rfl, _, _, rfl, rfl, _, rfl, ?_⟩
      refine if_dec (fun c2 => ?_) (fun c2 => ?_)
      · have gm10 := Kw.Same.tup s10 (s9.tup e8 gm8)
        have ge10 := Kw.Same.tup s10 (s9.tup e8 ge8)
        refine ⟨_, rfl, p, _, _, _, rfl, rfl, x1, rfl, _, rfl, _, rfl, p, _, _, _, rfl, rfl, x1, rfl, _, _, 64, _, _, 64, rfl, ge10, de, x2, x4, by decide, fun pw H11 s11 gw => ?_⟩
        have sixw : Six 1512 (meet - bd.1) := (sixm.sub (six bd (List.mem_of_getElem? hbd))).mono (by decide)
        have dw : FB 64 (meet - bd.1) := sixw.fb (by decide)
        have x1' := Kw.Same.tup s11 x1
        refine ⟨_, rfl, _, _, 64, _, _, 64, rfl, gw, dw, Kw.Same.tup s11 gm10, dm, by decide, by grind, fun pv H12 s12 gv => ?_⟩
        have dv : FB 64 ((meet - bd.1) / tm) := ovr _ sixw
        have s1012 := s11.trans s12
        refine ⟨_, rfl, p, _, _, _, rfl, rfl, Kw.Same.tup s12 x1', rfl, by show 3 ≤ sizeLine; decide, ?_⟩
        intro p13 n13
        obtain ⟨H13, q13, s13, e13⟩ := newO n13 (.tup [.ref pa, .ref pv, .int bd.2.2])
        rw [q13]
        clear q13
        have s1013 := s1012.trans s13
        have s913 := s10.trans s1013
        have hl13 := s913 _ _ hl9
        have one : BdQ K H13 64 (.ref p13) (bd.1, (meet - bd.1) / tm, bd.2.2) := ⟨p13, pa, pv, rfl, SqT.of e13, Kw.Same.tup s1013 x2, Kw.Same.tup s13 gv, x4, dv, x6, x7⟩
        refine ⟨_, rfl, .inl ⟨rfl, _, SqL.of hl13⟩, _, rfl, p8, _, _, rfl, rfl, hl13, ly, ?_⟩
        obtain ⟨H14, q14, s14, e14⟩ := newB (H := H13) (p := p8) (.lst (ys ++ [.ref p13]))
        dsimp only
        rw [q14]
        clear q14
        exact ⟨_, _, ys ++ [.ref p13], cs ++ [_], rfl, s9.trans ((But.of s913).trans s14), e14, bds_but (Al2.snoc (bds_same ac9 s913) one) s14 hl13, (ext ((meet - bd.1) / tm) _ rfl).1, (ext ((meet - bd.1) / tm) _ rfl).2, all_snoc sc9 (ovs _ sixw)⟩
      · skip
        have hl10 := s10 _ _ hl9
        have one : BdQ K H10 64 (.ref p) bd := ⟨p, pa, pc, rfl, x1, x2, x3, x4, x5, x6, x7⟩
        refine ⟨_, rfl, .inl ⟨rfl, _, SqL.of hl10⟩, _, rfl, p8, _, _, rfl, rfl, hl10, ly, ?_⟩
        obtain ⟨H14, q14, s14, e14⟩ := newB (H := H10) (p := p8) (.lst (ys ++ [.ref p]))
        dsimp only
        rw [q14]
        clear q14
        exact ⟨_, _, ys ++ [.ref p], cs ++ [bd], rfl, s9.trans ((But.of s10).trans s14), e14, bds_but (Al2.snoc (bds_same ac9 s10) one) s14 hl10, (ext bd.2.1 bd rfl).1, (ext bd.2.1 bd rfl).2, all_snoc sc9 (s72 bd (List.mem_of_getElem? hbd))⟩
    · refine ⟨_, rfl, iteF ?_⟩
      have hl10 := s10 _ _ hl9
      have one : BdQ K H10 64 (.ref p) bd := ⟨p, pa, pc, rfl, x1, x2, x3, x4, x5, x6, x7⟩
      refine ⟨_, rfl, .inl ⟨rfl, _, SqL.of hl10⟩, _, rfl, p8, _, _, rfl, rfl, hl10, ly, ?_⟩
      obtain ⟨H14, q14, s14, e14⟩ := newB (H := H10) (p := p8) (.lst (ys ++ [.ref p]))
      dsimp only
      rw [q14]
      clear q14
      exact ⟨_, _, ys ++ [.ref p], cs ++ [bd], rfl, s9.trans ((But.of s10).trans s14), e14, bds_but (Al2.snoc (bds_same ac9 s10) one) s14 hl10, (ext bd.2.1 bd rfl).1, (ext bd.2.1 bd rfl).2, all_snoc sc9 (s72 bd (List.mem_of_getElem? hbd))⟩
  · rintro σ1 H9 ⟨u7, u8, ys, cs, rfl, s9, hl9, ac9, pc9, wc9, sc9⟩
    rw [hz, List.take_length] at pc9 wc9
    have lc := congrArg List.length pc9
    simp at lc
    refine ⟨_, rfl, k p8 ys cs n6 H9 ?_ nf0 nfb8 (s9 _ _ (Ne.symm nfb8) hb8) hl9 ac9 lc (asc.of_places pc9) (fun a ha => ?_) (fun a ha => ?_) sc9⟩
    · intro a o na ho
      exact s9 a o (ne_of_none ho nf0) (s08 a o na ho)
    · have z : a.2.2 ∈ cs.map (·.2.2) := List.mem_map_of_mem ha
      rw [wc9] at z
      obtain ⟨a', ha', e'⟩ := List.mem_map.mp z
      rw [← e']
      exact hw a' ha'
    · have z : a.1 ∈ cs.map (·.1) := List.mem_map_of_mem ha
      rw [pc9] at z
      obtain ⟨a', ha', e'⟩ := List.mem_map.mp z
      rw [← e']
      exact six a' ha'
noncomputable def sp_law_world (K : PySem.W.Frag) : Sp := fun vs H Q _ => ∃ (b : Addr) (n : Int), vs = [.ref b] ∧ H b = some (.lst [.int n]) ∧ ∀ (f : Addr) (xs : List V) (bs : List Bod) (n1 : Int) (H1 : Hp), But b H H1 → H f = none → f ≠ b → H1 b = some (.lst [.int n1]) → H1 f = some (.lst xs) → Al2 (BdQ K H1 64) xs bs → 1 ≤ bs.length → bs.length ≤ 12 → Asc bs → (∀ a ∈ bs, a.2.2 ≤ 1000) → (∀ a ∈ bs, Six (72 + 54 * (bs.length : Int)) a.1) → (∀ a ∈ bs, Frn 72 100000 a.2.1) → Q (.ref f) H1
theorem sc_law_world : FnScope ["box", "many", "like", "place", "found", "k", "weight"] ["box"] (defScope (top 51)) := ⟨rfl, rfl, rfl, by decide +kernel, rfl, by decide +kernel, by decide +kernel⟩
theorem ok_law_world (D : Df K mg "_law_world" (top 51) ["box"]) (T : Tx K mg C) (F_law_take : Fn P w K mg base 1 "_law_take" ["box", "many"] spTake) (F_law_small : Fn P w K mg base 2 "_law_small" ["box"] (sp_law_small K)) (F_law_fit : Fn P w K mg base 1 "_law_fit" ["top", "bottom"] (sp_law_fit K)) (F_law_plus : Fn P w K mg base 2 "_law_plus" ["one", "other"] (sp_law_plus K)) : Fn P w K mg base 3 "_law_world" ["box"] (sp_law_world K) := by
  refine D.ok0 sc_law_world (fun vs H Q E h => ?_) (fun f cdv A outer s H vs Q E hr h => ?_)
  · obtain ⟨bx, n, rfl, _⟩ := h
    rfl
  obtain ⟨bx, n, rfl, hb_bx, k⟩ := h
  have F_law_fit := fit_small F_law_fit
  refine ⟨_, (pss_cons (ps_set (i := 1) sc_law_world.nd rfl (Or.inl rfl) (pe_op op_add pe_int (pe_fn F_law_take (by decide) hr (by rfl) passE0 (pa_cons (pv 0) (pa_cons (pe_ix ix_list (pe_lst (pa_cons pe_int (pa_cons pe_int (pa_cons pe_int (pa_cons pe_int pa_nil))))) (pe_fn F_law_take (by decide) hr (by rfl) passE0 (pa_cons (pv 0) (pa_cons pe_int pa_nil))) (fun _ _ => rfl)) pa_nil)))))
      (pss_cons (ps_set (i := 2) sc_law_world.nd rfl (Or.inl rfl) (pe_cmpR op_eq (pe_fn F_law_take (by decide) hr (by rfl) passE0 (pa_cons (pv 0) (pa_cons pe_int pa_nil))) pe_int (nomark _)))
      (pss_cons (ps_set (i := 3) sc_law_world.nd rfl (Or.inl rfl) (pe_fn F_law_small (by decide) hr (by rfl) passE0 (pa_cons (pv 0) pa_nil)))
      (pss_cons (ps_set (i := 4) sc_law_world.nd rfl (Or.inl rfl) (pe_lst pa_nil))
      (pss_cons (ps_for PassesOwn.never rfl (pi_range1 (by rfl) T.b_range (pa_cons (pv 1) pa_nil)) (pg_name (i := 5) sc_law_world.nd rfl (Or.inl rfl)) (pss_cons (ps_set (i := 6) sc_law_world.nd rfl (Or.inl rfl) (pe_op op_add pe_int (pe_fn F_law_take (by decide) hr (by rfl) passE0 (pa_cons (pv 0) (pa_cons (pe_ix ix_list (pe_lst (pa_cons pe_int (pa_cons pe_int (pa_cons pe_int pa_nil)))) (pe_fn F_law_take (by decide) hr (by rfl) passE0 (pa_cons (pv 0) (pa_cons pe_int pa_nil))) (fun _ _ => rfl)) pa_nil)))))
      (pss_cons (ps_if (pw_and (pt_val (pv 2) (fun _ => rfl)) (pw_and1 (pt_cmpR (op_neNil (K := K) rfl (u100 hr)) (pv 4) (pe_lst pa_nil) (nomark _)))).pt (pss_one (ps_set (i := 6) sc_law_world.nd rfl (Or.inl rfl) (pe_ix ix_tup (pe_ix ix_list (pv 4) pe_int (fun _ _ => rfl)) pe_int (fun _ _ => rfl)))) pss_nil)
      (pss_cons (ps_expr (pe_bm PySem.F.plainAttrs_list PySem.F.slot_list_append PySem.F.type_list_append mt_append (pv 4) (pa_cons (pe_tup (pa_cons (pv 3) (pa_cons (pe_fn F_law_small (by decide) hr (by rfl) passE0 (pa_cons (pv 0) pa_nil)) (pa_cons (pv 6) pa_nil)))) pa_nil)))
      (pss_one (ps_set (i := 3) sc_law_world.nd rfl (Or.inl rfl) (pe_fn F_law_plus (by decide) hr (by rfl) passE0 (pa_cons (pv 3) (pa_cons (pe_fn F_law_fit (by decide) hr (by rfl) passE0 (pa_cons (pe_op op_add pe_int (pe_fn F_law_take (by decide) hr (by rfl) passE0 (pa_cons (pv 0) (pa_cons pe_int pa_nil)))) (pa_cons (pe_op op_add pe_int (pe_fn F_law_take (by decide) hr (by rfl) passE0 (pa_cons (pv 0) (pa_cons pe_int pa_nil)))) pa_nil))) pa_nil)))))))))
      (pss_one (ps_ret (pv 4)))))))), ?_⟩
  have sm9 : ∀ i : Int, -(2 ^ 64) < i → i < 2 ^ 64 → Bd 9000 i := fun i h1 h2 => (Bd.small h1 h2).mono (by decide)
  refine ⟨_, rfl, by show 4 ≤ sizeLine; decide, ?_⟩
  intro p2 n2
  obtain ⟨H2, q2, s2, e2⟩ := newO n2 (.lst [.int (5 : Int), .int (5 : Int), .int (5 : Int), .int (12 : Int)])
  rw [q2]
  clear q2
  have hb2 := s2 _ _ hb_bx
  have ap2 : p2 ≠ bx := Ne.symm (ne_of_none hb_bx n2)
  refine ⟨_, rfl, bx, 4, _, rfl, hb2, by decide, sm9 _ (by decide) (by decide), fun d3 n3 H3 lo3 hi3 s3 hb3 => ?_⟩
  obtain ⟨v3, ev3, mv3⟩ := atI_mem ([(5 : Int), (5 : Int), (5 : Int), (12 : Int)] : List Int) d3 (by omega) (by show _ < (4 : Int); omega)
  have bv3 : 4 ≤ v3 ∧ v3 ≤ 12 := (show ∀ z ∈ ([(5 : Int), (5 : Int), (5 : Int), (12 : Int)] : List Int), 4 ≤ z ∧ z ≤ 12 by decide +kernel) v3 mv3
  refine ⟨p2, _, _, _, rfl, rfl, SqL.of (s3 _ _ ap2 e2), ev3, bx, v3, _, rfl, hb3, by omega, sm9 _ (by omega) (by omega), fun d4 n4 H4 lo4 hi4 s4 hb4 => ?_⟩
  refine ⟨_, _, rfl, rfl, ?_⟩
  refine ⟨_, rfl, bx, 4, _, rfl, hb4, by decide, sm9 _ (by decide) (by decide), fun d8 n8 H8 lo8 hi8 s8 hb8 => ?_⟩
  obtain ⟨ev, hev⟩ : ∃ ev : Bool, decide (V.int d8 = V.int 3) = ev := ⟨_, rfl⟩
  refine ⟨rfl, ?_⟩
  rw [hev]
  refine ⟨_, rfl, bx, _, rfl, hb8, fun q1 v1 H12 n12 s12 hb12 g12 dv1 sv1 => ?_⟩
  refine ⟨by show 0 ≤ sizeLine; decide, ?_⟩
  intro p15 n15
  obtain ⟨H15, q15, s15, e15⟩ := newO n15 (.lst [])
  rw [q15]
  clear q15
  have hb15 := s15 _ _ hb12
  have ap15 : p15 ≠ bx := Ne.symm (ne_of_none hb12 n15)
  have B12 : But bx H H12 := (But.of s2).trans (s3.trans (s4.trans (s8.trans s12)))
  have nf0 : H p15 = none := none_of_but B12 n15 ap15
  refine ⟨_, rfl, _, rfl, by omega, by omega, for_range (n := (1 + d4).toNat) (fun i σ1 H' => ∃ (pp : Addr) (x : Rat) (rk rs : Option V) (xs : List V) (bs : List Bod) (nb : Int), σ1 = [some (.ref bx), some (.int (1 + d4)), some (.bl ev), some (.ref pp), some (.ref p15), rk, rs] ∧ But bx H H' ∧ H' bx = some (.lst [.int nb]) ∧ H' p15 = some (.lst xs) ∧ Al2 (BdQ K H' 64) xs bs ∧ FQ K H' pp x ∧ Six (72 + 54 * (i : Int)) x ∧ bs.length = i ∧ Asc bs ∧ (∀ a ∈ bs, a.1 < x) ∧ (∀ a ∈ bs, a.2.2 ≤ 1000) ∧ (∀ a ∈ bs, Six (72 + 54 * (bs.length : Int)) a.1) ∧ (∀ a ∈ bs, Frn 72 100000 a.2.1))
    ⟨q1, _, _, _, [], [], n12, rfl, B12.trans (But.of s15), hb15, e15, trivial, Kw.Same.tup s15 g12, sv1.mono (by omega), rfl, List.Pairwise.nil, (fun _ z => nomatch z), (fun _ z => nomatch z), (fun _ z => nomatch z), fun _ z => nomatch z⟩ ?_ ?_⟩
  · rintro i σ1 K4 hi4 ⟨pp, x, rk, rs, xs, bs, nb, rfl, B4, hc4, hF, al, gx, x6, len, asc, pos, hw, six, s72⟩
    have hi12 : i < 12 := by omega
    have lx := Al2.len al
    refine ⟨_, rfl, by show 3 ≤ sizeLine; decide, ?_⟩
    intro p21 n21
    obtain ⟨H21, q21, s21, e21⟩ := newO n21 (.lst [.int (5 : Int), .int (5 : Int), .int (1000 : Int)])
    rw [q21]
    clear q21
    have hc21 := s21 _ _ hc4
    have ap21 : p21 ≠ bx := Ne.symm (ne_of_none hc4 n21)
    refine ⟨_, rfl, bx, 3, _, rfl, hc21, by decide, sm9 _ (by decide) (by decide), fun d22 n22 H22 lo22 hi22 s22 hb22 => ?_⟩
    obtain ⟨v22, ev22, mv22⟩ := atI_mem ([(5 : Int), (5 : Int), (1000 : Int)] : List Int) d22 (by omega) (by show _ < (3 : Int); omega)
    have bv22 : 3 ≤ v22 ∧ v22 ≤ 1000 := (show ∀ z ∈ ([(5 : Int), (5 : Int), (1000 : Int)] : List Int), 3 ≤ z ∧ z ≤ 1000 by decide +kernel) v22 mv22
    refine ⟨p21, _, _, _, rfl, rfl, SqL.of (s22 _ _ ap21 e21), ev22, bx, v22, _, rfl, hb22, by omega, sm9 _ (by omega) (by omega), fun d23 n23 H23 lo23 hi23 s23 hb23 => ?_⟩
    refine ⟨_, _, rfl, rfl, ?_⟩
    have t4 : But bx K4 H23 := (But.of s21).trans (s22.trans s23)
    have hF23 := t4 _ _ ap15 hF
    refine g_go ?_
    dsimp only
    refine cut1 (fun σ' H' => ∃ w' : Int, σ' = [some (.ref bx), some (.int (1 + d4)), some (.bl ev), some (.ref pp), some (.ref p15), some (.int (0 + (i : Int))), some (.int w')] ∧ Same H23 H' ∧ 1 ≤ w' ∧ w' ≤ 1000) (fun N hN => ?_) ?_
    · refine ⟨_, rfl, _, rfl, ?_⟩
      cases ev with
      | false =>
        refine iteF ?_
        exact hN _ _ ⟨1 + d23, rfl, Same.refl _, by omega, by omega⟩
      | true =>
        refine iteT ?_
        refine ⟨_, rfl, by show 0 ≤ sizeLine; decide, ?_⟩
        intro p24 n24
        obtain ⟨H24, q24, s24, e24⟩ := newO n24 (.lst [])
        rw [q24]
        clear q24
        have hF24 := s24 _ _ hF23
        refine ⟨p15, p24, xs, rfl, rfl, SqL.of hF24, SqL.of e24, _, rfl, ?_⟩
        cases xs with
        | nil =>
          refine iteF ?_
          exact hN _ _ ⟨1 + d23, rfl, s24, by omega, by omega⟩
        | cons x0 xs0 =>
          refine iteT ?_
          obtain ⟨b0, hb0, p0, a0, c0, rfl, z1, _, _, _, _, z6, _⟩ := Al2.get (bds_same (bds_but al t4 hc4) s24) (show (x0 :: xs0)[0]? = some x0 from rfl)
          refine ⟨_, rfl, p15, _, _, _, rfl, rfl, SqL.of hF24, atI_nat (j := 0) rfl, p0, _, _, _, rfl, rfl, z1, rfl, ?_⟩
          exact hN _ _ ⟨b0.2.2, rfl, s24, z6, hw b0 (List.mem_of_getElem? hb0)⟩
    · rintro σ' H25 ⟨w', rfl, s25, w1, w2⟩
      have hb25 := s25 _ _ hb23
      have t25 : But bx K4 H25 := t4.trans (But.of s25)
      have hF25 := t25 _ _ ap15 hF
      have dx : FB 64 x := x6.fb (by omega)
      refine ⟨_, rfl, .inl ⟨rfl, _, SqL.of hF25⟩, _, rfl, _, rfl, bx, _, rfl, hb25, fun qs vs H26 n26 t26 hb26 gq dq sq => ?_⟩
      have t426 := t25.trans t26
      have hF26 := t426 _ _ ap15 hF
      refine ⟨_, rfl, by show 3 ≤ sizeLine; decide, ?_⟩
      intro p27 n27
      obtain ⟨H27, q27, s27, e27⟩ := newO n27 (.tup [.ref pp, .ref qs, .int w'])
      rw [q27]
      clear q27
      have hF27 := s27 _ _ hF26
      refine ⟨p15, _, _, rfl, rfl, hF27, by rw [lx, len]; exact Nat.lt_of_lt_of_le hi12 (by decide), ?_⟩
      have t427 := t426.trans (But.of s27)
      have al27 := bds_but al t427 hc4
      have gx27 := t427.tup hc4 gx
      have one : BdQ K H27 64 (.ref p27) (x, vs, w') := ⟨p27, pp, qs, rfl, SqT.of e27, gx27, Kw.Same.tup s27 gq, dx, sq.fb (by decide), w1, (by show w' ≤ (10000 : Int); omega)⟩
      obtain ⟨H28, q28, s28, e28⟩ := newB (H := H27) (p := p15) (.lst (xs ++ [.ref p27]))
      dsimp only
      rw [q28]
      clear q28
      have hc28 := s28 _ _ (Ne.symm ap15) (s27 _ _ hb26)
      have al28 := bds_but (Al2.snoc al27 one) s28 hF27
      have gx28 := s28.tup hF27 gx27
      refine ⟨_, rfl, _, rfl, bx, 9, _, rfl, hc28, by decide, sm9 _ (by decide) (by decide), fun d29 n29 H29 lo29 hi29 s29 hb29 => ?_⟩
      refine ⟨_, _, rfl, rfl, _, rfl, bx, 3, _, rfl, hb29, by decide, sm9 _ (by decide) (by decide), fun d30 n30 H30 lo30 hi30 s30 hb30 => ?_⟩
      refine ⟨_, _, rfl, rfl, _, _, rfl, sm9 _ (by omega) (by omega), by omega, fun p31 H31 s31 g31 => ?_⟩
      have sf : Six 54 (Rat.divInt (1 + d29) (1 + d30)) := (six_fit (N := 9) (by omega) (by omega) (by omega) (by omega)).mono (by decide)
      have pf : (0 : Rat) < Rat.divInt (1 + d29) (1 + d30) := q_divpos (by omega) (by omega)
      have s2831 : But bx H28 H31 := s29.trans (s30.trans (But.of s31))
      refine ⟨pp, x, 64, p31, _, 64, rfl, s2831.tup hc28 gx28, dx, g31, sf.fb (by decide), by decide, fun p32 H32 s32 g32 => ?_⟩
      have BF : But bx H H32 := fun a o na ho => s32 a o (s2831 a o na (s28 a o (ne_of_none ho nf0) ((B4.trans t427) a o na ho)))
      have hF32 := s32 _ _ (s2831 _ _ ap15 e28)
      refine ⟨p32, _, _, _, _, _, n30, rfl, BF, s32 _ _ (s31 _ _ hb30), hF32, bds_same (bds_but al28 s2831 hc28) s32, g32, (x6.add sf).mono (by omega), by simp [len], asc.snoc pos, (fun a ha => ?_), all_snoc hw (by show w' ≤ 1000; exact w2), all_snoc (fun a ha => (six a ha).mono (by rw [List.length_append, List.length_singleton]; omega)) (x6.mono (by rw [List.length_append, List.length_singleton]; omega)), all_snoc s72 (sq.frn.mono (by decide))⟩
      rcases List.mem_append.mp ha with z | z
      · have := pos a z
        grind
      · rw [List.mem_singleton.mp z]
        show x < x + _
        grind
  · rintro σ1 K4 ⟨pp, x, rk, rs, xs, bs, nb, rfl, B4, hc4, hF, al, gx, x6, len, asc, pos, hw, six, s72⟩
    exact ⟨_, rfl, k p15 xs bs nb K4 B4 nf0 ap15 hc4 hF al (by omega) (by omega) asc hw six s72⟩
noncomputable def OptL (K : PySem.W.Frag) (H : Hp) (v : V) (o : Option Rat) : Prop := (o = none ∧ v = .non) ∨ ∃ (q : Rat) (p : Addr), o = some q ∧ v = .ref p ∧ FQ K H p q ∧ FB 8950 q
theorem OptL.same {K : PySem.W.Frag} {H H' : Hp} {v : V} {o : Option Rat} (h : OptL K H v o) (s : Same H H') : OptL K H' v o := by
  rcases h with h | ⟨q, p, e, e2, g, d⟩
  · exact .inl h
  · exact .inr ⟨q, p, e, e2, Kw.Same.tup s g, d⟩
noncomputable def sp_law_ahead (K : PySem.W.Frag) : Sp := fun vs H Q _ => ∃ (p : Addr) (xs : List V) (hs : List Bod), vs = [.ref p] ∧ H p = some (.lst xs) ∧ Al2 (BdQ K H 5425) xs hs ∧ (∀ b ∈ hs, FB 2646 b.2.1) ∧ (∀ a ∈ hs, ∀ b ∈ hs, FB 5295 (b.1 - a.1)) ∧ (∀ a ∈ hs, ∀ b ∈ hs, FB 2647 (a.2.1 - b.2.1)) ∧ (∃ s, OrdT hs s) ∧ 1 ≤ hs.length ∧ hs.length ≤ 12 ∧ ∀ (v : V) (H1 : Hp), Same H H1 → OptL K H1 v (cmng hs) → Q v H1
theorem sc_law_ahead : FnScope ["bodies", "least_v", "later", "number", "one", "other", "time"] ["bodies"] (defScope (top 53)) := ⟨rfl, rfl, rfl, by decide +kernel, rfl, by decide +kernel, by decide +kernel⟩
theorem ok_law_ahead (D : Df K mg "_law_ahead" (top 53) ["bodies"]) (T : Tx K mg C) (F_law_less : Fn P w K mg base 1 "_law_less" ["one", "other"] (sp_law_less K)) (F_law_minus : Fn P w K mg base 2 "_law_minus" ["one", "other"] (sp_law_minus K)) (F_law_over : Fn P w K mg base 2 "_law_over" ["one", "other"] (sp_law_over K)) : Fn P w K mg base 3 "_law_ahead" ["bodies"] (sp_law_ahead K) := by
  refine D.ok0 sc_law_ahead (fun vs H Q E h => ?_) (fun f cdv A outer s H vs Q E hr h => ?_)
  · obtain ⟨p, xs, hs, rfl, _⟩ := h
    rfl
  obtain ⟨p, xs, hs, rfl, hp, al, sp, dfp, dfs, ⟨so, ord⟩, l1, l12, k⟩ := h
  refine ⟨_, (pss_cons (ps_set (i := 1) sc_law_ahead.nd rfl (Or.inl rfl) pe_non)
      (pss_cons (ps_for PassesOwn.never rfl (pi_range1 (by rfl) T.b_range (pa_cons (pe_callB call_len (by rfl) T.b_len PyProof.Rows.Boot.«len» (pa_cons (pv 0) pa_nil)) pa_nil)) (pg_name (i := 2) sc_law_ahead.nd rfl (Or.inl rfl)) (pss_one (ps_for PassesOwn.never rfl (pi_range1 (by rfl) T.b_range (pa_cons (pv 2) pa_nil)) (pg_name (i := 3) sc_law_ahead.nd rfl (Or.inl rfl)) (pss_cons (ps_par (i := 4) (j := 5) rfl sc_law_ahead.nd rfl rfl (by decide) rfl rfl (pa_cons (pe_ix ix_list (pv 0) (pv 3) (fun _ _ => rfl)) (pa_cons (pe_ix ix_list (pv 0) (pv 2) (fun _ _ => rfl)) pa_nil)) rfl)
      (pss_one (ps_if (pt_val (pe_fn F_law_less (by decide) hr (by rfl) passE0 (pa_cons (pe_ix ix_tup (pv 5) pe_int (fun _ _ => rfl)) (pa_cons (pe_ix ix_tup (pv 4) pe_int (fun _ _ => rfl)) pa_nil))) (fun _ => rfl)) (pss_cons (ps_set (i := 6) sc_law_ahead.nd rfl (Or.inl rfl) (pe_fn F_law_over (by decide) hr (by rfl) passE0 (pa_cons (pe_fn F_law_minus (by decide) hr (by rfl) passE0 (pa_cons (pe_ix ix_tup (pv 5) pe_int (fun _ _ => rfl)) (pa_cons (pe_ix ix_tup (pv 4) pe_int (fun _ _ => rfl)) pa_nil))) (pa_cons (pe_fn F_law_minus (by decide) hr (by rfl) passE0 (pa_cons (pe_ix ix_tup (pv 4) pe_int (fun _ _ => rfl)) (pa_cons (pe_ix ix_tup (pv 5) pe_int (fun _ _ => rfl)) pa_nil))) pa_nil))))
      (pss_one (ps_if (pw_or (pt_cmpR op_isN (pv 1) pe_non (nomark _)) (pw_or1 (pt_val (pe_fn F_law_less (by decide) hr (by rfl) passE0 (pa_cons (pv 6) (pa_cons (pv 1) pa_nil))) (fun _ => rfl)))).pt (pss_one (ps_set (i := 1) sc_law_ahead.nd rfl (Or.inl rfl) (pv 6))) pss_nil))) pss_nil))))))
      (pss_one (ps_ret (pv 1))))), ?_⟩
  have hz := Al2.len al
  refine ⟨_, rfl, _, _, rfl, .inl ⟨_, SqL.of hp, rfl⟩, _, rfl, by omega, by omega, for_range (n := ((xs.length : Nat) : Int).toNat) (fun i σ1 H1 => ∃ (v : V) (u2 u3 u4 u5 u6 : Option V), σ1 = [some (.ref p), some v, u2, u3, u4, u5, u6] ∧ Same H H1 ∧ OptL K H1 v (leastQ (parsA hs i))) ⟨.non, _, _, _, _, _, rfl, Same.refl _, .inl ⟨rfl, rfl⟩⟩ ?_ ?_⟩
  · rintro l σ1 H1 hl ⟨v, u2, u3, u4, u5, u6, rfl, s1, ov⟩
    obtain ⟨y, hy⟩ : ∃ y, xs[l]? = some y := ⟨_, List.getElem?_eq_getElem (by omega)⟩
    refine ⟨_, rfl, _, rfl, by omega, by omega, for_range (n := (0 + (l : Int)).toNat) (fun j σ1 H2 => ∃ (v : V) (u3 u4 u5 u6 : Option V), σ1 = [some (.ref p), some v, some (.int (0 + (l : Int))), u3, u4, u5, u6] ∧ Same H H2 ∧ OptL K H2 v (leastQ (parsA hs l ++ parsR hs l j))) ⟨v, _, _, _, _, rfl, s1, by rw [show parsR hs l 0 = [] from rfl, List.append_nil]; exact ov⟩ ?_ ?_⟩
    · rintro i σ1 H2 hi ⟨v, u3, u4, u5, u6, rfl, s2, ov⟩
      obtain ⟨x, hx⟩ : ∃ x, xs[i]? = some x := ⟨_, List.getElem?_eq_getElem (by omega)⟩
      obtain ⟨a, ha, pa, aa, ac, rfl, a1, a2, a3, a4, a5, _⟩ := Al2.get (bds_same al s2) hx
      obtain ⟨b, hb, pb, ba, bc, rfl, b1, b2, b3, b4, b5, _⟩ := Al2.get (bds_same al s2) hy
      have va := sp a (List.mem_of_getElem? ha)
      have vb := sp b (List.mem_of_getElem? hb)
      have ea := bodAt_of ha
      have eb := bodAt_of hb
      have hp2 := s2 _ _ hp
      refine ⟨_, rfl, _, rfl, p, _, _, _, rfl, rfl, SqL.of hp2, atI_z hx, _, rfl, _, rfl, p, _, _, _, rfl, rfl, SqL.of hp2, atI_z hy, _, _, rfl, ?_⟩
      refine ⟨_, rfl, pb, _, _, _, rfl, rfl, b1, rfl, _, rfl, pa, _, _, _, rfl, rfl, a1, rfl, bc, _, ac, _, rfl, b3, vb.mono (by decide), a3, va.mono (by decide), fun H3 s3 => ⟨_, rfl, ?_⟩⟩
      have s23 := s2.trans s3
      refine if_dec (fun c => ?_) (fun c => ?_)
      · have jn : jntQ (bodAt hs i) (bodAt hs l) = some ((b.1 - a.1) / (a.2.1 - b.2.1)) := by
          rw [ea, eb]
          unfold jntQ
          rw [if_neg (by grind)]
        have a12 := Kw.Same.tup s3 a1
        have b12 := Kw.Same.tup s3 b1
        refine ⟨_, rfl, pb, _, _, _, rfl, rfl, b12, rfl, _, rfl, pa, _, _, _, rfl, rfl, a12, rfl, ba, b.1, 5425, aa, a.1, 5425, rfl, Kw.Same.tup s3 b2, b4, Kw.Same.tup s3 a2, a4, by decide, fun r4 H4 s4 g4 => ?_⟩
        have a13 := Kw.Same.tup s4 a12
        have b13 := Kw.Same.tup s4 b12
        refine ⟨_, rfl, pa, _, _, _, rfl, rfl, a13, rfl, _, rfl, pb, _, _, _, rfl, rfl, b13, rfl, ac, a.2.1, 2646, bc, b.2.1, 2646, rfl, Kw.Same.tup (s3.trans s4) a3, va, Kw.Same.tup (s3.trans s4) b3, vb, by decide, fun r5 H5 s5 g5 => ?_⟩
        have d4 : FB 5295 (b.1 - a.1) := dfp a (List.mem_of_getElem? ha) b (List.mem_of_getElem? hb)
        have d5 : FB 2647 (a.2.1 - b.2.1) := dfs a (List.mem_of_getElem? ha) b (List.mem_of_getElem? hb)
        have ne : a.2.1 - b.2.1 ≠ 0 := by grind
        refine ⟨r4, _, 5295, r5, _, 2647, rfl, Kw.Same.tup s5 g4, d4, g5, d5, by decide, ne, fun r6 H6 s6 g6 => ?_⟩
        have d6 : FB 8950 ((b.1 - a.1) / (a.2.1 - b.2.1)) := (FB.div d4 d5 ne).mono (by decide)
        have s26 := s23.trans (s4.trans (s5.trans s6))
        have nx := leastQ_snoc (parsA hs l ++ parsR hs l i) ((b.1 - a.1) / (a.2.1 - b.2.1))
        rw [List.append_assoc, ← parsR_some jn] at nx
        generalize (b.1 - a.1) / (a.2.1 - b.2.1) = q at g6 d6 nx
        have ov6 := ov.same (s3.trans (s4.trans (s5.trans s6)))
        rcases ov6 with ⟨e0, rfl⟩ | ⟨lq, pl, e0, rfl, gl, dl⟩
        · rw [e0] at nx
          refine ⟨_, rfl, rfl, _, rfl, iteT ?_⟩
          refine iteT ?_
          exact ⟨_, rfl, _, _, _, _, _, rfl, s26, .inr ⟨q, r6, nx, rfl, g6, d6⟩⟩
        · rw [e0] at nx
          refine ⟨_, rfl, rfl, _, rfl, iteF ?_⟩
          refine ⟨_, rfl, _, rfl, r6, _, pl, _, rfl, g6, d6.mono (by decide), gl, dl.mono (by decide), fun H7 s7 => ⟨_, rfl, ?_⟩⟩
          refine if_dec (fun c2 => ?_) (fun c2 => ?_)
          · have e : less1 (some lq) q = some q := if_pos c2
            rw [e] at nx
            exact ⟨_, rfl, _, _, _, _, _, rfl, s26.trans s7, .inr ⟨q, r6, nx, rfl, Kw.Same.tup s7 g6, d6⟩⟩
          · have e : less1 (some lq) q = some lq := if_neg c2
            rw [e] at nx
            exact ⟨_, _, _, _, _, rfl, s26.trans s7, .inr ⟨lq, pl, nx, rfl, Kw.Same.tup s7 gl, dl⟩⟩
      · have jn : jntQ (bodAt hs i) (bodAt hs l) = none := by
          rw [ea, eb]
          unfold jntQ
          rw [if_pos (by grind)]
        refine ⟨v, _, _, _, _, rfl, s23, ?_⟩
        rw [parsR_none jn]
        exact ov.same s3
    · rintro σ1 H2 ⟨v, u3, u4, u5, u6, rfl, s2, ov⟩
      rw [show (0 + (l : Int)).toNat = l by omega, ← parsA_next] at ov
      exact ⟨v, _, _, _, _, _, rfl, s2, ov⟩
  · rintro σ1 H1 ⟨v, u2, u3, u4, u5, u6, rfl, s1, ov⟩
    rw [show ((xs.length : Nat) : Int).toNat = hs.length by omega, pars_all ord] at ov
    exact ⟨_, rfl, k v H1 s1 ov⟩
noncomputable def sp_law_gone (K : PySem.W.Frag) : Sp := fun vs H Q _ => ∃ (p : Addr) (xs : List V) (hs : List Bod) (pt : Addr) (t : Rat) (N : Nat), vs = [.ref p, .ref pt] ∧ H p = some (.lst xs) ∧ Al2 (BdQ K H 5425) xs hs ∧ hs.length ≤ 12 ∧ (∀ b ∈ hs, FB 2646 b.2.1) ∧ FQ K H pt t ∧ FB 5295 t ∧ 2646 ≤ N ∧ (∀ b ∈ hs, FB N (b.1 + b.2.1 * t)) ∧ ∀ (r : Addr) (ys : List V) (H1 : Hp), Same H H1 → H r = none → H1 r = some (.lst ys) → Al2 (BdQ K H1 N) ys (hs.map (sftB t)) → Q (.ref r) H1
theorem sc_law_gone : FnScope ["bodies", "time"] ["bodies", "time"] (defScope (top 54)) := ⟨rfl, rfl, rfl, by decide +kernel, rfl, by decide +kernel, by decide +kernel⟩
theorem ok_law_gone (D : Df K mg "_law_gone" (top 54) ["bodies", "time"]) (T : Tx K mg C) (F_law_plus : Fn P w K mg base 2 "_law_plus" ["one", "other"] (sp_law_plus K)) (F_law_times : Fn P w K mg base 2 "_law_times" ["one", "other"] (sp_law_times K)) : Fn P w K mg base 3 "_law_gone" ["bodies", "time"] (sp_law_gone K) := by
  refine D.ok0 sc_law_gone (fun vs H Q E h => ?_) (fun f cdv A outer s H vs Q E hr h => ?_)
  · obtain ⟨p, xs, hs, pt, t, N, rfl, _⟩ := h
    rfl
  obtain ⟨p, xs, hs, pt, t, N, rfl, hp, al, l12, sp, gt, dt, hN, pl, k⟩ := h
  refine ⟨_, (pss_one (ps_ret (@pe_lcG _ _ _ _ _ ["place", "speed", "weight"] _ _ _ _ _ _ _ ["time"] [1] rfl (pi_list (pv 0)) rfl (by decide) rfl (by decide) (fun C z Hc fp => pg_tupK (K := K) rfl (n := 3) rfl (pgs_cons (pg_name (i := 0) (show ((["place", "speed", "weight"] : List Str) ++ (["time"] : List Str)).Nodup by decide) rfl (.inl (lookup_relabel_local rfl)) (.inr (lookup_relabel_local rfl))) (pgs_cons (pg_name (i := 1) (show ((["place", "speed", "weight"] : List Str) ++ (["time"] : List Str)).Nodup by decide) rfl (.inl (lookup_relabel_local rfl)) (.inr (lookup_relabel_local rfl))) (pgs_cons (pg_name (i := 2) (show ((["place", "speed", "weight"] : List Str) ++ (["time"] : List Str)).Nodup by decide) rfl (.inl (lookup_relabel_local rfl)) (.inr (lookup_relabel_local rfl))) pgs_nil)))) (cap_one (j := 1) rfl rfl rfl rfl (.inl rfl)) (fun y c h => h) (cap_fr rfl) (fun C z Hc fp => pts_nil) (fun C z Hc fp => (pe_tup (pa_cons (pe_fn F_law_plus (by decide) hr (by rfl) passE0 (pa_cons (pv 0) (pa_cons (pe_fn F_law_times (by decide) hr (by rfl) passE0 (pa_cons (pv 1) (pa_cons (pv 3) pa_nil))) pa_nil))) (pa_cons (pv 1) (pa_cons (pv 2) pa_nil))))) (fun _ => rfl)))), ?_⟩
  have hz := Al2.len al
  refine ⟨_, rfl, p, rfl, ⟨_, SqL.of hp⟩, lcg_list (K := K) (xs := xs) (fun i ys H' => i ≤ xs.length ∧ Same H H' ∧ Al2 (BdQ K H' N) ys ((hs.take i).map (sftB t))) ⟨Nat.zero_le _, Same.refl _, trivial⟩ (by rw [hz]; exact Nat.le_trans l12 (by decide)) (fun i ys H1 z => by obtain ⟨l, _, e⟩ := z; have := Al2.len e; simp at this; omega) (fun i ys H1 z => by obtain ⟨_, g, _⟩ := z; exact SqL.of (g _ _ hp)) ?_ ?_⟩
  · rintro i x ys H1 Q1 loc ll hx ⟨hl, s1, hy⟩ kq
    have hi : i < xs.length := (List.getElem?_eq_some_iff.mp hx).1
    obtain ⟨q, hq, pq, qa, qc, rfl, x1, x2, x3, x4, x5, x6, x7⟩ := Al2.get (bds_same al s1) hx
    obtain ⟨l1, l2, l3, rfl⟩ : ∃ l1 l2 l3, loc = [l1, l2, l3] := match loc, ll with | [l1, l2, l3], _ => ⟨l1, l2, l3, rfl⟩
    have hm := List.mem_of_getElem? hq
    have vq := sp q hm
    refine ⟨pq, _, rfl, x1, rfl, _, _, rfl, _, _, rfl, _, _, rfl, rfl, ?_⟩
    refine ⟨⟨[some (.ref qa), some (.ref qc), some (.int q.2.2)], rfl, rfl⟩, ?_⟩
    refine ⟨_, rfl, _, rfl, _, rfl, qc, q.2.1, 2646, pt, t, 5295, rfl, x3, vq, Kw.Same.tup s1 gt, dt, by decide, fun r2 H2 s2 g2 => ?_⟩
    refine ⟨qa, q.1, 5425, r2, _, 7941, rfl, Kw.Same.tup s2 x2, x4, g2, (FB.mul vq dt).mono (by decide), by decide, fun r3 H3 s3 g3 => ?_⟩
    refine ⟨_, rfl, _, rfl, by show 3 ≤ sizeLine; decide, ?_⟩
    intro p5 n5
    obtain ⟨H5, q5, s5, e5⟩ := newO n5 (.tup [.ref r3, .ref qc, .int q.2.2])
    rw [q5]
    clear q5
    have s15 := s2.trans (s3.trans s5)
    refine kq _ _ ⟨hi, s1.trans s15, ?_⟩
    rw [take_snoc hq, List.map_append]
    exact Al2.snoc (bds_same hy s15) ⟨p5, r3, qc, rfl, SqT.of e5, Kw.Same.tup s5 g3, Kw.Same.tup s15 x3, pl q hm, vq.mono hN, x6, x7⟩
  · rintro ys H1 ⟨_, s1, hy⟩ pl' hpl
    rw [hz, List.take_length] at hy
    obtain ⟨H2, q2, s2, e2⟩ := newO hpl (.lst ys)
    rw [q2]
    clear q2
    exact k pl' ys H2 (s1.trans s2) (none_of_sm s1 hpl) e2 (bds_same hy s2)
theorem sum_ne {m u : Int} (m1 : 1 ≤ m) (u1 : 1 ≤ u) : ((m + u : Int) : Rat) ≠ 0 := fun z => by
  have z2 : ((m + u : Int) : Rat) = ((0 : Int) : Rat) := z
  have := Rat.intCast_inj.mp z2
  omega
theorem twice_mix {x y : Rat} {m u : Int} (m1 : 1 ≤ m) (u1 : 1 ≤ u) : (((2 : Int) : Rat) * (((m : Int) : Rat) * x + ((u : Int) : Rat) * y)) / (((m + u : Int)) : Rat) - x = mixQ x y m u := by
  have s := sum_ne m1 u1
  rw [mixQ_eq, Rat.intCast_add] at *
  have i := Rat.mul_inv_cancel _ s
  have two : ((2 : Int) : Rat) = 2 := rfl
  rw [two, Rat.div_def, Rat.div_def, Rat.div_def]
  grind
theorem mix_same {x : Rat} {m u : Int} (m1 : 1 ≤ m) (u1 : 1 ≤ u) : mixQ x x m u = x := by
  have s := sum_ne m1 u1
  rw [Rat.intCast_add] at s
  rw [mixQ_eq]
  have i := Rat.mul_inv_cancel _ s
  rw [Rat.div_def, Rat.div_def]
  grind
noncomputable def sp_law_parted (K : PySem.W.Frag) : Sp := fun vs H Q _ => ∃ (p : Addr) (xs : List V) (hs : List Bod) (i : Nat), vs = [.ref p, .int (i : Int)] ∧ H p = some (.lst xs) ∧ Al2 (BdQ K H 5425) xs hs ∧ i + 1 < hs.length ∧ (bodAt hs i).1 = (bodAt hs (i + 1)).1 ∧ FB 2646 (bodAt hs i).2.1 ∧ FB 2646 (bodAt hs (i + 1)).2.1 ∧ ∀ (H1 : Hp) (ys : List V), But p H H1 → H1 p = some (.lst ys) → Al2 (BdQ K H1 5425) ys (partQ hs i) → Q .non H1
theorem sc_law_parted : FnScope ["bodies", "number", "one", "other", "both", "twice"] ["bodies", "number"] (defScope (top 55)) := ⟨rfl, rfl, rfl, by decide +kernel, rfl, by decide +kernel, by decide +kernel⟩
theorem ok_law_parted (D : Df K mg "_law_parted" (top 55) ["bodies", "number"]) (T : Tx K mg C) (F_law_plus : Fn P w K mg base 2 "_law_plus" ["one", "other"] (sp_law_plus K)) (F_law_times : Fn P w K mg base 2 "_law_times" ["one", "other"] (sp_law_times K)) (F_law_over : Fn P w K mg base 2 "_law_over" ["one", "other"] (sp_law_over K)) (F_law_minus : Fn P w K mg base 2 "_law_minus" ["one", "other"] (sp_law_minus K)) : Fn P w K mg base 3 "_law_parted" ["bodies", "number"] (sp_law_parted K) := by
  refine D.ok0 sc_law_parted (fun vs H Q E h => ?_) (fun f cdv A outer s H vs Q E hr h => ?_)
  · obtain ⟨p, xs, hs, i, rfl, _⟩ := h
    rfl
  obtain ⟨p, xs, hs, i, rfl, hp, al, i1, pl, va, vb, k⟩ := h
  refine ⟨_, (pss_cons (ps_par (i := 2) (j := 3) rfl sc_law_parted.nd rfl rfl (by decide) rfl rfl (pa_cons (pe_ix ix_list (pv 0) (pv 1) (fun _ _ => rfl)) (pa_cons (pe_ix ix_list (pv 0) (pe_op op_add (pv 1) pe_int) (fun _ _ => rfl)) pa_nil)) rfl)
      (pss_cons (ps_set (i := 4) sc_law_parted.nd rfl (Or.inl rfl) (pe_fn F_law_plus (by decide) hr (by rfl) passE0 (pa_cons (pe_fn F_law_times (by decide) hr (by rfl) passE0 (pa_cons (pe_tup (pa_cons (pe_ix ix_tup (pv 2) pe_int (fun _ _ => rfl)) (pa_cons pe_int pa_nil))) (pa_cons (pe_ix ix_tup (pv 2) pe_int (fun _ _ => rfl)) pa_nil))) (pa_cons (pe_fn F_law_times (by decide) hr (by rfl) passE0 (pa_cons (pe_tup (pa_cons (pe_ix ix_tup (pv 3) pe_int (fun _ _ => rfl)) (pa_cons pe_int pa_nil))) (pa_cons (pe_ix ix_tup (pv 3) pe_int (fun _ _ => rfl)) pa_nil))) pa_nil))))
      (pss_cons (ps_set (i := 5) sc_law_parted.nd rfl (Or.inl rfl) (pe_fn F_law_over (by decide) hr (by rfl) passE0 (pa_cons (pe_fn F_law_times (by decide) hr (by rfl) passE0 (pa_cons (pe_tup (pa_cons pe_int (pa_cons pe_int pa_nil))) (pa_cons (pv 4) pa_nil))) (pa_cons (pe_tup (pa_cons (pe_op op_add (pe_ix ix_tup (pv 2) pe_int (fun _ _ => rfl)) (pe_ix ix_tup (pv 3) pe_int (fun _ _ => rfl))) (pa_cons pe_int pa_nil))) pa_nil))))
      (pss_cons (ps_asg (pe_tup (pa_cons (pe_ix ix_tup (pv 2) pe_int (fun _ _ => rfl)) (pa_cons (pe_fn F_law_minus (by decide) hr (by rfl) passE0 (pa_cons (pv 5) (pa_cons (pe_ix ix_tup (pv 2) pe_int (fun _ _ => rfl)) pa_nil))) (pa_cons (pe_ix ix_tup (pv 2) pe_int (fun _ _ => rfl)) pa_nil)))) (pg_sub (pv 0) (pv 1) set_list))
      (pss_one (ps_asg (pe_tup (pa_cons (pe_ix ix_tup (pv 3) pe_int (fun _ _ => rfl)) (pa_cons (pe_fn F_law_minus (by decide) hr (by rfl) passE0 (pa_cons (pv 5) (pa_cons (pe_ix ix_tup (pv 3) pe_int (fun _ _ => rfl)) pa_nil))) (pa_cons (pe_ix ix_tup (pv 3) pe_int (fun _ _ => rfl)) pa_nil)))) (pg_sub (pv 0) (pe_op op_add (pv 1) pe_int) set_list))))))), ?_⟩
  have hz := Al2.len al
  obtain ⟨u, hu⟩ : ∃ x, xs[i]? = some x := ⟨_, List.getElem?_eq_getElem (by omega)⟩
  obtain ⟨v, hv⟩ : ∃ x, xs[i + 1]? = some x := ⟨_, List.getElem?_eq_getElem (by omega)⟩
  obtain ⟨a, ha, pa, a1, c1, rfl, x1, x2, x3, x4, x5, x6, x7⟩ := Al2.get al hu
  obtain ⟨b, hb, pb, a2, c2, rfl, y1, y2, y3, y4, y5, y6, y7⟩ := Al2.get al hv
  have ea := bodAt_of ha
  have eb := bodAt_of hb
  rw [ea] at va pl
  rw [eb] at vb pl
  have at1 : atI xs ((i : Int) + 1) = some (.ref pb) := by
    have z := atI_nat hv
    rwa [show (((i + 1 : Nat)) : Int) = (i : Int) + 1 by omega] at z
  refine ⟨_, rfl, _, rfl, p, _, _, _, rfl, rfl, SqL.of hp, atI_nat hu, _, rfl, _, rfl, _, _, rfl, rfl, p, _, _, _, rfl, rfl, SqL.of hp, at1, _, _, rfl, ?_⟩
  refine ⟨_, rfl, pa, _, _, _, rfl, rfl, x1, rfl, by show 2 ≤ sizeLine; decide, ?_⟩
  intro p1 n1
  obtain ⟨H1, q1, s1, e1⟩ := newO n1 (.tup [.int a.2.2, .int 1])
  rw [q1]
  clear q1
  have g1 : FQ K H1 p1 ((a.2.2 : Int) : Rat) := FQ.ofInt (SqT.of e1)
  have d1 : FB 64 ((a.2.2 : Int) : Rat) := FB.ofInt (Bd.small (by omega) (by omega)) (by decide)
  have db : FB 64 ((b.2.2 : Int) : Rat) := FB.ofInt (Bd.small (by omega) (by omega)) (by decide)
  have x11 := Kw.Same.tup s1 x1
  refine ⟨_, rfl, pa, _, _, _, rfl, rfl, x11, rfl, p1, _, 64, c1, _, 2646, rfl, g1, d1, Kw.Same.tup s1 x3, va, by decide, fun r2 H2 s2 g2 => ?_⟩
  have s02 := s1.trans s2
  have y12 := Kw.Same.tup s02 y1
  refine ⟨_, rfl, pb, _, _, _, rfl, rfl, y12, rfl, by show 2 ≤ sizeLine; decide, ?_⟩
  intro p3 n3
  obtain ⟨H3, q3, s3, e3⟩ := newO n3 (.tup [.int b.2.2, .int 1])
  rw [q3]
  clear q3
  have s03 := s02.trans s3
  have g3 : FQ K H3 p3 ((b.2.2 : Int) : Rat) := FQ.ofInt (SqT.of e3)
  have y13 := Kw.Same.tup s03 y1
  refine ⟨_, rfl, pb, _, _, _, rfl, rfl, y13, rfl, p3, _, 64, c2, _, 2646, rfl, g3, db, Kw.Same.tup s03 y3, vb, by decide, fun r4 H4 s4 g4 => ?_⟩
  have dA : FB 2710 (((a.2.2 : Int) : Rat) * a.2.1) := FB.mul d1 va
  have dB : FB 2710 (((b.2.2 : Int) : Rat) * b.2.1) := FB.mul db vb
  refine ⟨r2, _, 2710, r4, _, 2710, rfl, Kw.Same.tup (s3.trans s4) g2, dA, g4, dB, by decide, fun r5 H5 s5 g5 => ?_⟩
  have s05 := s03.trans (s4.trans s5)
  have d5 : FB 5421 (((a.2.2 : Int) : Rat) * a.2.1 + ((b.2.2 : Int) : Rat) * b.2.1) := FB.add dA dB
  refine ⟨by show 2 ≤ sizeLine; decide, ?_⟩
  intro p6 n6
  obtain ⟨H6, q6, s6, e6⟩ := newO n6 (.tup [.int 2, .int 1])
  rw [q6]
  clear q6
  have g6 : FQ K H6 p6 ((2 : Int) : Rat) := FQ.ofInt (SqT.of e6)
  have d6 : FB 64 ((2 : Int) : Rat) := FB.ofInt (Bd.small (i := 2) (by decide) (by decide)) (by decide)
  refine ⟨_, rfl, p6, _, 64, r5, _, 5421, rfl, g6, d6, Kw.Same.tup s6 g5, d5, by decide, fun r7 H7 s7 g7 => ?_⟩
  have s07 := s05.trans (s6.trans s7)
  have x17 := Kw.Same.tup s07 x1
  have y17 := Kw.Same.tup s07 y1
  refine ⟨_, rfl, pa, _, _, _, rfl, rfl, x17, rfl, _, rfl, pb, _, _, _, rfl, rfl, y17, rfl, _, _, rfl, rfl, by show 2 ≤ sizeLine; decide, ?_⟩
  intro p8 n8
  obtain ⟨H8, q8, s8, e8⟩ := newO n8 (.tup [.int (a.2.2 + b.2.2), .int 1])
  rw [q8]
  clear q8
  have g8 : FQ K H8 p8 ((a.2.2 + b.2.2 : Int) : Rat) := FQ.ofInt (SqT.of e8)
  have d8 : FB 64 ((a.2.2 + b.2.2 : Int) : Rat) := FB.ofInt (Bd.small (by omega) (by omega)) (by decide)
  have d7 := FB.mul d6 d5
  have ne := sum_ne x6 y6
  refine ⟨r7, _, 5485, p8, _, 64, rfl, Kw.Same.tup s8 g7, d7, g8, d8, by decide, ne, fun r9 H9 s9 g9 => ?_⟩
  have d9 := FB.div d7 d8 ne
  have s09 := s07.trans (s8.trans s9)
  have x19 := Kw.Same.tup s09 x1
  have mx := twice_mix (x := a.2.1) (y := b.2.1) x6 y6
  have my : (((2 : Int) : Rat) * (((a.2.2 : Int) : Rat) * a.2.1 + ((b.2.2 : Int) : Rat) * b.2.1)) / (((a.2.2 + b.2.2 : Int)) : Rat) - b.2.1 = mixQ b.2.1 a.2.1 b.2.2 a.2.2 := by
    rw [← twice_mix y6 x6, Int.add_comm b.2.2 a.2.2, Rat.add_comm (((b.2.2 : Int) : Rat) * b.2.1)]
  generalize (((2 : Int) : Rat) * (((a.2.2 : Int) : Rat) * a.2.1 + ((b.2.2 : Int) : Rat) * b.2.1)) / (((a.2.2 + b.2.2 : Int)) : Rat) = tw at g9 d9 mx my
  refine ⟨_, rfl, pa, _, _, _, rfl, rfl, x19, rfl, _, rfl, _, rfl, pa, _, _, _, rfl, rfl, x19, rfl, r9, tw, 5549, c1, _, 2646, rfl, g9, d9, Kw.Same.tup s09 x3, va, by decide, fun r10 H10 s10 g10 => ?_⟩
  rw [mx] at g10
  have s010 := s09.trans s10
  have x110 := Kw.Same.tup s010 x1
  refine ⟨_, rfl, pa, _, _, _, rfl, rfl, x110, rfl, by show 3 ≤ sizeLine; decide, ?_⟩
  intro p11 n11
  obtain ⟨H11, q11, s11, e11⟩ := newO n11 (.tup [.ref a1, .ref r10, .int a.2.2])
  rw [q11]
  clear q11
  have s011 := s010.trans s11
  have hp11 := s011 _ _ hp
  refine ⟨_, rfl, _, rfl, p, xs, _, i, rfl, rfl, hp11, ixN_nat (by omega), ?_⟩
  obtain ⟨H12, q12, s12, e12⟩ := newB (H := H11) (p := p) (.lst (xs.set i (V.ref p11)))
  dsimp only
  rw [q12]
  clear q12
  have tk : ∀ {q : Addr} {zs : List V}, SqT K H q zs → SqT K H12 q zs := fun h => s12.tup hp11 (Kw.Same.tup s011 h)
  have y112 := tk y1
  have g912 : FQ K H12 r9 tw := s12.tup hp11 (Kw.Same.tup (s10.trans s11) g9)
  refine ⟨_, rfl, pb, _, _, _, rfl, rfl, y112, rfl, _, rfl, _, rfl, pb, _, _, _, rfl, rfl, y112, rfl, r9, tw, 5549, c2, _, 2646, rfl, g912, d9, tk y3, vb, by decide, fun r13 H13 s13 g13 => ?_⟩
  rw [my] at g13
  have y113 := Kw.Same.tup s13 y112
  refine ⟨_, rfl, pb, _, _, _, rfl, rfl, y113, rfl, by show 3 ≤ sizeLine; decide, ?_⟩
  intro p14 n14
  obtain ⟨H14, q14, s14, e14⟩ := newO n14 (.tup [.ref a2, .ref r13, .int b.2.2])
  rw [q14]
  clear q14
  have hp14 := s14 _ _ (s13 _ _ e12)
  refine ⟨_, rfl, _, rfl, _, _, rfl, rfl, p, _, _, i + 1, rfl, rfl, hp14, ixN_nat (j := i + 1) (by rw [List.length_set]; omega), ?_⟩
  obtain ⟨H15, q15, s15, e15⟩ := newB (H := H14) (p := p) (.lst ((xs.set i (V.ref p11)).set (i + 1) (V.ref p14)))
  dsimp only
  rw [q15]
  clear q15
  have B15 : But p H H15 := (But.of s011).trans (s12.trans ((But.of (s13.trans s14)).trans s15))
  have t14 : ∀ {q : Addr} {zs : List V}, SqT K H12 q zs → SqT K H15 q zs := fun h => s15.tup hp14 (Kw.Same.tup (s13.trans s14) h)
  have pa' : (behQ a b).1 = a.1 := by show mixQ a.1 b.1 _ _ = _; rw [← pl]; exact mix_same x6 y6
  have pb' : (behQ b a).1 = b.1 := by show mixQ b.1 a.1 _ _ = _; rw [pl]; exact mix_same y6 x6
  have up1 : BdQ K H15 5425 (.ref p11) (behQ a b) := ⟨p11, a1, r10, rfl, t14 (s12.tup hp11 (SqT.of e11)), by rw [pa']; exact t14 (tk x2), t14 (s12.tup hp11 (Kw.Same.tup s11 g10)), by rw [pa']; exact x4, (FB.mix va vb x6 x7 y6 y7).mono (by decide), x6, x7⟩
  have up2 : BdQ K H15 5425 (.ref p14) (behQ b a) := ⟨p14, a2, r13, rfl, s15.tup hp14 (SqT.of e14), by rw [pb']; exact t14 (tk y2), s15.tup hp14 (Kw.Same.tup s14 g13), by rw [pb']; exact y4, (FB.mix vb va y6 y7 x6 x7).mono (by decide), y6, y7⟩
  have al15 : Al2 (BdQ K H15 5425) xs hs := bds_but al B15 hp
  refine k H15 _ B15 e15 ?_
  unfold partQ
  rw [ea, eb]
  exact Al2.set (Al2.set al15 up1) up2
noncomputable def sp_law_step (K : PySem.W.Frag) : Sp := fun vs H Q _ => ∃ (pn p : Addr) (xs : List V) (gs : List Bod) (now : Rat), vs = [.ref pn, .ref p] ∧ FQ K H pn now ∧ FB 2647 now ∧ H p = some (.lst xs) ∧ Al2 (BdQ K H 5425) xs (gs.map (sftB now)) ∧ 1 ≤ gs.length ∧ gs.length ≤ 12 ∧ OrdT gs now ∧ Com 2646 gs ∧
  (cmng gs = none → ∀ (r e : Addr) (H1 : Hp), Same H H1 → H e = none → SqT K H1 r [.str "still", .ref pn, .ref p, .ref e] → H1 e = some (.lst []) → Q (.ref r) H1) ∧
  (∀ t, cmng gs = some t → crwQ gs → ∀ (r pt pl tn : Addr) (q : Rat) (ns : List Nat) (H1 : Hp), Same H H1 → CrwD gs t q ns → FB 2647 t → FB 5425 q → SqT K H1 r [.str "crowd", .ref pt, .ref pl, .ref tn] → FQ K H1 pt t → FQ K H1 pl q → SqT K H1 tn (numsV ns) → Q (.ref r) H1) ∧
  (∀ t, cmng gs = some t → ¬ crwQ gs → ∀ (r pt th pm : Addr) (ys zs : List V) (H1 : Hp), Same H H1 → SqT K H1 r [.str "met", .ref pt, .ref th, .ref pm] → FQ K H1 pt t → FB 2647 t → H th = none → H pm = none → th ≠ pm → H1 th = some (.lst ys) → Al2 (BdQ K H1 5425) ys ((onQ gs).map (sftB t)) → H1 pm = some (.lst zs) → Al2 (MtX K H1) zs (metsQ gs) → Q (.ref r) H1)
theorem sc_law_step : FnScope ["now", "bodies", "time", "then", "there", "numbers", "k", "place", "met"] ["now", "bodies"] (defScope (top 56)) := ⟨rfl, rfl, rfl, by decide +kernel, rfl, by decide +kernel, by decide +kernel⟩
theorem ok_law_step (D : Df K mg "_law_step" (top 56) ["now", "bodies"]) (T : Tx K mg C) (F_law_ahead : Fn P w K mg base 3 "_law_ahead" ["bodies"] (sp_law_ahead K)) (F_law_plus : Fn P w K mg base 2 "_law_plus" ["one", "other"] (sp_law_plus K)) (F_law_gone : Fn P w K mg base 3 "_law_gone" ["bodies", "time"] (sp_law_gone K)) (F_law_parted : Fn P w K mg base 3 "_law_parted" ["bodies", "number"] (sp_law_parted K)) : Fn P w K mg base 4 "_law_step" ["now", "bodies"] (sp_law_step K) := by
  refine D.ok0 sc_law_step (fun vs H Q E h => ?_) (fun f cdv A outer s H vs Q E hr h => ?_)
  · obtain ⟨pn, p, xs, gs, now, rfl, _⟩ := h
    rfl
  obtain ⟨pn, p, xs, gs, now, rfl, gn, dn, hp, al, l1, l12, ord, com, ks, kc, km⟩ := h
  refine ⟨_, (pss_cons (ps_set (i := 2) sc_law_step.nd rfl (Or.inl rfl) (pe_fn F_law_ahead (by decide) hr (by rfl) passE0 (pa_cons (pv 1) pa_nil)))
      (pss_cons (ps_if (pt_cmpR op_isN (pv 2) pe_non (nomark _)) (pss_one (ps_ret (pe_tup (pa_cons pe_str (pa_cons (pv 0) (pa_cons (pv 1) (pa_cons (pe_lst pa_nil) pa_nil))))))) pss_nil)
      (pss_cons (ps_set (i := 3) sc_law_step.nd rfl (Or.inr rfl) (pe_fn F_law_plus (by decide) hr (by rfl) passE0 (pa_cons (pv 0) (pa_cons (pv 2) pa_nil))))
      (pss_cons (ps_set (i := 4) sc_law_step.nd rfl (Or.inr rfl) (pe_fn F_law_gone (by decide) hr (by rfl) passE0 (pa_cons (pv 1) (pa_cons (pv 2) pa_nil))))
      (pss_cons (@ps_lcT _ _ _ _ _ _ _ _ _ _ _ _ ["there"] [4] 5 _ _ _ sc_law_step.nd rfl rfl rfl rfl (pi_range1 (by rfl) T.b_range (pa_cons (pe_op op_sub (pe_callB call_len (by rfl) T.b_len PyProof.Rows.Boot.«len» (pa_cons (pv 4) pa_nil)) pe_int) pa_nil)) rfl (by decide) rfl (by decide) rfl (by decide) (cap_one (j := 4) rfl rfl rfl rfl (.inl rfl)) (cl_one rfl) (cap_fr rfl) (fun C z Hc fp => pts_one (pt_cmpR (op_eqQ (K := K) rfl (u100 hr)) (pe_ix (ixT (K := K) rfl) (pe_ix (ixL (K := K) rfl) (pv 1) (pv 0) (fun _ _ => rfl)) pe_int (fun _ _ => rfl)) (pe_ix (ixT (K := K) rfl) (pe_ix (ixL (K := K) rfl) (pv 1) (pe_op op_add (pv 0) pe_int) (fun _ _ => rfl)) pe_int (fun _ _ => rfl)) (nomark _))) (fun C z Hc fp => (pv 0)) (fun _ => rfl))
      (pss_cons (ps_for PassesOwn.never rfl (pi_list (pv 5)) (pg_name (i := 6) sc_law_step.nd rfl (Or.inl rfl)) (pss_one (ps_if (pt_cmpR op_in_seq (pe_op op_add (pv 6) pe_int) (pv 5) (by first | rfl | with_unfolding_all rfl)) (pss_cons (ps_set (i := 7) sc_law_step.nd rfl (Or.inr rfl) (pe_ix ix_tup (pe_ix ix_list (pv 4) (pv 6) (fun _ _ => rfl)) pe_int (fun _ _ => rfl)))
      (pss_one (ps_ret (pe_tup (pa_cons pe_str (pa_cons (pv 3) (pa_cons (pv 7) (pa_cons (pe_callTy call_tuple_of (by rfl) T.b_tuple PyProof.Rows.Boot.«tuple» (pa_cons (@pe_lcT _ _ _ _ _ _ _ _ _ _ _ _ ["place", "there"] [7, 4] rfl (pi_range1 (by rfl) T.b_range (pa_cons (pe_callB call_len (by rfl) T.b_len PyProof.Rows.Boot.«len» (pa_cons (pv 4) pa_nil)) pa_nil)) rfl (by decide) rfl (by decide) rfl (by decide) (cap_two (j := 7) (j' := 4) rfl rfl rfl rfl (.inl rfl) rfl rfl rfl rfl (.inl rfl)) (cl_two rfl rfl) (cap_fr rfl) (fun C z Hc fp => pts_one (pt_cmpR (op_eqQ (K := K) rfl (u100 hr)) (pe_ix (ixT (K := K) rfl) (pe_ix (ixL (K := K) rfl) (pv 2) (pv 0) (fun _ _ => rfl)) pe_int (fun _ _ => rfl)) (pv 1) (nomark _))) (fun C z Hc fp => (pv 0)) (fun _ => rfl)) pa_nil)) pa_nil)))))))) pss_nil)))
      (pss_cons (@ps_lc _ _ _ _ _ _ _ _ _ _ ["then", "there"] [3, 4] 8 _ _ _ sc_law_step.nd rfl rfl rfl rfl (pi_list (pv 5)) rfl (by decide) rfl (by decide) rfl (by decide) (cap_two (j := 3) (j' := 4) rfl rfl rfl rfl (.inl rfl) rfl rfl rfl rfl (.inl rfl)) (cl_two rfl rfl) (cap_fr rfl) (fun C z Hc fp => (pe_tup (pa_cons (pv 1) (pa_cons (pe_ix (ixT (K := K) rfl) (pe_ix (ixL (K := K) rfl) (pv 2) (pv 0) (fun _ _ => rfl)) pe_int (fun _ _ => rfl)) (pa_cons (pv 0) pa_nil))))) (fun _ => rfl))
      (pss_cons (ps_for PassesOwn.never rfl (pi_list (pv 5)) (pg_name (i := 6) sc_law_step.nd rfl (Or.inl rfl)) (pss_one (ps_expr (pe_fn F_law_parted (by decide) hr (by rfl) passE0 (pa_cons (pv 4) (pa_cons (pv 6) pa_nil))))))
      (pss_one (ps_ret (pe_tup (pa_cons pe_str (pa_cons (pv 3) (pa_cons (pv 4) (pa_cons (pv 8) pa_nil))))))))))))))), ?_⟩
  have hz := Al2.len al
  rw [List.length_map] at hz
  have c1 : Com 2646 gs := com
  have lh : (gs.map (sftB now)).length = gs.length := List.length_map _
  have vs1 : ∀ b ∈ gs.map (sftB now), FB 2646 b.2.1 := fun b hb => by
    obtain ⟨b', hb', rfl⟩ := List.mem_map.mp hb
    exact (c1.fb b' hb').2
  have df1 : ∀ a ∈ gs.map (sftB now), ∀ b ∈ gs.map (sftB now), FB 5295 (b.1 - a.1) := fun a ha b hb => by
    obtain ⟨a', ha', rfl⟩ := List.mem_map.mp ha
    obtain ⟨b', hb', rfl⟩ := List.mem_map.mp hb
    exact (com_dif c1 ha' hb' dn).mono (by decide)
  have df2 : ∀ a ∈ gs.map (sftB now), ∀ b ∈ gs.map (sftB now), FB 2647 (a.2.1 - b.2.1) := fun a ha b hb => by
    obtain ⟨a', ha', rfl⟩ := List.mem_map.mp ha
    obtain ⟨b', hb', rfl⟩ := List.mem_map.mp hb
    exact (com_spd c1 ha' hb').mono (by decide)
  refine ⟨_, rfl, p, xs, gs.map (sftB now), rfl, hp, al, vs1, df1, df2, ⟨_, ord_sft ord⟩, by omega, by omega, fun v H1 s1 ov => ?_⟩
  rw [cmng_sft] at ov
  refine ⟨_, rfl, rfl, _, rfl, ?_⟩
  cases ct : cmng gs with
  | none =>
    rw [ct] at ov
    rcases ov with ⟨_, rfl⟩ | ⟨_, _, e, _⟩
    · refine if_dec (fun _ => ?_) (fun c => absurd rfl c)
      refine ⟨_, rfl, _, rfl, by show 0 ≤ sizeLine; decide, ?_⟩
      intro p2 n2
      obtain ⟨H2, q2, s2, e2⟩ := newO n2 (.lst [])
      rw [q2]
      clear q2
      refine ⟨by show 4 ≤ sizeLine; decide, ?_⟩
      intro p3 n3
      obtain ⟨H3, q3, s3, e3⟩ := newO n3 (.tup [.str "still", .ref pn, .ref p, .ref p2])
      rw [q3]
      clear q3
      exact ks ct p3 p2 H3 (s1.trans (s2.trans s3)) (none_of_sm s1 n2) (SqT.of e3) (s3 _ _ e2)
    · cases e
  | some t =>
  rw [ct] at ov
  have dt : FB 2647 t := by
    obtain ⟨⟨k, hk, ek⟩, _⟩ := cmng_some ct
    exact (com.jnt (List.mem_of_getElem? (bodAt_get (by omega))) (List.mem_of_getElem? (bodAt_get hk)) ek).mono (by omega)
  obtain ⟨e0, _⟩ | ⟨d, pd, ed, rfl, gd, _⟩ := ov
  · cases e0
  replace ed : t - now = d := Option.some.inj ed
  subst ed
  refine if_dec (fun c => nomatch c) (fun _ => ?_)
  have dd : FB 5295 (t - now) := (FB.sub dt dn).mono (by decide)
  refine ⟨_, rfl, _, rfl, pn, now, 2647, pd, t - now, 5295, rfl, Kw.Same.tup s1 gn, dn, gd, dd, by decide, fun r2 H2 s2 g2 => ?_⟩
  replace g2 : FQ K H2 r2 t := FQ.cast g2 (by grind)
  have s02 := s1.trans s2
  have pl3 : ∀ b ∈ gs, FB 5425 (plcQ b t) := fun b hb => (com_plc c1 hb dt).mono (by decide)
  have pls : ∀ b ∈ gs.map (sftB now), FB 5425 (b.1 + b.2.1 * (t - now)) := fun b hb => by
    obtain ⟨b', hb', rfl⟩ := List.mem_map.mp hb
    have e : (sftB now b').1 + (sftB now b').2.1 * (t - now) = plcQ b' t := by
      unfold sftB plcQ
      dsimp only
      grind
    rw [e]
    exact pl3 b' hb'
  refine ⟨_, rfl, _, rfl, p, xs, gs.map (sftB now), pd, t - now, 5425, rfl, s02 _ _ hp, bds_same al s02, by omega, vs1, Kw.Same.tup s2 gd, dd.mono (by decide), by decide, pls, fun r3 ys3 H3 s3 n3 e3 al3 => ?_⟩
  rw [sft_sft, show now + (t - now) = t by grind] at al3
  have hy3 := Al2.len al3
  rw [List.length_map] at hy3
  have s03 := s02.trans s3
  have n03 := none_of_sm s02 n3
  have lm := lefts_meet ord ct
  refine ⟨_, rfl, _, _, rfl, .inl ⟨_, SqL.of e3, rfl⟩, _, _, rfl, rfl, _, rfl, by omega, by omega, lc_rangeF (n := (((ys3.length : Nat) : Int) - 1).toNat) (fun k => decide (plcQ (bodAt gs k) t = plcQ (bodAt gs (k + 1)) t)) (Nat.le_trans (show (((ys3.length : Nat) : Int) - 1).toNat ≤ 12 by omega) (by decide)) ?_ ?_ ?_⟩
  · intro i hi Q1 q1
    obtain ⟨x, hx⟩ : ∃ x, ys3[i]? = some x := ⟨_, List.getElem?_eq_getElem (by omega)⟩
    obtain ⟨y, hy⟩ : ∃ y, ys3[i + 1]? = some y := ⟨_, List.getElem?_eq_getElem (by omega)⟩
    obtain ⟨a, ha, pa, aa, ac, rfl, a1, a2, _⟩ := Al2.get al3 hx
    obtain ⟨b, hb, pb, ba, bc, rfl, b1, b2, _⟩ := Al2.get al3 hy
    have ea : a.1 = plcQ (bodAt gs i) t := by rw [← bodAt_of ha, bod_sft gs (by omega)]; rfl
    have eb : b.1 = plcQ (bodAt gs (i + 1)) t := by rw [← bodAt_of hb, bod_sft gs (by omega)]; rfl
    rw [ea] at a2
    rw [eb] at b2
    have at1 : atI ys3 (0 + (i : Int) + 1) = some (.ref pb) := by
      have z := atI_nat hy
      rwa [show (((i + 1 : Nat)) : Int) = 0 + (i : Int) + 1 by omega] at z
    exact ⟨_, rfl, _, rfl, r3, _, _, _, rfl, rfl, SqL.of e3, atI_z hx, pa, _, _, _, rfl, rfl, a1, rfl, _, rfl, _, rfl, _, _, rfl, rfl, r3, _, _, _, rfl, rfl, SqL.of e3, at1, pb, _, _, _, rfl, rfl, b1, rfl, aa, ba, _, _, rfl, rfl, a2, b2, _, rfl, q1⟩
  · intro i hi Q1 q1
    exact ⟨_, rfl, q1⟩
  intro r4 hr4
  have el : (((List.range (((ys3.length : Nat) : Int) - 1).toNat).filter fun k => decide (plcQ (bodAt gs k) t = plcQ (bodAt gs (k + 1)) t)).map fun i : Nat => V.int (0 + (i : Int))) = numsV (leftsQ gs) := by
    rw [lm, show (((ys3.length : Nat) : Int) - 1).toNat = gs.length - 1 by omega]
    unfold numsV
    refine List.map_congr_left fun i _ => ?_
    rw [Int.zero_add]
  rw [el]
  obtain ⟨H4, q4, s4, e4⟩ := newO hr4 (.lst (numsV (leftsQ gs)))
  rw [q4]
  clear q4 el
  have e34 := s4 _ _ e3
  have al4 := bds_same al3 s4
  have g24 := Kw.Same.tup (s3.trans s4) g2
  have s04 := s03.trans s4
  have len : (numsV (leftsQ gs)).length = (leftsQ gs).length := List.length_map _
  have nget : ∀ {i : Nat} {x : V}, (numsV (leftsQ gs))[i]? = some x → ∃ k, (leftsQ gs)[i]? = some k ∧ x = .int (k : Int) := fun {i x} hx => by
    unfold numsV at hx
    rw [List.getElem?_map] at hx
    obtain ⟨k, hk, e⟩ := Option.map_eq_some_iff.mp hx
    exact ⟨k, hk, e.symm⟩
  refine ⟨_, rfl, r4, rfl, ⟨_, SqL.of e4⟩, for_list (K := K) (a := r4) (xs := numsV (leftsQ gs)) (fun i σ1 H' => ∃ u6 : Option V, σ1 = [some (.ref pn), some (.ref p), some (.ref pd), some (.ref r2), some (.ref r3), some (.ref r4), u6, none, none] ∧ H' = H4 ∧ ∀ j k : Nat, j < i → (leftsQ gs)[j]? = some k → k + 1 ∉ leftsQ gs) ⟨_, rfl, rfl, fun j k h => absurd h (by omega)⟩ (by rintro _ _ _ _ ⟨_, _, rfl, _⟩; exact SqL.of e4) ?_ ?_⟩
  · rintro i x σ1 H' hx ⟨u6, rfl, rfl, below⟩
    obtain ⟨k, hk, rfl⟩ := nget hx
    have kl := List.mem_of_getElem? hk
    have klt := (lefts_lt kl).1
    refine ⟨_, rfl, _, _, rfl, rfl, _, rfl, r4, _, rfl, .inl (SqL.of e4), rfl, nums_flat _, _, rfl, ?_⟩
    show if (inV (V.int ((k : Int) + 1)) (numsV (leftsQ gs))) = true then _ else _
    rw [show (k : Int) + 1 = ((k + 1 : Nat) : Int) by omega, nums_in]
    refine if_dec (fun c => ?_) (fun c => ?_)
    · obtain ⟨x, hx⟩ : ∃ x, ys3[k]? = some x := ⟨_, List.getElem?_eq_getElem (by omega)⟩
      obtain ⟨a, ha, pa, aa, ac, rfl, a1, a2, _⟩ := Al2.get al4 hx
      have ea : a.1 = plcQ (bodAt gs k) t := by rw [← bodAt_of ha, bod_sft gs (by omega)]; rfl
      rw [ea] at a2
      refine ⟨_, rfl, _, rfl, r3, _, _, _, rfl, rfl, SqL.of e34, atI_nat hx, pa, _, _, _, rfl, rfl, a1, rfl, ?_⟩
      refine ⟨_, rfl, _, rfl, _, rfl, _, _, rfl, .inl ⟨_, SqL.of e34, rfl⟩, _, rfl, by omega, by omega, lc_rangeF (n := (((ys3.length : Nat) : Int)).toNat) (fun j => decide (plcQ (bodAt gs j) t = plcQ (bodAt gs k) t)) (Nat.le_trans (show (((ys3.length : Nat) : Int)).toNat ≤ 12 by omega) (by decide)) ?_ ?_ ?_⟩
      · intro j hj Q1 q1
        obtain ⟨y, hy⟩ : ∃ y, ys3[j]? = some y := ⟨_, List.getElem?_eq_getElem (by omega)⟩
        obtain ⟨b, hb, pb, ba, bc, rfl, b1, b2, _⟩ := Al2.get al4 hy
        have eb : b.1 = plcQ (bodAt gs j) t := by rw [← bodAt_of hb, bod_sft gs (by omega)]; rfl
        rw [eb] at b2
        exact ⟨_, rfl, _, rfl, r3, _, _, _, rfl, rfl, SqL.of e34, atI_z hy, pb, _, _, _, rfl, rfl, b1, rfl, _, rfl, ba, aa, _, _, rfl, rfl, b2, a2, _, rfl, q1⟩
      · intro j hj Q1 q1
        exact ⟨_, rfl, q1⟩
      intro r5 hr5
      have el : (((List.range (((ys3.length : Nat) : Int)).toNat).filter fun j => decide (plcQ (bodAt gs j) t = plcQ (bodAt gs k) t)).map fun i : Nat => V.int (0 + (i : Int))) = numsV ((List.range gs.length).filter fun j => decide (plcQ (bodAt gs j) t = plcQ (bodAt gs k) t)) := by
        rw [show (((ys3.length : Nat) : Int)).toNat = gs.length by omega]
        unfold numsV
        refine List.map_congr_left fun i _ => ?_
        rw [Int.zero_add]
      rw [el]
      obtain ⟨ns, hns⟩ : ∃ ns, (List.range gs.length).filter (fun j => decide (plcQ (bodAt gs j) t = plcQ (bodAt gs k) t)) = ns := ⟨_, rfl⟩
      rw [hns]
      obtain ⟨H5, q5, s5, e5⟩ := newO hr5 (.lst (numsV ns))
      rw [q5]
      clear q5 el
      refine ⟨r5, _, rfl, .inl ⟨SqL.of e5, fun r6 hr6 => ?_⟩⟩
      obtain ⟨H6, q6, s6, e6⟩ := newO hr6 (.tup (numsV ns))
      rw [q6]
      clear q6
      refine ⟨by show 4 ≤ sizeLine; decide, ?_⟩
      intro p7 n7
      obtain ⟨H7, q7, s7, e7⟩ := newO n7 (.tup [.str "crowd", .ref r2, .ref aa, .ref r6])
      rw [q7]
      clear q7
      have s47 := s5.trans (s6.trans s7)
      refine kc t ct ((crw_two ord).mpr ⟨k, kl, c⟩) p7 r2 aa r6 _ ns H7 (s04.trans s47) ⟨k, kl, c, fun j hj jl => ?_, rfl, hns.symm⟩ dt (pl3 _ (List.mem_of_getElem? (bodAt_get (by omega)))) (SqT.of e7) (Kw.Same.tup s47 g24) (Kw.Same.tup s47 a2) (SqT.of (s7 _ _ e6))
      obtain ⟨m', hm', em'⟩ := lefts_below hk jl hj
      exact below m' j hm' em'
    · refine ⟨_, rfl, rfl, fun j k' hj hk' => ?_⟩
      by_cases e : j = i
      · subst e
        cases hk.symm.trans hk'
        exact c
      · exact below j k' (by omega) hk'
  rintro σ1 H' ⟨u6, rfl, rfl, below⟩
  have ncr : ¬ crwQ gs := fun z => by
    obtain ⟨k, hk, hk1⟩ := (crw_two ord).mp z
    obtain ⟨m, hm, em⟩ := List.mem_iff_getElem.mp hk
    exact below m k (by rw [len]; exact hm) (by rw [List.getElem?_eq_getElem hm, em]) hk1
  have few := lefts_few l12
  have mq : metsQ gs = (leftsQ gs).map fun i => (t, plcQ (bodAt gs i) t, i) := by
    unfold metsQ
    rw [ct]
  refine ⟨_, rfl, r4, rfl, ⟨_, SqL.of e4⟩, lc_list (K := K) (xs := numsV (leftsQ gs)) (fun i zs H'' => i ≤ (leftsQ gs).length ∧ Same H' H'' ∧ Al2 (MtX K H'') zs ((metsQ gs).take i)) ⟨Nat.zero_le _, Same.refl _, trivial⟩ (by rw [len]; exact Nat.le_trans few (by decide)) (fun i zs H1 z => by obtain ⟨l, _, e⟩ := z; have := Al2.len e; rw [mq, List.length_take, List.length_map] at this; omega) (fun i zs H'' z => by obtain ⟨_, g, _⟩ := z; exact SqL.of (g _ _ e4)) ?_ ?_⟩
  · rintro i x zs H5 Q5 hx ⟨hl, s5, hy⟩ kq
    obtain ⟨k, hk, rfl⟩ := nget hx
    have klt := (lefts_lt (List.mem_of_getElem? hk)).1
    have hi : i < (leftsQ gs).length := (List.getElem?_eq_some_iff.mp hk).1
    obtain ⟨x, hx⟩ : ∃ x, ys3[k]? = some x := ⟨_, List.getElem?_eq_getElem (by omega)⟩
    obtain ⟨a, ha, pa, aa, ac, rfl, a1, a2, _⟩ := Al2.get (bds_same al4 s5) hx
    have ea : a.1 = plcQ (bodAt gs k) t := by rw [← bodAt_of ha, bod_sft gs (by omega)]; rfl
    rw [ea] at a2
    refine ⟨_, rfl, _, rfl, _, rfl, r3, _, _, _, rfl, rfl, SqL.of (s5 _ _ e34), atI_nat hx, pa, _, _, _, rfl, rfl, a1, rfl, _, rfl, by show 3 ≤ sizeLine; decide, ?_⟩
    intro p6 n6
    obtain ⟨H6, q6, s6, e6⟩ := newO n6 (.tup [.ref r2, .ref aa, .int (k : Int)])
    rw [q6]
    clear q6
    refine kq _ _ ⟨hi, s5.trans s6, ?_⟩
    have nx : (metsQ gs)[i]? = some (t, plcQ (bodAt gs k) t, k) := by
      rw [mq, List.getElem?_map, hk]
      rfl
    rw [take_snoc nx]
    exact Al2.snoc (mtx_same hy s6) ⟨p6, r2, aa, rfl, SqT.of e6, Kw.Same.tup (s5.trans s6) g24, Kw.Same.tup s6 a2, dt.mono (by decide), (pl3 _ (List.mem_of_getElem? (bodAt_get (by omega)))).mono (by decide)⟩
  rintro zs H5 ⟨_, s5, hy⟩ r5 hr5
  have en : (metsQ gs).take (numsV (leftsQ gs)).length = metsQ gs := List.take_of_length_le (by rw [mq, List.length_map, len]; exact Nat.le_refl _)
  rw [en] at hy
  obtain ⟨H6, q6, s6, e6⟩ := newO hr5 (.lst zs)
  rw [q6]
  clear q6
  have s46 := s5.trans s6
  have e36 := s46 _ _ e34
  have e46 := s46 _ _ e4
  have nt6 : NoT [r3] H6 := NoT.lst e36 NoT.nil
  have r43 : r4 ≠ r3 := fun z => by rw [z, e3] at hr4; cases hr4
  have r53 : r5 ≠ r3 := fun z => by rw [z, s5 _ _ e34] at hr5; cases hr5
  refine ⟨_, rfl, r4, rfl, ⟨_, SqL.of e46⟩, for_list (K := K) (a := r4) (xs := numsV (leftsQ gs)) (fun i σ1 H'' => ∃ (u6 : Option V) (ys : List V), σ1 = [some (.ref pn), some (.ref p), some (.ref pd), some (.ref r2), some (.ref r3), some (.ref r4), u6, none, some (.ref r5)] ∧ But r3 H6 H'' ∧ H'' r3 = some (.lst ys) ∧ Al2 (BdQ K H'' 5425) ys (((leftsQ gs).take i).foldl partQ (gs.map (sftB t)))) ⟨_, ys3, rfl, But.refl _, e36, bds_same al4 s46⟩ (by rintro _ _ _ _ ⟨_, _, _, g, _⟩; exact SqL.of (g _ _ r43 e46)) ?_ ?_⟩
  · rintro i x σ1 H7 hx ⟨u6, ys, rfl, s7, e7, al7⟩
    obtain ⟨k, hk, rfl⟩ := nget hx
    have kl := List.mem_of_getElem? hk
    have klt := (lefts_lt kl).1
    obtain ⟨b0, b1⟩ := fold_take ncr (t := t) hk
    have lf : (((leftsQ gs).take i).foldl partQ (gs.map (sftB t))).length = gs.length := by rw [fold_len, List.length_map]
    refine ⟨_, rfl, _, rfl, r3, ys, _, k, rfl, e7, al7, by omega, ?_, ?_, ?_, fun H8 ys8 s8 e8 al8 => ?_⟩
    · rw [b0, b1]
      exact lefts_same ord ct kl
    · rw [b0]
      exact (c1.fb _ (List.mem_of_getElem? (bodAt_get (by omega)))).2
    · rw [b1]
      exact (c1.fb _ (List.mem_of_getElem? (bodAt_get klt))).2
    · refine ⟨_, ys8, rfl, s7.trans s8, e8, ?_⟩
      rw [take_snoc hk, List.foldl_append]
      exact al8
  · rintro σ1 H7 ⟨u6, ys, rfl, s7, e7, al7⟩
    rw [len, List.take_length, foldp_sft _ (fun i hi => (lefts_lt hi).1)] at al7
    have bs7 : Buts [r3] H6 H7 := Buts.one s7 (List.mem_singleton.mpr rfl)
    refine ⟨_, rfl, _, rfl, _, rfl, by show 4 ≤ sizeLine; decide, ?_⟩
    intro p8 n8
    obtain ⟨H8, q8, s8, e8⟩ := newO n8 (.tup [.str "met", .ref r2, .ref r3, .ref r5])
    rw [q8]
    clear q8
    have s37 : Same H H7 := Buts.fresh (s04.trans s46) bs7 (fun a ha => by rw [List.mem_singleton.mp ha]; exact n03)
    exact km t ct ncr p8 r2 r3 r5 ys zs H8 (s37.trans s8) (SqT.of e8) (Kw.Same.tup s8 (bs7.tup nt6 (Kw.Same.tup s46 g24))) dt n03 (none_of_sm (s04.trans s5) hr5) (Ne.symm r53) (s8 _ _ e7) (bds_same al7 s8) (s8 _ _ (s7 _ _ r53 e6)) (mtx_same (mtx_buts (mtx_same hy s6) bs7 nt6) s8)
noncomputable def sp_law_run (K : PySem.W.Frag) : Sp := fun vs H Q _ => ∃ (p pt : Addr) (xs : List V) (gs : List Bod) (t : Rat), vs = [.ref p, .ref pt] ∧ H p = some (.lst xs) ∧ Al2 (BdQ K H 2646) xs gs ∧ 1 ≤ gs.length ∧ gs.length ≤ 12 ∧ OrdT gs 0 ∧ PrC gs 0 0 ∧ FQ K H pt t ∧ FB 1900 t ∧ ∀ (r : Addr) (zs : List V) (H1 : Hp), Same H H1 → H r = none → H1 r = some (.lst zs) → zs.length ≤ 480 → (∀ m ms cr es last, RunT t gs 0 m ms cr es last → m ≤ 8 → Al2 (MtX K H1) zs ms) → Q (.ref r) H1
theorem sc_law_run : FnScope ["world", "moment", "now", "bodies", "found", "turn", "step"] ["world", "moment"] (defScope (top 57)) := ⟨rfl, rfl, rfl, by decide +kernel, rfl, by decide +kernel, by decide +kernel⟩
theorem ok_law_run (D : Df K mg "_law_run" (top 57) ["world", "moment"]) (T : Tx K mg C) (F_law_step : Fn P w K mg base 4 "_law_step" ["now", "bodies"] (sp_law_step K)) (F_law_less : Fn P w K mg base 1 "_law_less" ["one", "other"] (sp_law_less K)) : Fn P w K mg base 5 "_law_run" ["world", "moment"] (sp_law_run K) := by
  refine D.ok0 sc_law_run (fun vs H Q E h => ?_) (fun f cdv A outer s H vs Q E hr h => ?_)
  · obtain ⟨p, pt, xs, gs, t, rfl, _⟩ := h
    rfl
  obtain ⟨p, pt, xs, gs, t, rfl, hp, al, l1, l12, ord, pc0, gt0, dt0, k⟩ := h
  refine ⟨_, (pss_cons (ps_par3 (i := 2) (j := 3) (k := 4) rfl sc_law_run.nd rfl rfl rfl (by decide) (by decide) (by decide) rfl rfl rfl (pa_cons (pe_tup (pa_cons pe_int (pa_cons pe_int pa_nil))) (pa_cons (pv 0) (pa_cons (pe_lst pa_nil) pa_nil))) rfl)
      (pss_cons (ps_for PassesOwn.never rfl (pi_range1 (by rfl) T.b_range (pa_cons pe_int pa_nil)) (pg_name (i := 5) sc_law_run.nd rfl (Or.inl rfl)) (pss_cons (ps_set (i := 6) sc_law_run.nd rfl (Or.inl rfl) (pe_fn F_law_step (by decide) hr (by rfl) passE0 (pa_cons (pv 2) (pa_cons (pv 3) pa_nil))))
      (pss_cons (ps_if (pw_or (pt_cmpR op_ne (pe_ix ix_tup (pv 6) pe_int (fun _ _ => rfl)) pe_str (nomark _)) (pw_or1 (pt_val (pe_fn F_law_less (by decide) hr (by rfl) passE0 (pa_cons (pv 1) (pa_cons (pe_ix ix_tup (pv 6) pe_int (fun _ _ => rfl)) pa_nil))) (fun _ => rfl)))).pt (pss_one (ps_ret (pv 4))) pss_nil)
      (pss_cons (ps_set (i := 4) sc_law_run.nd rfl (Or.inl rfl) (pe_op op_cat (pv 4) (pe_ix ix_tup (pv 6) pe_int (fun _ _ => rfl))))
      (pss_one (ps_par (i := 2) (j := 3) rfl sc_law_run.nd rfl rfl (by decide) rfl rfl (pa_cons (pe_ix ix_tup (pv 6) pe_int (fun _ _ => rfl)) (pa_cons (pe_ix ix_tup (pv 6) pe_int (fun _ _ => rfl)) pa_nil)) rfl))))))
      (pss_one (ps_ret (pv 4))))), ?_⟩
  refine ⟨by show 2 ≤ sizeLine; decide, ?_⟩
  intro p1 n1
  obtain ⟨H1, q1, s1, e1⟩ := newO n1 (.tup [.int 0, .int 1])
  rw [q1]
  clear q1
  refine ⟨_, rfl, by show 0 ≤ sizeLine; decide, ?_⟩
  intro p2 n2
  obtain ⟨H2, q2, s2, e2⟩ := newO n2 (.lst [])
  rw [q2]
  clear q2
  refine ⟨_, _, _, rfl, ?_⟩
  have s02 := s1.trans s2
  have g1 : FQ K H2 p1 0 := FQ.cast (FQ.ofInt (SqT.of (s2 _ _ e1))) rfl
  have d1 : FB 2647 (0 : Rat) := (FB.ofInt (n := 64) (Bd.small (i := 0) (by decide) (by decide)) (by decide)).mono (by decide)
  have al1 : Al2 (BdQ K H2 5425) xs (gs.map (sftB 0)) := by
    rw [sft_zero]
    exact bds_mono (bds_same al s02) (by decide)
  refine ⟨_, rfl, by omega, by omega, for_range (n := 40) (fun i σ1 H' => ∃ (pn pb pf : Addr) (u4 u5 : Option V) (ys zs : List V) (gk : List Bod) (now : Rat) (ms1 : List (Rat × Rat × Nat)) (cc : Nat), σ1 = [some (.ref p), some (.ref pt), some (.ref pn), some (.ref pb), some (.ref pf), u4, u5] ∧ Same H H' ∧ FQ K H' pn now ∧ FB 2647 now ∧ H' pb = some (.lst ys) ∧ Al2 (BdQ K H' 5425) ys (gk.map (sftB now)) ∧ gk.length = gs.length ∧ OrdT gk now ∧ PrC gk i cc ∧ H' pf = some (.lst zs) ∧ H pf = none ∧ Al2 (MtX K H') zs ms1 ∧ ms1.length ≤ 12 * i ∧ ∀ m ms cr es last, RunT t gs 0 m ms cr es last → ∃ d ms', m = i + d ∧ ms = ms1 ++ ms' ∧ RunT t gk now d ms' cr es last) ⟨p1, p, p2, _, _, xs, [], gs, 0, [], 0, rfl, s02, g1, d1, s02 _ _ hp, al1, rfl, ord, pc0, e2, none_of_sm s1 n2, trivial, Nat.zero_le _, fun m ms cr es last r => ⟨m, ms, (Nat.zero_add m).symm, rfl, r⟩⟩ ?_ ?_⟩
  · rintro i σ1 H4 hi ⟨pn, pb, pf, u4, u5, ys, zs, gk, now, ms1, cc, rfl, s4, gn, dn, hb, alb, ln, ok, pc, hf, nf, alz, lm, em⟩
    have lz := Al2.len alz
    have stop : ∀ (H5 : Hp), Same H4 H5 → (¬ UpQ gk t ∨ crwQ gk) → Q (.ref pf) H5 := fun H5 s5 e => by
      refine k pf zs H5 (s4.trans s5) nf (s5 _ _ hf) (by omega) fun m ms cr es last r _ => ?_
      obtain ⟨d, ms', _, rfl, r'⟩ := em m ms cr es last r
      cases r' with
      | stop => rw [List.append_nil]; exact mtx_same alz s5
      | crowd => rw [List.append_nil]; exact mtx_same alz s5
      | step h' l' k' =>
        rcases e with e | e
        · exact absurd ⟨_, h', l'⟩ e
        · exact absurd e k'
    refine ⟨_, rfl, _, rfl, pn, pb, ys, gk, now, rfl, gn, dn, hb, alb, by omega, by omega, ok, pc.com (by omega), fun ct r e H5 s5 _ hr5 he => ?_, fun c ct cc r pq pl tn q ns H5 s5 cd dc _ hr5 gc gq ht => ?_, fun c ct nc r pq th pm' ys' zs' H5 s5 hr5 gc dc nth npm ne hth alth hpm alpm => ?_⟩
    · refine ⟨_, rfl, r, _, _, _, rfl, rfl, hr5, rfl, rfl, _, rfl, iteT ?_⟩
      refine iteT ?_
      exact ⟨_, rfl, stop H5 s5 (.inl fun ⟨c', hc', _⟩ => by rw [ct] at hc'; cases hc')⟩
    · refine ⟨_, rfl, r, _, _, _, rfl, rfl, hr5, rfl, rfl, _, rfl, iteT ?_⟩
      refine iteT ?_
      exact ⟨_, rfl, stop H5 s5 (.inr cc)⟩
    · refine ⟨_, rfl, r, _, _, _, rfl, rfl, hr5, rfl, rfl, _, rfl, iteF ?_⟩
      refine ⟨_, rfl, _, rfl, r, _, _, _, rfl, rfl, hr5, rfl, pt, _, pq, _, rfl, Kw.Same.tup (s4.trans s5) gt0, dt0.mono (by decide), gc, dc.mono (by decide), fun H6 s6 => ⟨_, rfl, ?_⟩⟩
      have hr6 := Kw.Same.tup s6 hr5
      refine if_dec (fun lt => ?_) (fun lt => ?_)
      · exact ⟨_, rfl, stop H6 (s5.trans s6) (.inl fun ⟨c', hc', l'⟩ => by rw [ct] at hc'; cases hc'; grind)⟩
      · have lz' := Al2.len alpm
        have lm' : (metsQ gk).length ≤ 12 := by
          have few := lefts_few (gs := gk) (by omega)
          unfold metsQ
          split
          · exact Nat.zero_le _
          · rw [List.length_map]
            exact few
        have s46 := s5.trans s6
        refine ⟨_, rfl, _, rfl, r, _, _, _, rfl, rfl, hr6, rfl, pf, pm', zs, zs', rfl, rfl, s46 _ _ hf, s6 _ _ hpm, Nat.le_trans (show zs.length + zs'.length ≤ 12 * 41 by omega) (by decide), ?_⟩
        intro p7 n7
        obtain ⟨H7, q7, s7, e7⟩ := newO n7 (.lst (zs ++ zs'))
        rw [q7]
        clear q7
        have hr7 := Kw.Same.tup s7 hr6
        have s67 := s6.trans s7
        refine ⟨_, rfl, r, _, _, _, rfl, rfl, hr7, rfl, _, rfl, r, _, _, _, rfl, rfl, hr7, rfl, _, _, rfl, ?_⟩
        refine ⟨pq, th, p7, _, _, ys', zs ++ zs', onQ gk, c, ms1 ++ metsQ gk, cc + (leftsQ gk).length, rfl, s4.trans (s5.trans s67), Kw.Same.tup s67 gc, dc, s67 _ _ hth, bds_same alth s67, by rw [on_len]; exact ln, ord_on ok ct nc pc.2.1.w, pc.on ok ct nc (by omega), e7, none_of_sm (s4.trans s46) n7, al_app (mtx_same alz (s5.trans s67)) (mtx_same alpm s67), by rw [List.length_append]; omega, fun m ms cr es last r => ?_⟩
        obtain ⟨d, ms', e1, e2, r'⟩ := em m ms cr es last r
        cases r' with
        | stop h' => exact absurd ⟨c, ct, by grind⟩ h'
        | crowd h' l' k' => exact absurd k' nc
        | step h' l' k' rk' =>
          rw [ct] at h'
          cases h'
          exact ⟨_, _, by omega, by rw [e2, List.append_assoc], rk'⟩
  · rintro σ1 H4 ⟨pn, pb, pf, u4, u5, ys, zs, gk, now, ms1, cc, rfl, s4, gn, dn, hb, alb, ln, ok, pc, hf, nf, alz, lm, em⟩
    have lz := Al2.len alz
    exact ⟨_, rfl, k pf zs H4 s4 nf hf (by omega) fun m ms cr es last r l8 => by obtain ⟨d, _, e, _⟩ := em m ms cr es last r; omega⟩
noncomputable def sp_law_is_long (K : PySem.W.Frag) : Sp := fun vs H Q _ => ∃ (p pt : Addr) (xs : List V) (gs : List Bod) (t : Rat), vs = [.ref p, .ref pt] ∧ H p = some (.lst xs) ∧ Al2 (BdQ K H 2646) xs gs ∧ 1 ≤ gs.length ∧ gs.length ≤ 12 ∧ OrdT gs 0 ∧ PrC gs 0 0 ∧ FQ K H pt t ∧ FB 1900 t ∧ ∀ (b : Bool) (H1 : Hp), Same H H1 → (b = true ↔ LongQ t 8 gs) → Q (.bl b) H1
theorem sc_law_is_long : FnScope ["world", "moment", "now", "bodies", "turn", "step"] ["world", "moment"] (defScope (top 64)) := ⟨rfl, rfl, rfl, by decide +kernel, rfl, by decide +kernel, by decide +kernel⟩
theorem ok_law_is_long (D : Df K mg "_law_is_long" (top 64) ["world", "moment"]) (T : Tx K mg C) (F_law_step : Fn P w K mg base 4 "_law_step" ["now", "bodies"] (sp_law_step K)) (F_law_less : Fn P w K mg base 1 "_law_less" ["one", "other"] (sp_law_less K)) : Fn P w K mg base 5 "_law_is_long" ["world", "moment"] (sp_law_is_long K) := by
  refine D.ok0 sc_law_is_long (fun vs H Q E h => ?_) (fun f cdv A outer s H vs Q E hr h => ?_)
  · obtain ⟨p, pt, xs, gs, t, rfl, _⟩ := h
    rfl
  obtain ⟨p, pt, xs, gs, t, rfl, hp, al, l1, l12, ord, pc0, gt0, dt0, k⟩ := h
  refine ⟨_, (pss_cons (ps_par (i := 2) (j := 3) rfl sc_law_is_long.nd rfl rfl (by decide) rfl rfl (pa_cons (pe_tup (pa_cons pe_int (pa_cons pe_int pa_nil))) (pa_cons (pv 0) pa_nil)) rfl)
      (pss_cons (ps_for PassesOwn.never rfl (pi_range1 (by rfl) T.b_range (pa_cons pe_int pa_nil)) (pg_name (i := 4) sc_law_is_long.nd rfl (Or.inl rfl)) (pss_cons (ps_set (i := 5) sc_law_is_long.nd rfl (Or.inl rfl) (pe_fn F_law_step (by decide) hr (by rfl) passE0 (pa_cons (pv 2) (pa_cons (pv 3) pa_nil))))
      (pss_cons (ps_if (pw_or (pt_cmpR op_ne (pe_ix ix_tup (pv 5) pe_int (fun _ _ => rfl)) pe_str (nomark _)) (pw_or1 (pt_val (pe_fn F_law_less (by decide) hr (by rfl) passE0 (pa_cons (pv 1) (pa_cons (pe_ix ix_tup (pv 5) pe_int (fun _ _ => rfl)) pa_nil))) (fun _ => rfl)))).pt (pss_one (ps_ret pe_bl)) pss_nil)
      (pss_one (ps_par (i := 2) (j := 3) rfl sc_law_is_long.nd rfl rfl (by decide) rfl rfl (pa_cons (pe_ix ix_tup (pv 5) pe_int (fun _ _ => rfl)) (pa_cons (pe_ix ix_tup (pv 5) pe_int (fun _ _ => rfl)) pa_nil)) rfl)))))
      (pss_cons (ps_set (i := 5) sc_law_is_long.nd rfl (Or.inl rfl) (pe_fn F_law_step (by decide) hr (by rfl) passE0 (pa_cons (pv 2) (pa_cons (pv 3) pa_nil))))
      (pss_one (ps_ret (pe_and (pe_cmpR op_ne (pe_ix ix_tup (pv 5) pe_int (fun _ _ => rfl)) pe_str (nomark _)) (pe_one (pe_not (pe_fn F_law_less (by decide) hr (by rfl) passE0 (pa_cons (pv 1) (pa_cons (pe_ix ix_tup (pv 5) pe_int (fun _ _ => rfl)) pa_nil))))))))))), ?_⟩
  refine ⟨by show 2 ≤ sizeLine; decide, ?_⟩
  intro p1 n1
  obtain ⟨H1, q1, s1, e1⟩ := newO n1 (.tup [.int 0, .int 1])
  rw [q1]
  clear q1
  refine ⟨_, rfl, _, _, rfl, ?_⟩
  have g1 : FQ K H1 p1 0 := FQ.cast (FQ.ofInt (SqT.of e1)) rfl
  have d1 : FB 2647 (0 : Rat) := (FB.ofInt (n := 64) (Bd.small (i := 0) (by decide) (by decide)) (by decide)).mono (by decide)
  have al1 : Al2 (BdQ K H1 5425) xs (gs.map (sftB 0)) := by
    rw [sft_zero]
    exact bds_mono (bds_same al s1) (by decide)
  refine ⟨_, rfl, by omega, by omega, for_range (n := 8) (fun i σ1 H' => ∃ (pn pb : Addr) (u4 u5 : Option V) (ys : List V) (gk : List Bod) (now : Rat) (cc : Nat), σ1 = [some (.ref p), some (.ref pt), some (.ref pn), some (.ref pb), u4, u5] ∧ Same H H' ∧ FQ K H' pn now ∧ FB 2647 now ∧ H' pb = some (.lst ys) ∧ Al2 (BdQ K H' 5425) ys (gk.map (sftB now)) ∧ gk.length = gs.length ∧ OrdT gk now ∧ PrC gk i cc ∧ (LongQ t 8 gs ↔ LongQ t (8 - i) gk)) ⟨p1, p, _, _, xs, gs, 0, 0, rfl, s1, g1, d1, s1 _ _ hp, al1, rfl, ord, pc0, Iff.rfl⟩ ?_ ?_⟩
  · rintro i σ1 H4 hi ⟨pn, pb, u4, u5, ys, gk, now, cc, rfl, s4, gn, dn, hb, alb, ln, ok, pc, em⟩
    obtain ⟨dd, hdd⟩ : ∃ dd, 8 - i = dd + 1 := ⟨8 - i - 1, by omega⟩
    rw [hdd] at em
    have stop : ∀ (H5 : Hp), Same H4 H5 → (¬ UpQ gk t ∨ crwQ gk) → Q (.bl false) H5 := fun H5 s5 e => k false H5 (s4.trans s5) ⟨fun z => (nomatch z), fun z => by
      have y := em.mp z
      rcases e with e | e
      · exact absurd y.1 e
      · exact absurd e y.2.1⟩
    refine ⟨_, rfl, _, rfl, pn, pb, ys, gk, now, rfl, gn, dn, hb, alb, by omega, by omega, ok, pc.com (by omega), fun ct r e H5 s5 _ hr5 he => ?_, fun c ct cc r pq pl tn q ns H5 s5 cd dc _ hr5 gc gq ht => ?_, fun c ct nc r pq th pm' ys' zs' H5 s5 hr5 gc dc nth npm ne hth alth hpm alpm => ?_⟩
    · refine ⟨_, rfl, r, _, _, _, rfl, rfl, hr5, rfl, rfl, _, rfl, iteT ?_⟩
      refine iteT ?_
      exact stop H5 s5 (.inl fun ⟨c', hc', _⟩ => by rw [ct] at hc'; cases hc')
    · refine ⟨_, rfl, r, _, _, _, rfl, rfl, hr5, rfl, rfl, _, rfl, iteT ?_⟩
      refine iteT ?_
      exact stop H5 s5 (.inr cc)
    · refine ⟨_, rfl, r, _, _, _, rfl, rfl, hr5, rfl, rfl, _, rfl, iteF ?_⟩
      refine ⟨_, rfl, _, rfl, r, _, _, _, rfl, rfl, hr5, rfl, pt, _, pq, _, rfl, Kw.Same.tup (s4.trans s5) gt0, dt0.mono (by decide), gc, dc.mono (by decide), fun H6 s6 => ⟨_, rfl, ?_⟩⟩
      have hr6 := Kw.Same.tup s6 hr5
      refine if_dec (fun lt => ?_) (fun lt => ?_)
      · exact stop H6 (s5.trans s6) (.inl fun ⟨c', hc', l'⟩ => by rw [ct] at hc'; cases hc'; grind)
      · refine ⟨_, rfl, r, _, _, _, rfl, rfl, hr6, rfl, _, rfl, r, _, _, _, rfl, rfl, hr6, rfl, _, _, rfl, ?_⟩
        refine ⟨pq, th, _, _, ys', onQ gk, c, cc + (leftsQ gk).length, rfl, s4.trans (s5.trans s6), Kw.Same.tup s6 gc, dc, s6 _ _ hth, bds_same alth s6, by rw [on_len]; exact ln, ord_on ok ct nc pc.2.1.w, pc.on ok ct nc (by omega), em.trans ?_⟩
        rw [show 8 - (i + 1) = dd by omega]
        exact ⟨fun z => z.2.2, fun z => ⟨⟨c, ct, by grind⟩, nc, z⟩⟩
  · rintro σ1 H4 ⟨pn, pb, u4, u5, ys, gk, now, cc', rfl, s4, gn, dn, hb, alb, ln, ok, pc, em⟩
    refine ⟨_, rfl, _, rfl, pn, pb, ys, gk, now, rfl, gn, dn, hb, alb, by omega, by omega, ok, pc.com (by omega), fun ct r e H5 s5 _ hr5 he => ?_, fun c ct cc r pq pl tn q ns H5 s5 cd dc _ hr5 gc gq ht => ?_, fun c ct nc r pq th pm' ys' zs' H5 s5 hr5 gc dc nth npm ne hth alth hpm alpm => ?_⟩
    · refine ⟨_, rfl, r, _, _, _, rfl, rfl, hr5, rfl, rfl, _, rfl, iteF ?_⟩
      exact k false H5 (s4.trans s5) ⟨fun z => (nomatch z), fun z => by
        obtain ⟨c', hc', _⟩ := em.mp z
        rw [ct] at hc'
        cases hc'⟩
    · refine ⟨_, rfl, r, _, _, _, rfl, rfl, hr5, rfl, rfl, _, rfl, iteT ?_⟩
      refine ⟨_, rfl, _, rfl, r, _, _, _, rfl, rfl, hr5, rfl, pt, _, pq, _, rfl, Kw.Same.tup (s4.trans s5) gt0, dt0.mono (by decide), gc, dc.mono (by decide), fun H6 s6 => ?_⟩
      exact ⟨_, rfl, k _ H6 (s4.trans (s5.trans s6)) ((long_end ct (t := t)).trans em.symm)⟩
    · refine ⟨_, rfl, r, _, _, _, rfl, rfl, hr5, rfl, rfl, _, rfl, iteT ?_⟩
      refine ⟨_, rfl, _, rfl, r, _, _, _, rfl, rfl, hr5, rfl, pt, _, pq, _, rfl, Kw.Same.tup (s4.trans s5) gt0, dt0.mono (by decide), gc, dc.mono (by decide), fun H6 s6 => ?_⟩
      exact ⟨_, rfl, k _ H6 (s4.trans (s5.trans s6)) ((long_end ct (t := t)).trans em.symm)⟩
noncomputable def sp_law_crowd_moment (K : PySem.W.Frag) : Sp := fun vs H Q _ => ∃ (p : Addr) (xs : List V) (gs : List Bod), vs = [.ref p] ∧ H p = some (.lst xs) ∧ Al2 (BdQ K H 2646) xs gs ∧ 1 ≤ gs.length ∧ gs.length ≤ 12 ∧ OrdT gs 0 ∧ PrC gs 0 0 ∧ ∀ (pt : Addr) (t : Rat) (H1 : Hp), Same H H1 → FQ K H1 pt t → FB 700 t → 0 ≤ t → Q (.ref pt) H1
theorem sc_law_crowd_moment : FnScope ["world", "now", "bodies", "turn", "step"] ["world"] (defScope (top 63)) := ⟨rfl, rfl, rfl, by decide +kernel, rfl, by decide +kernel, by decide +kernel⟩
theorem ok_law_crowd_moment (D : Df K mg "_law_crowd_moment" (top 63) ["world"]) (T : Tx K mg C) (F_law_step : Fn P w K mg base 4 "_law_step" ["now", "bodies"] (sp_law_step K)) : Fn P w K mg base 5 "_law_crowd_moment" ["world"] (sp_law_crowd_moment K) := by
  refine D.ok0 sc_law_crowd_moment (fun vs H Q E h => ?_) (fun f cdv A outer s H vs Q E hr h => ?_)
  · obtain ⟨p, xs, gs, rfl, _⟩ := h
    rfl
  obtain ⟨p, xs, gs, rfl, hp, al, l1, l12, ord, pc0, k⟩ := h
  refine ⟨_, (pss_cons (ps_par (i := 1) (j := 2) rfl sc_law_crowd_moment.nd rfl rfl (by decide) rfl rfl (pa_cons (pe_tup (pa_cons pe_int (pa_cons pe_int pa_nil))) (pa_cons (pv 0) pa_nil)) rfl)
      (pss_cons (ps_for PassesOwn.never rfl (pi_range1 (by rfl) T.b_range (pa_cons pe_int pa_nil)) (pg_name (i := 3) sc_law_crowd_moment.nd rfl (Or.inl rfl)) (pss_cons (ps_set (i := 4) sc_law_crowd_moment.nd rfl (Or.inl rfl) (pe_fn F_law_step (by decide) hr (by rfl) passE0 (pa_cons (pv 1) (pa_cons (pv 2) pa_nil))))
      (pss_cons (ps_if (pt_cmpR op_ne (pe_ix ix_tup (pv 4) pe_int (fun _ _ => rfl)) pe_str (nomark _)) (pss_one (ps_ret (pe_ix ix_tup (pv 4) pe_int (fun _ _ => rfl)))) pss_nil)
      (pss_one (ps_par (i := 1) (j := 2) rfl sc_law_crowd_moment.nd rfl rfl (by decide) rfl rfl (pa_cons (pe_ix ix_tup (pv 4) pe_int (fun _ _ => rfl)) (pa_cons (pe_ix ix_tup (pv 4) pe_int (fun _ _ => rfl)) pa_nil)) rfl)))))
      (pss_one (ps_ret (pv 1))))), ?_⟩
  refine ⟨by show 2 ≤ sizeLine; decide, ?_⟩
  intro p1 n1
  obtain ⟨H1, q1, s1, e1⟩ := newO n1 (.tup [.int 0, .int 1])
  rw [q1]
  clear q1
  refine ⟨_, rfl, _, _, rfl, ?_⟩
  have g1 : FQ K H1 p1 0 := FQ.cast (FQ.ofInt (SqT.of e1)) rfl
  have d0 : FB 700 (0 : Rat) := (FB.ofInt (n := 64) (Bd.small (i := 0) (by decide) (by decide)) (by decide)).mono (by decide)
  have d1 : FB 2647 (0 : Rat) := (FB.ofInt (n := 64) (Bd.small (i := 0) (by decide) (by decide)) (by decide)).mono (by decide)
  have al1 : Al2 (BdQ K H1 5425) xs (gs.map (sftB 0)) := by
    rw [sft_zero]
    exact bds_mono (bds_same al s1) (by decide)
  refine ⟨_, rfl, by omega, by omega, for_range (n := 6) (fun i σ1 H' => ∃ (pn pb : Addr) (u4 u5 : Option V) (ys : List V) (gk : List Bod) (now : Rat) (cc : Nat), σ1 = [some (.ref p), some (.ref pn), some (.ref pb), u4, u5] ∧ Same H H' ∧ FQ K H' pn now ∧ FB 2647 now ∧ H' pb = some (.lst ys) ∧ Al2 (BdQ K H' 5425) ys (gk.map (sftB now)) ∧ gk.length = gs.length ∧ OrdT gk now ∧ PrC gk i cc ∧ FB 700 now ∧ 0 ≤ now) ⟨p1, p, _, _, xs, gs, 0, 0, rfl, s1, g1, d1, s1 _ _ hp, al1, rfl, ord, pc0, d0, Rat.le_refl⟩ ?_ ?_⟩
  · rintro i σ1 H4 hi ⟨pn, pb, u4, u5, ys, gk, now, cc, rfl, s4, gn, dn, hb, alb, ln, ok, pc, d7, n0⟩
    have up : ∀ c, cmng gk = some c → FB 700 c ∧ 0 ≤ c := fun c ct => ⟨(cmng_fb pc.1 ct).mono (by have := pc.2.2.1; omega), by have := (ord_till ok ct).1; grind⟩
    refine ⟨_, rfl, _, rfl, pn, pb, ys, gk, now, rfl, gn, dn, hb, alb, by omega, by omega, ok, pc.com (by omega), fun ct r e H5 s5 _ hr5 he => ?_, fun c ct cc r pq pl tn q ns H5 s5 cd dc _ hr5 gc gq ht => ?_, fun c ct nc r pq th pm' ys' zs' H5 s5 hr5 gc dc nth npm ne hth alth hpm alpm => ?_⟩
    · refine ⟨_, rfl, r, _, _, _, rfl, rfl, hr5, rfl, rfl, _, rfl, iteT ?_⟩
      exact ⟨_, rfl, r, _, _, _, rfl, rfl, hr5, rfl, k pn now H5 (s4.trans s5) (Kw.Same.tup s5 gn) d7 n0⟩
    · refine ⟨_, rfl, r, _, _, _, rfl, rfl, hr5, rfl, rfl, _, rfl, iteT ?_⟩
      exact ⟨_, rfl, r, _, _, _, rfl, rfl, hr5, rfl, k pq c H5 (s4.trans s5) gc (up c ct).1 (up c ct).2⟩
    · refine ⟨_, rfl, r, _, _, _, rfl, rfl, hr5, rfl, rfl, _, rfl, iteF ?_⟩
      refine ⟨_, rfl, r, _, _, _, rfl, rfl, hr5, rfl, _, rfl, r, _, _, _, rfl, rfl, hr5, rfl, _, _, rfl, ?_⟩
      exact ⟨pq, th, _, _, ys', onQ gk, c, cc + (leftsQ gk).length, rfl, s4.trans s5, gc, dc, hth, alth, by rw [on_len]; exact ln, ord_on ok ct nc pc.2.1.w, pc.on ok ct nc (by omega), (up c ct).1, (up c ct).2⟩
  · rintro σ1 H4 ⟨pn, pb, u4, u5, ys, gk, now, cc, rfl, s4, gn, dn, hb, alb, ln, ok, pc, d7, n0⟩
    exact ⟨_, rfl, k pn now H4 s4 gn d7 n0⟩
noncomputable def sp_law_crowded (K : PySem.W.Frag) : Sp := fun vs H Q _ => ∃ (b : Addr) (n : Int), vs = [.ref b] ∧ H b = some (.lst [.int n]) ∧ ∀ (f : Addr) (xs : List V) (bs : List Bod) (n1 : Int) (H1 : Hp), But b H H1 → H f = none → f ≠ b → H1 b = some (.lst [.int n1]) → H1 f = some (.lst xs) → Al2 (BdQ K H1 64) xs bs → 1 ≤ bs.length → bs.length ≤ 12 → Asc bs → Com 30 bs → LtW bs → Q (.ref f) H1
theorem sc_law_crowded : FnScope ["box", "world", "last"] ["box"] (defScope (top 62)) := ⟨rfl, rfl, rfl, by decide +kernel, rfl, by decide +kernel, by decide +kernel⟩
theorem ok_law_crowded (D : Df K mg "_law_crowded" (top 62) ["box"]) (T : Tx K mg C) (F_law_world : Fn P w K mg base 3 "_law_world" ["box"] (sp_law_world K)) (F_law_plus : Fn P w K mg base 2 "_law_plus" ["one", "other"] (sp_law_plus K)) (F_law_small : Fn P w K mg base 2 "_law_small" ["box"] (sp_law_small K)) (F_law_take : Fn P w K mg base 1 "_law_take" ["box", "many"] spTake) (F_law_led_together : Fn P w K mg base 3 "_law_led_together" ["box", "world"] (sp_law_led_together K)) : Fn P w K mg base 4 "_law_crowded" ["box"] (sp_law_crowded K) := by
  refine D.ok0 sc_law_crowded (fun vs H Q E h => ?_) (fun f cdv A outer s H vs Q E hr h => ?_)
  · obtain ⟨b, n, rfl, _⟩ := h
    rfl
  obtain ⟨b, n, rfl, hb, k⟩ := h
  refine ⟨_, (pss_cons (ps_set (i := 1) sc_law_crowded.nd rfl (Or.inl rfl) (pe_fn F_law_world (by decide) hr (by rfl) passE0 (pa_cons (pv 0) pa_nil)))
      (pss_cons (ps_while PassesOwn.never (pt_cmpR op_lt (pe_callB call_len (by rfl) T.b_len PyProof.Rows.Boot.«len» (pa_cons (pv 1) pa_nil)) pe_int (nomark _)) (pss_cons (ps_set (i := 2) sc_law_crowded.nd rfl (Or.inl rfl) (pe_ix ix_list (pv 1) (pe_un un_neg pe_int) (fun _ _ => rfl)))
      (pss_one (ps_set (i := 1) sc_law_crowded.nd rfl (Or.inl rfl) (pe_op op_cat (pv 1) (pe_lst (pa_cons (pe_tup (pa_cons (pe_fn F_law_plus (by decide) hr (by rfl) passE0 (pa_cons (pe_ix ix_tup (pv 2) pe_int (fun _ _ => rfl)) (pa_cons (pe_tup (pa_cons pe_int (pa_cons pe_int pa_nil))) pa_nil))) (pa_cons (pe_fn F_law_small (by decide) hr (by rfl) passE0 (pa_cons (pv 0) pa_nil)) (pa_cons (pe_op op_add pe_int (pe_fn F_law_take (by decide) hr (by rfl) passE0 (pa_cons (pv 0) (pa_cons pe_int pa_nil)))) pa_nil)))) pa_nil)))))))
      (pss_one (ps_ret (pe_fn F_law_led_together (by decide) hr (by rfl) passE0 (pa_cons (pv 0) (pa_cons (pv 1) pa_nil))))))), ?_⟩
  have sm9 : ∀ i : Int, -(2 ^ 64) < i → i < 2 ^ 64 → Bd 9000 i := fun i h1 h2 => (Bd.small h1 h2).mono (by decide)
  have com : ∀ bs : List Bod, (∀ a ∈ bs, Six 720 a.1) → (∀ a ∈ bs, Frn 72 100000 a.2.1) → Com 30 bs := fun bs six s72 => frn_com fun q hq => ⟨(((six q hq).frn).up).mono (by decide), ((s72 q hq).up).mono (by decide)⟩
  refine ⟨_, rfl, b, n, rfl, hb, fun f0 xs0 bs0 n2 H2 s2 nf nfb hb2 hf2 al2 l1 l12 asc hw six s72 => ?_⟩
  refine ⟨fun d σ' H' => ∃ (f : Addr) (u2 : Option V) (xs : List V) (bs : List Bod) (nb : Int), σ' = [some (.ref b), some (.ref f), u2] ∧ But b H H' ∧ H f = none ∧ f ≠ b ∧ H' b = some (.lst [.int nb]) ∧ H' f = some (.lst xs) ∧ Al2 (BdQ K H' 64) xs bs ∧ 1 ≤ bs.length ∧ bs.length ≤ 12 ∧ d = 3 - bs.length ∧ Asc bs ∧ (∀ a ∈ bs, a.2.2 ≤ 1000) ∧ (∀ a ∈ bs, Six (72 + 54 * (bs.length : Int)) a.1) ∧ (∀ a ∈ bs, Frn 72 100000 a.2.1), ⟨_, f0, _, xs0, bs0, n2, rfl, s2, nf, nfb, hb2, hf2, al2, l1, l12, rfl, asc, hw, six, s72⟩, ?_⟩
  rintro d σ' H3 ⟨f, u2, xs, bs, nb, rfl, s3, nf, nfb, hb3, hf3, al3, l1, l12, rfl, asc, hw, six, s72⟩
  have lx := Al2.len al3
  refine ⟨_, rfl, _, _, rfl, .inl ⟨_, SqL.of hf3, rfl⟩, _, _, rfl, rfl, _, rfl, ?_⟩
  refine if_dec (fun c => ?_) (fun c => ?_)
  · have c3 : bs.length < 3 := by omega
    refine ⟨_, fun _ _ n => n, ?_⟩
    obtain ⟨zl, hzl⟩ : ∃ zl, xs[xs.length - 1]? = some zl := ⟨_, List.getElem?_eq_getElem (by omega)⟩
    have lastz : atI xs (-1) = some zl := atI_neg (k := 1) (by decide) (by omega) hzl
    obtain ⟨a, ha, pa, aa, ac, rfl, a1, a2, a3, a4, a5, a6, a7⟩ := Al2.get al3 hzl
    have ma := List.mem_of_getElem? ha
    have sa := six a ma
    have pos : ∀ q ∈ bs, q.1 < a.1 + ((2 : Int) : Rat) := fun q hq => by
      have z : q.1 ≤ a.1 := by
        obtain ⟨i, hi, ei⟩ := List.mem_iff_getElem.mp hq
        obtain ⟨hl, el⟩ := List.getElem?_eq_some_iff.mp ha
        rcases Nat.lt_or_ge i (xs.length - 1) with z | z
        · have := List.pairwise_iff_getElem.mp asc i (xs.length - 1) hi hl z
          rw [ei, el] at this
          exact Rat.le_of_lt this
        · have e : i = xs.length - 1 := by omega
          subst e
          rw [← ei, ← el]
          exact Rat.le_refl
      have two : ((2 : Int) : Rat) = 2 := rfl
      rw [two]
      grind
    refine ⟨_, rfl, _, rfl, f, _, _, _, rfl, rfl, SqL.of hf3, lastz, ?_⟩
    refine ⟨_, rfl, _, rfl, pa, _, _, _, rfl, rfl, a1, rfl, by show 2 ≤ sizeLine; decide, ?_⟩
    intro p4 n4
    obtain ⟨H4, q4, s4, e4⟩ := newO n4 (.tup [.int 2, .int 1])
    rw [q4]
    clear q4
    have g4 : FQ K H4 p4 ((2 : Int) : Rat) := FQ.ofInt (SqT.of e4)
    have d4 : FB 64 ((2 : Int) : Rat) := FB.ofInt (Bd.small (i := 2) (by decide) (by decide)) (by decide)
    refine ⟨aa, a.1, 64, p4, _, 64, rfl, Kw.Same.tup s4 a2, a4, g4, d4, by decide, fun r5 H5 s5 g5 => ?_⟩
    have s35 := s4.trans s5
    have hb5 := s35 _ _ hb3
    refine ⟨_, rfl, b, _, rfl, hb5, fun qs vs H6 n6 t6 hb6 gq dq sq => ?_⟩
    refine ⟨_, rfl, b, 9, _, rfl, hb6, by decide, sm9 _ (by decide) (by decide), fun d7 n7 H7 lo7 hi7 s7 hb7 => ?_⟩
    refine ⟨_, _, rfl, rfl, by show 3 ≤ sizeLine; decide, ?_⟩
    intro p8 n8
    obtain ⟨H8, q8, s8, e8⟩ := newO n8 (.tup [.ref r5, .ref qs, .int (1 + d7)])
    rw [q8]
    clear q8
    refine ⟨by show 1 ≤ sizeLine; decide, ?_⟩
    intro p9 n9
    obtain ⟨H9, q9, s9, e9⟩ := newO n9 (.lst [.ref p8])
    rw [q9]
    clear q9
    have t59 : But b H5 H9 := t6.trans (s7.trans (But.of (s8.trans s9)))
    have t39 : But b H3 H9 := (But.of s35).trans t59
    have hf9 := t39 _ _ nfb hf3
    refine ⟨f, p9, xs, [.ref p8], rfl, rfl, hf9, e9, Nat.le_trans (show xs.length + 1 ≤ 12 by omega) (by decide), ?_⟩
    intro p10 n10
    obtain ⟨H10, q10, s10, e10⟩ := newO n10 (.lst (xs ++ [.ref p8]))
    rw [q10]
    clear q10
    have t310 := t39.trans (But.of s10)
    have six12 : Six (72 + 54 * (bs.length : Int) + 12) (a.1 + ((2 : Int) : Rat)) := sa.add six_int2
    have hb9 := (s8.trans s9) _ _ hb7
    have p10b : p10 ≠ b := Ne.symm (ne_of_none hb9 n10)
    have one : BdQ K H10 64 (.ref p8) (a.1 + ((2 : Int) : Rat), vs, 1 + d7) := ⟨p8, r5, qs, rfl, SqT.of ((s9.trans s10) _ _ e8), (t59.trans (But.of s10)).tup hb5 g5, (s7.trans (But.of (s8.trans (s9.trans s10)))).tup hb6 gq, six12.fb (by omega), sq.fb (by decide), by show 1 ≤ 1 + d7; omega, by show 1 + d7 ≤ 10000; omega⟩
    have ll : (bs ++ [(a.1 + ((2 : Int) : Rat), vs, 1 + d7)]).length = bs.length + 1 := by rw [List.length_append, List.length_singleton]
    refine ⟨_, ?_, p10, _, xs ++ [.ref p8], bs ++ [(a.1 + ((2 : Int) : Rat), vs, 1 + d7)], n7, rfl, s3.trans t310, none_of_but (s3.trans t39) n10 p10b, p10b, s10 _ _ hb9, e10, Al2.snoc (bds_but al3 t310 hb3) one, by omega, by omega, rfl, asc.snoc pos, all_snoc hw (by show 1 + d7 ≤ 1000; omega), all_snoc (fun q hq => (six q hq).mono (by omega)) (six12.mono (by omega)), all_snoc s72 (sq.frn.mono (by decide))⟩
    omega
  · refine ⟨_, rfl, _, rfl, b, nb, f, xs, bs, 1000, rfl, hb3, nfb, hf3, al3, l1, l12, asc, hw, (fun q hq => (six q hq).mono (by omega)), s72, fun f1 xs1 bs1 n1 H1 s1 nf1 nfb1 hb1 hf1 al1 ln asc1 hw1 six1 s721 => ?_⟩
    exact k f1 xs1 bs1 n1 H1 (s3.trans s1) (none_of_but s3 nf1 nfb1) nfb1 hb1 hf1 al1 (by omega) (by omega) asc1 (com _ six1 s721) fun q hq => ⟨(bds_w al1 q hq).1, hw1 q hq⟩
noncomputable def spC_comes_up_to (K : PySem.W.Frag) (C : Addr) : Sp := fun vs H Q _ => ∃ (p : Addr) (gs : List Bod) (now : Rat) (n : Nat) (g j u : Addr) (t : Rat), vs = [.ref p, .ref u] ∧ CrsAt K H C p gs now n g j ∧ n < 40 ∧ FQ K H u t ∧ FB 1990 t ∧ ∀ (b : Bool) (H1 : Hp), (b = true ↔ UpQ gs t) → Same H H1 → Q (.bl b) H1
theorem sc_Course_comes_up_to : FnScope ["self", "moment"] ["self", "moment"] (defScope (mthAt (top 31) 3)) := ⟨rfl, rfl, rfl, by decide +kernel, rfl, by decide +kernel, by decide +kernel⟩
theorem ok_Course_comes_up_to (D : DfM K (C 0) "comes_up_to" "Course.comes_up_to" (mthAt (top 31) 3) ["self", "moment"]) (T : Tx K mg C) (F_under : Fn P w K mg base 1 "under" ["one", "other"] (sp_under K)) : FnM P w K mg base 2 (C 0) "comes_up_to" ["self", "moment"] (spC_comes_up_to K (C 0)) := by
  refine D.ok0 sc_Course_comes_up_to (fun vs H Q E h => ?_) (fun f cdv A outer s H vs Q E hr h => ?_)
  · obtain ⟨p, gs, now, n, g, j, u, t, rfl, _⟩ := h
    rfl
  obtain ⟨p, gs, now, n, g, j, u, t, rfl, cr, n40, gt, dt, k⟩ := h
  refine ⟨_, (pss_cons (ps_if (pw_or (pt_cmpR op_isN (pe_fldC T.cl_Course T.n_Course_coming (pv 0)) pe_non (nomark _)) (pw_or1 (pt_val (pe_fn F_under (by decide) hr (by rfl) passE0 (pa_cons (pv 1) (pa_cons (pe_fldC T.cl_Course T.n_Course_coming (pv 0)) pa_nil))) (fun _ => rfl)))).pt (pss_one (ps_ret pe_bl)) pss_nil)
      (pss_cons (ps_if (pt_cmpR op_eq (pe_fldC T.cl_Course T.n_Course_gone_through (pv 0)) (pe_globI (by rfl) T.k_MOST_MOMENTS) (nomark _)) (pss_one ps_never) pss_nil)
      (pss_one (ps_ret pe_bl)))), ?_⟩
  obtain ⟨dx, sh, nw, co, xs, ys, hp, hg, al, gsh, gnw, dnw, hj, aj, oc, ne⟩ := id cr
  refine ⟨_, rfl, p, _, _, _, rfl, hp, crs_c, rfl, _, rfl, ?_⟩
  rcases oc with ⟨e0, rfl⟩ | ⟨c, pc, e0, rfl, gc, dc⟩
  · refine iteT ?_
    refine iteT ?_
    exact k _ H ⟨fun z => (nomatch z), fun ⟨c, hc, _⟩ => by rw [e0] at hc; cases hc⟩ (Same.refl _)
  · refine iteF ?_
    refine ⟨_, rfl, _, rfl, p, _, _, _, rfl, hp, crs_c, u, _, pc, _, rfl, gt, dt.mono (by decide), gc, dc.mono (by decide), fun H1 s1 => ⟨_, rfl, ?_⟩⟩
    refine if_dec (fun lt => ?_) (fun lt => ?_)
    · exact k _ H1 ⟨fun z => (nomatch z), fun ⟨c', hc, lc⟩ => by rw [e0] at hc; cases hc; grind⟩ s1
    · refine ⟨_, rfl, p, _, _, _, rfl, s1 _ _ hp, crs_t, rfl, _, rfl, ?_⟩
      refine if_decI (fun c40 => absurd c40 (by omega)) (fun _ => ?_)
      exact k _ H1 ⟨fun _ => ⟨c, e0, by grind⟩, fun _ => rfl⟩ s1
noncomputable def sp_refuse_below_nought (K : PySem.W.Frag) : Sp := fun vs H Q _ => ∃ (p : Addr) (x : Rat), vs = [.ref p] ∧ FQ K H p x ∧ FB 8900 x ∧ 0 ≤ x ∧ ∀ H1, Same H H1 → Q .non H1
theorem sc_refuse_below_nought : FnScope ["moment"] ["moment"] (defScope (top 24)) := ⟨rfl, rfl, rfl, by decide +kernel, rfl, by decide +kernel, by decide +kernel⟩
theorem ok_refuse_below_nought (D : Df K mg "refuse_below_nought" (top 24) ["moment"]) (T : Tx K mg C) (F_under : Fn P w K mg base 1 "under" ["one", "other"] (sp_under K)) : Fn P w K mg base 2 "refuse_below_nought" ["moment"] (sp_refuse_below_nought K) := by
  refine D.ok0 sc_refuse_below_nought (fun vs H Q E h => ?_) (fun f cdv A outer s H vs Q E hr h => ?_)
  · obtain ⟨p, q, rfl, _⟩ := h
    rfl
  obtain ⟨p, q, rfl, hp, dq, q0, k⟩ := h
  refine ⟨_, (pss_one (ps_if (pt_val (pe_fn F_under (by decide) hr (by rfl) passE0 (pa_cons (pv 0) (pa_cons (pe_globT (K := K) rfl (by rfl) T.k_NOUGHT) pa_nil))) (fun _ => rfl)) (pss_one ps_never) pss_nil)), ?_⟩
  refine ⟨_, rfl, fun N hN => ?_⟩
  have gN : FQ K H N (((0 : Int)) : Rat) := hN _
  have dN : FB 64 (((0 : Int)) : Rat) := FB.ofInt (Bd.small (i := 0) (by decide) (by decide)) (by decide)
  have eN : (((0 : Int)) : Rat) = 0 := rfl
  refine ⟨_, _, _, _, rfl, hp, dq.mono (by decide), gN, dN.mono (by decide), fun H1 s1 => ⟨_, rfl, ?_⟩⟩
  refine if_dec (fun c => ?_) (fun c => ?_)
  · rw [eN] at c
    exact absurd q0 (by grind)
  · exact k H1 s1
noncomputable def sp_is_fraction (K : PySem.W.Frag) : Sp := fun vs H Q _ => ∃ (x : V) (c : Bool), vs = [x] ∧ FrB K H x c ∧ Q (.bl c) H
theorem sc_is_fraction : FnScope ["thing", "top", "bottom"] ["thing"] (defScope (top 13)) := ⟨rfl, rfl, rfl, by decide +kernel, rfl, by decide +kernel, by decide +kernel⟩
theorem ok_is_fraction (D : Df K mg "is_fraction" (top 13) ["thing"]) (T : Tx K mg C) (F_is_whole : Fn P w K mg base 1 "is_whole" ["thing"] (spWhole K)) (F_common_divisor : Fn P w K mg base 1 "common_divisor" ["one", "other"] spGcdB) : Fn P w K mg base 2 "is_fraction" ["thing"] (sp_is_fraction K) := by
  refine D.ok0 sc_is_fraction (fun vs H Q E h => ?_) (fun f cdv A outer s H vs Q E hr h => ?_)
  · obtain ⟨x, c, rfl, _⟩ := h
    rfl
  obtain ⟨x, c, rfl, hf, k⟩ := h
  refine ⟨_, (pss_cons (ps_if (pw_or (pt_not (pt_val (pe_callB (call_isiTup (K := K) rfl) (by rfl) T.b_isinstance PyProof.Rows.Boot.«isinstance» (pa_cons (pv 0) (pa_cons (pe_bty (by rfl) T.b_tuple PyProof.Rows.Boot.«tuple») pa_nil))) (fun _ => rfl))) (pw_or1 (pt_cmpR op_ne (pe_callB call_len (by rfl) T.b_len PyProof.Rows.Boot.«len» (pa_cons (pv 0) pa_nil)) pe_int (nomark _)))).pt (pss_one (ps_ret pe_bl)) pss_nil)
      (pss_cons (ps_set (i := 1) sc_is_fraction.nd rfl (Or.inl rfl) (pe_ix ix_tup (pv 0) pe_int (fun _ _ => rfl)))
      (pss_cons (ps_set (i := 2) sc_is_fraction.nd rfl (Or.inl rfl) (pe_ix ix_tup (pv 0) pe_int (fun _ _ => rfl)))
      (pss_cons (ps_if (pw_or (pt_not (pt_val (pe_fn F_is_whole (by decide) hr (by rfl) passE0 (pa_cons (pv 1) pa_nil)) (fun _ => rfl))) (pw_or1 (pt_not (pt_val (pe_fn F_is_whole (by decide) hr (by rfl) passE0 (pa_cons (pv 2) pa_nil)) (fun _ => rfl))))).pt (pss_one (ps_ret pe_bl)) pss_nil)
      (pss_one (ps_ret (pe_and (pe_cmpR op_ge (pv 2) pe_int (nomark _)) (pe_one (pe_cmpR op_eq (pe_fn F_common_divisor (by decide) hr (by rfl) passE0 (pa_cons (pv 1) (pa_cons (pv 2) pa_nil))) pe_int (nomark _)))))))))), ?_⟩
  rcases hf with ⟨rfl, t, ty, kt⟩ | ⟨p, i, j, rfl, hp', bj, rfl⟩
  · exact ⟨_, rfl, _, _, false, rfl, .inl ⟨_, rfl⟩, .inl ⟨_, ty, kt⟩, _, rfl, iteT k⟩
  refine ⟨_, rfl, _, _, true, rfl, .inl ⟨_, rfl⟩, .inr ⟨_, _, rfl, hp', kit_tup_tup⟩, _, rfl, iteF ?_⟩
  refine ⟨_, rfl, _, _, rfl, .inr ⟨_, hp', rfl⟩, rfl, _, rfl, iteF ?_⟩
  refine ⟨_, rfl, p, _, _, _, rfl, rfl, hp', rfl, _, rfl, p, _, _, _, rfl, rfl, hp', rfl, ?_⟩
  refine ⟨_, rfl, _, _, true, false, rfl, .int _, kit_int_int, kit_int_bool, _, rfl, iteF ?_⟩
  refine ⟨_, rfl, _, _, true, false, rfl, .int _, kit_int_int, kit_int_bool, _, rfl, iteF ?_⟩
  refine ⟨_, rfl, _, _, rfl, rfl, _, rfl, ?_⟩
  refine if_dec (fun c => ?_) (fun c => ?_)
  · rw [decide_eq_true c, Bool.true_and] at k
    refine ⟨_, rfl, _, rfl, i, j, rfl, bj, rfl, ?_⟩
    rw [show decide (V.int ((Int.gcd i j : Nat) : Int) = V.int 1) = decide (((Int.gcd i j : Nat) : Int) = 1) by simp only [V.int.injEq]]
    exact k
  · rw [decide_eq_false c, Bool.false_and] at k
    exact k
noncomputable def sp_has_form (K : PySem.W.Frag) : Sp := fun vs H Q _ => ∃ (v : V) (o : Option Pm), vs = [v] ∧ PtQ K H v o ∧ Q (.bl o.isSome) H
theorem sc_has_form : FnScope ["thing"] ["thing"] (defScope (top 33)) := ⟨rfl, rfl, rfl, by decide +kernel, rfl, by decide +kernel, by decide +kernel⟩
theorem ok_has_form (D : Df K mg "has_form" (top 33) ["thing"]) (T : Tx K mg C) (F_is_fraction : Fn P w K mg base 2 "is_fraction" ["thing"] (sp_is_fraction K)) (F_is_whole : Fn P w K mg base 1 "is_whole" ["thing"] (spWhole K)) : Fn P w K mg base 3 "has_form" ["thing"] (sp_has_form K) := by
  refine D.ok0 sc_has_form (fun vs H Q E h => ?_) (fun f cdv A outer s H vs Q E hr h => ?_)
  · obtain ⟨v, o, rfl, _⟩ := h
    rfl
  obtain ⟨v, o, rfl, ho, k⟩ := h
  refine ⟨_, (pss_cons (ps_if (pw_or (pt_not (pt_val (pe_callB (call_isiTup (K := K) rfl) (by rfl) T.b_isinstance PyProof.Rows.Boot.«isinstance» (pa_cons (pv 0) (pa_cons (pe_bty (by rfl) T.b_tuple PyProof.Rows.Boot.«tuple») pa_nil))) (fun _ => rfl))) (pw_or1 (pt_cmpR op_ne (pe_callB call_len (by rfl) T.b_len PyProof.Rows.Boot.«len» (pa_cons (pv 0) pa_nil)) pe_int (nomark _)))).pt (pss_one (ps_ret pe_bl)) pss_nil)
      (pss_one (ps_ret (pe_and (pe_fn F_is_fraction (by decide) hr (by rfl) passE0 (pa_cons (pe_ix ix_tup (pv 0) pe_int (fun _ _ => rfl)) pa_nil)) (pe_and (pe_fn F_is_fraction (by decide) hr (by rfl) passE0 (pa_cons (pe_ix ix_tup (pv 0) pe_int (fun _ _ => rfl)) pa_nil)) (pe_one (pe_fn F_is_whole (by decide) hr (by rfl) passE0 (pa_cons (pe_ix ix_tup (pv 0) pe_int (fun _ _ => rfl)) pa_nil)))))))), ?_⟩
  cases o with
  | none =>
    rcases ho with ⟨_, t, ty, kt⟩ | ⟨p, xs, rfl, hp, hl⟩ | ⟨p, x, y, z, bx, bY, bz, rfl, h1, h2, h3, ⟨t, b1, b2, ty, k1, k2, k3⟩, h5⟩
    · exact ⟨_, rfl, _, _, false, rfl, .inl ⟨_, rfl⟩, .inl ⟨_, ty, kt⟩, _, rfl, iteT k⟩
    · refine ⟨_, rfl, _, _, true, rfl, .inl ⟨_, rfl⟩, .inr ⟨_, _, rfl, hp, kit_tup_tup⟩, _, rfl, iteF ?_⟩
      refine ⟨_, rfl, _, _, rfl, .inr ⟨_, hp, rfl⟩, rfl, _, rfl, ?_⟩
      refine if_neI (fun _ => k) (fun z => ?_)
      exact absurd (show xs.length = 3 by omega) hl
    · refine ⟨_, rfl, _, _, true, rfl, .inl ⟨_, rfl⟩, .inr ⟨_, _, rfl, h1, kit_tup_tup⟩, _, rfl, iteF ?_⟩
      refine ⟨_, rfl, _, _, rfl, .inr ⟨_, h1, rfl⟩, rfl, _, rfl, iteF ?_⟩
      refine ⟨_, rfl, p, _, _, _, rfl, rfl, h1, rfl, x, _, rfl, h2, _, rfl, ?_⟩
      cases bx with
      | false => exact iteF k
      | true =>
        refine iteT ?_
        refine ⟨_, rfl, p, _, _, _, rfl, rfl, h1, rfl, y, _, rfl, h3, _, rfl, ?_⟩
        cases bY with
        | false => exact iteF k
        | true =>
          refine iteT ?_
          refine ⟨_, rfl, p, _, _, _, rfl, rfl, h1, rfl, _, _, b1, b2, rfl, ty, k1, k2, ?_⟩
          rw [k3, show bz = false from h5]
          exact k
  | some m =>
    obtain ⟨p, a, b, rfl, h1, h2, h3, d1, d2⟩ := (show PmQ K H v m from ho)
    refine ⟨_, rfl, _, _, true, rfl, .inl ⟨_, rfl⟩, .inr ⟨_, _, rfl, h1, kit_tup_tup⟩, _, rfl, iteF ?_⟩
    refine ⟨_, rfl, _, _, rfl, .inr ⟨_, h1, rfl⟩, rfl, _, rfl, iteF ?_⟩
    refine ⟨_, rfl, p, _, _, _, rfl, rfl, h1, rfl, _, _, rfl, FrB.ofFQ h2 d1, _, rfl, iteT ?_⟩
    refine ⟨_, rfl, p, _, _, _, rfl, rfl, h1, rfl, _, _, rfl, FrB.ofFQ h3 d2, _, rfl, iteT ?_⟩
    exact ⟨_, rfl, p, _, _, _, rfl, rfl, h1, rfl, _, _, true, false, rfl, .int _, kit_int_int, kit_int_bool, k⟩
noncomputable def sp_wrong_word (K : PySem.W.Frag) : Sp := fun vs H Q _ => ∃ (pr : Addr) (zs : List V) (ps : List (Option Pm)) (k : Nat) (v : V) (m : Rat × Rat × Nat), vs = [.ref pr, .int (k : Int), v] ∧ H pr = some (.lst zs) ∧ Al2 (PtQ K H) zs ps ∧ MtQ K H v m ∧ Q (wdV (wwdO ps k m)) H
theorem sc_wrong_word : FnScope ["run", "count", "meeting", "thing"] ["run", "count", "meeting"] (defScope (top 34)) := ⟨rfl, rfl, rfl, by decide +kernel, rfl, by decide +kernel, by decide +kernel⟩
theorem ok_wrong_word (D : Df K mg "wrong_word" (top 34) ["run", "count", "meeting"]) (T : Tx K mg C) (F_has_form : Fn P w K mg base 3 "has_form" ["thing"] (sp_has_form K)) : Fn P w K mg base 4 "wrong_word" ["run", "count", "meeting"] (sp_wrong_word K) := by
  refine D.ok0 sc_wrong_word (fun vs H Q E h => ?_) (fun f cdv A outer s H vs Q E hr h => ?_)
  · obtain ⟨pr, zs, ps, k, v, m, rfl, _⟩ := h
    rfl
  obtain ⟨pr, zs, ps, k, v, m, rfl, hp, al, ⟨q, qa, qb, rfl, q1, q2, q3, _⟩, kk⟩ := h
  refine ⟨_, (pss_cons (ps_if (pt_cmpR op_ge (pv 1) (pe_callB call_len (by rfl) T.b_len PyProof.Rows.Boot.«len» (pa_cons (pv 0) pa_nil)) (nomark _)) (pss_one (ps_ret pe_str)) pss_nil)
      (pss_cons (ps_set (i := 3) sc_wrong_word.nd rfl (Or.inl rfl) (pe_ix ix_list (pv 0) (pv 1) (fun _ _ => rfl)))
      (pss_cons (ps_if (pt_not (pt_val (pe_fn F_has_form (by decide) hr (by rfl) passE0 (pa_cons (pv 3) pa_nil)) (fun _ => rfl))) (pss_one (ps_ret pe_str)) pss_nil)
      (pss_cons (ps_if (pt_cmpR (op_neQ (K := K) rfl (u100 hr)) (pe_ix ix_tup (pv 3) pe_int (fun _ _ => rfl)) (pe_ix ix_tup (pv 2) pe_int (fun _ _ => rfl)) (nomark _)) (pss_one (ps_ret pe_str)) pss_nil)
      (pss_cons (ps_if (pt_cmpR (op_neQ (K := K) rfl (u100 hr)) (pe_ix ix_tup (pv 3) pe_int (fun _ _ => rfl)) (pe_ix ix_tup (pv 2) pe_int (fun _ _ => rfl)) (nomark _)) (pss_one (ps_ret pe_str)) pss_nil)
      (pss_cons (ps_if (pt_cmpR op_ne (pe_ix ix_tup (pv 3) pe_int (fun _ _ => rfl)) (pe_ix ix_tup (pv 2) pe_int (fun _ _ => rfl)) (nomark _)) (pss_one (ps_ret pe_str)) pss_nil)
      (pss_one (ps_ret pe_non)))))))), ?_⟩
  have lz := Al2.len al
  refine ⟨_, rfl, _, rfl, _, _, rfl, .inl ⟨_, SqL.of hp, rfl⟩, _, _, rfl, rfl, _, rfl, ?_⟩
  refine if_dec (fun c => ?_) (fun c => ?_)
  · have e : wwdO ps k m = some "fewer" := by
      unfold wwdO
      rw [List.getElem?_eq_none (by omega)]
    rw [e] at kk
    exact kk
  obtain ⟨x, hx⟩ : ∃ x, zs[k]? = some x := ⟨_, List.getElem?_eq_getElem (by omega)⟩
  obtain ⟨o, hpm, zx⟩ := Al2.get al hx
  refine ⟨_, rfl, _, rfl, pr, _, _, _, rfl, rfl, SqL.of hp, atI_nat hx, ?_⟩
  cases o with
  | none =>
    refine ⟨_, rfl, _, none, rfl, zx, _, rfl, iteT ?_⟩
    have e : wwdO ps k m = some "form" := by
      unfold wwdO
      rw [hpm]
    rw [e] at kk
    exact kk
  | some pm =>
  obtain ⟨px, xa, xb, rfl, x1, x2, x3, x4⟩ := (show PmQ K H x pm from zx)
  refine ⟨_, rfl, _, some pm, rfl, zx, _, rfl, iteF ?_⟩
  have ew : wwdO ps k m = if pm.1 = m.1 then (if pm.2.1 = m.2.1 then (if pm.2.2 = (m.2.2 : Int) then none else some "number") else some "place") else some "moment" := by
    unfold wwdO
    rw [hpm]
  rw [ew] at kk
  refine ⟨_, rfl, px, _, _, _, rfl, rfl, x1, rfl, _, rfl, q, _, _, _, rfl, rfl, q1, rfl, xa, qa, _, _, rfl, rfl, x2, q2, _, rfl, ?_⟩
  refine if_not (fun c1 => ?_) (fun c1 => ?_)
  · rw [if_neg c1] at kk
    exact kk
  rw [if_pos c1] at kk
  refine ⟨_, rfl, px, _, _, _, rfl, rfl, x1, rfl, _, rfl, q, _, _, _, rfl, rfl, q1, rfl, xb, qb, _, _, rfl, rfl, x3, q3, _, rfl, ?_⟩
  refine if_not (fun c2 => ?_) (fun c2 => ?_)
  · rw [if_neg c2] at kk
    exact kk
  rw [if_pos c2] at kk
  refine ⟨_, rfl, px, _, _, _, rfl, rfl, x1, rfl, _, rfl, q, _, _, _, rfl, rfl, q1, rfl, rfl, _, rfl, ?_⟩
  refine if_neI (fun c3 => ?_) (fun c3 => ?_)
  · rw [if_neg c3] at kk
    exact kk
  rw [if_pos c3] at kk
  exact kk
noncomputable def sp_look_along (K : PySem.W.Frag) (C : Addr) : Sp := fun vs H Q _ => ∃ (p pr pt : Addr) (gs : List Bod) (g j : Addr) (zs : List V) (ps : List (Option Pm)) (t : Rat) (m B : Nat) (ms : List (Rat × Rat × Nat)) (cr : Bool) (es : List Bod) (last : Rat), vs = [.ref p, .ref pr, .ref pt] ∧ CrsAt K H C p gs 0 0 g j ∧ gs.length ≤ 12 ∧ H pr = some (.lst zs) ∧ pr ∉ [p, g, j] ∧ (∀ H', Buts [p, g, j] H H' → Al2 (PtQ K H') zs ps) ∧ FQ K H pt t ∧ FB 1990 t ∧ RunT t gs 0 m ms cr es last ∧ m < 40 ∧ Com B gs ∧ B + 180 * m ≤ 1974 ∧
  ∀ (v : V) (H1 : Hp), Buts [p, g, j] H H1 → LkV K H1 v (lookO ms cr ps) → (lookO ms cr ps = none → CrsAt K H1 C p es last m g j) → Q v H1
theorem sc_look_along : FnScope ["course", "run", "moment", "count", "meeting", "word"] ["course", "run", "moment"] (defScope (top 35)) := ⟨rfl, rfl, rfl, by decide +kernel, rfl, by decide +kernel, by decide +kernel⟩
theorem ok_look_along (D : Df K mg "look_along" (top 35) ["course", "run", "moment"]) (T : Tx K mg C) (F_Course_comes_up_to : FnM P w K mg base 2 (C 0) "comes_up_to" ["self", "moment"] (spC_comes_up_to K (C 0))) (F_Course_is_crowded : FnM P w K mg base 5 (C 0) "is_crowded" ["self"] (spC_is_crowded K (C 0))) (F_Course_meetings : FnM P w K mg base 4 (C 0) "meetings" ["self"] (spC_meetings K (C 0))) (F_wrong_word : Fn P w K mg base 4 "wrong_word" ["run", "count", "meeting"] (sp_wrong_word K)) (F_Course_go_on : FnM P w K mg base 6 (C 0) "go_on" ["self"] (spC_go_on K (C 0))) : Fn P w K mg base 7 "look_along" ["course", "run", "moment"] (sp_look_along K (C 0)) := by
  refine D.ok0 sc_look_along (fun vs H Q E h => ?_) (fun f cdv A outer s H vs Q E hr h => ?_)
  · obtain ⟨p, pr, pt, gs, g, j, zs, ps, t, m, B, ms, cr, es, last, rfl, _⟩ := h
    rfl
  obtain ⟨p, pr, pt, gs, g, j, zs, ps, t, m, B, ms, cr, es, last, rfl, crs0, l12, hr0, nr, alp, gt, dt, rt, m40, com, hB, k⟩ := h
  refine ⟨_, (pss_cons (ps_set (i := 3) sc_look_along.nd rfl (Or.inl rfl) pe_int)
      (pss_cons (ps_while PassesOwn.never (pt_val (pe_mt T.cl_Course F_Course_comes_up_to (by decide) hr passE0 (pv 0) (pa_cons (pv 2) pa_nil)) (fun _ => rfl)) (pss_cons (ps_if (pt_val (pe_mt0 T.cl_Course F_Course_is_crowded (by decide) hr passE0 (pv 0)) (fun _ => rfl)) (pss_one (ps_ret (pe_tup (pa_cons pe_str (pa_cons (pv 3) pa_nil))))) pss_nil)
      (pss_cons (ps_for PassesOwn.never rfl (pi_list (pe_mt0 T.cl_Course F_Course_meetings (by decide) hr passE0 (pv 0))) (pg_name (i := 4) sc_look_along.nd rfl (Or.inl rfl)) (pss_cons (ps_set (i := 5) sc_look_along.nd rfl (Or.inl rfl) (pe_fn F_wrong_word (by decide) hr (by rfl) passE0 (pa_cons (pv 1) (pa_cons (pv 3) (pa_cons (pv 4) pa_nil)))))
      (pss_cons (ps_if (pt_cmpR op_notN (pv 5) pe_non (nomark _)) (pss_one (ps_ret (pe_tup (pa_cons (pv 5) (pa_cons (pv 3) pa_nil))))) pss_nil)
      (pss_one (ps_aug (i := 3) sc_look_along.nd rfl (Or.inl rfl) pe_int ip_add)))))
      (pss_one (ps_expr (pe_mt0 T.cl_Course F_Course_go_on (by decide) hr passE0 (pv 0)))))))
      (pss_cons (ps_if (pt_cmpR op_lt (pv 3) (pe_callB call_len (by rfl) T.b_len PyProof.Rows.Boot.«len» (pa_cons (pv 1) pa_nil)) (nomark _)) (pss_one (ps_ret (pe_tup (pa_cons pe_str (pa_cons (pv 3) pa_nil))))) pss_nil)
      (pss_one (ps_ret pe_non))))), ?_⟩
  obtain ⟨dx0, sh0, nw0, co0, xs0, ys0, hp0, hg0, _, _, _, _, hj0, _⟩ := id crs0
  have lzp := Al2.len (alp _ Buts.refl)
  refine ⟨fun d σ' H' => ∃ (u4 u5 : Option V) (gk : List Bod) (now : Rat) (n : Nat) (ms1 ms2 : List (Rat × Rat × Nat)), σ' = [some (.ref p), some (.ref pr), some (.ref pt), some (.int (ms1.length : Int)), u4, u5] ∧ Buts [p, g, j] H H' ∧ CrsAt K H' (C 0) p gk now n g j ∧ NoT [p, g, j] H ∧ gk.length = gs.length ∧ Com (B + 180 * n) gk ∧ n + d = m ∧ RunT t gk now d ms2 cr es last ∧ ms = ms1 ++ ms2 ∧ fbadO ps ms1 0 = none, ⟨m, _, _, gs, 0, 0, [], ms, rfl, Buts.refl, crs0, NoT.ins hp0 (NoT.lst hg0 (NoT.lst hj0 NoT.nil)), rfl, com, by omega, rt, rfl, rfl⟩, ?_⟩
  rintro d σ' H4 ⟨u4, u5, gk, now, n, ms1, ms2, rfl, s4, cr4, nt, ln, ck, nd, rk, em, fb0⟩
  obtain ⟨dx, sh, nw, co, xs, ys, hp, hg, al, gsh, gnw, dnw, hj, aj, oc, ne⟩ := id cr4
  have gt4 := s4.tup nt gt
  refine ⟨_, rfl, p, _, _, rfl, hp, rfl, _, rfl, p, gk, now, n, g, j, pt, t, rfl, cr4, by omega, gt4, dt, fun b H5 hb s5 => ⟨_, rfl, ?_⟩⟩
  have cr5 := cr4.same s5
  have hr4 := s4 _ _ nr hr0
  have alp4 := alp _ s4
  have B5 : Buts [p, g, j] H H5 := s4.trans (Buts.of s5)
  have hr5 := s5 _ _ hr4
  have alp5 := pts_same alp4 s5
  cases b with
  | false =>
    refine iteF ?_
    have nup : ¬ UpQ gk t := fun z => Bool.noConfusion (hb.mpr z)
    obtain ⟨rfl, rfl, rfl, rfl, rfl⟩ : gk = es ∧ now = last ∧ false = cr ∧ [] = ms2 ∧ 0 = d := by
      cases rk with
      | crowd h' l' => exact absurd ⟨_, h', l'⟩ nup
      | step h' l' => exact absurd ⟨_, h', l'⟩ nup
      | stop h' => exact ⟨rfl, rfl, rfl, rfl, rfl⟩
    rw [List.append_nil] at em
    subst em
    have en : n = m := by omega
    subst en
    refine ⟨_, rfl, _, rfl, _, _, rfl, .inl ⟨_, SqL.of hr5, rfl⟩, _, _, rfl, rfl, _, rfl, ?_⟩
    refine if_dec (fun c => ?_) (fun c => ?_)
    · refine ⟨_, rfl, by show 2 ≤ sizeLine; decide, ?_⟩
      intro p6 n6
      obtain ⟨H6, q6, s6, e6⟩ := newO n6 (.tup [.str "more", .int (ms.length : Int)])
      rw [q6]
      clear q6
      have e : lookO ms false ps = some ("more", ms.length) := by
        unfold lookO
        rw [fb0]
        dsimp only
        rw [if_neg (by decide), if_pos (by omega)]
      refine k (.ref p6) H6 (B5.trans (Buts.of s6)) ?_ (fun z => by rw [e] at z; cases z)
      rw [e]
      exact .inr ⟨_, _, p6, rfl, rfl, SqT.of e6⟩
    · have e : lookO ms false ps = none := by
        unfold lookO
        rw [fb0]
        dsimp only
        rw [if_neg (by decide), if_neg (by omega)]
      refine k .non H5 B5 ?_ (fun _ => cr5)
      rw [e]
      exact .inl ⟨rfl, rfl⟩
  | true =>
    refine iteT ?_
    obtain ⟨c, ct, lc⟩ := hb.mp rfl
    refine ⟨_, fun _ _ n => n, ?_⟩
    refine ⟨_, rfl, p, _, _, rfl, s5 _ _ hp, rfl, p, gk, now, n, g, j, rfl, cr5, by omega, fun b6 H6 hb6 s6 => ⟨_, rfl, ?_⟩⟩
    have B6 := B5.trans (Buts.of s6)
    have cr6 := cr5.same s6
    cases b6 with
    | true =>
      refine iteT ?_
      have cc := hb6.mp rfl
      obtain ⟨rfl, rfl⟩ : true = cr ∧ [] = ms2 := by
        cases rk with
        | stop h' => exact absurd ⟨c, ct, lc⟩ h'
        | crowd h' l' => exact ⟨rfl, rfl⟩
        | step h' l' k' => exact absurd cc k'
      rw [List.append_nil] at em
      subst em
      refine ⟨_, rfl, by show 2 ≤ sizeLine; decide, ?_⟩
      intro p7 n7
      obtain ⟨H7, q7, s7, e7⟩ := newO n7 (.tup [.str "crowd", .int (ms.length : Int)])
      rw [q7]
      clear q7
      have e : lookO ms true ps = some ("crowd", ms.length) := by
        unfold lookO
        rw [fb0]
        dsimp only
        rw [if_pos rfl]
      refine k (.ref p7) H7 (B6.trans (Buts.of s7)) ?_ (fun z => by rw [e] at z; cases z)
      rw [e]
      exact .inr ⟨_, _, p7, rfl, rfl, SqT.of e7⟩
    | false =>
      refine iteF ?_
      have nc : ¬ crwQ gk := fun z => Bool.noConfusion (hb6.mpr z)
      obtain ⟨d', ms3, hd, ems, rk'⟩ : ∃ d' ms3, d = d' + 1 ∧ ms2 = metsQ gk ++ ms3 ∧ RunT t (onQ gk) c d' ms3 cr es last := by
        cases rk with
        | stop h' => exact absurd ⟨c, ct, lc⟩ h'
        | crowd h' l' k' => exact absurd k' nc
        | step h' l' k' r' =>
          rw [ct] at h'
          cases h'
          exact ⟨_, _, rfl, rfl, r'⟩
      subst hd ems
      refine ⟨_, rfl, p, _, _, rfl, s6 _ _ (s5 _ _ hp), rfl, p, gk, now, n, g, j, rfl, cr6, by omega, fun r7 zs7 H7 s7 n7 e7 al7 => ?_⟩
      have cr7 := cr6.same s7
      have B7 := B6.trans (Buts.of s7)
      have hr7 := s7 _ _ (s6 _ _ hr5)
      have alp7 := pts_same (pts_same alp5 s6) s7
      have lz7 := Al2.len al7
      refine ⟨r7, rfl, ⟨_, SqL.of e7⟩, for_list (K := K) (a := r7) (xs := zs7) (fun i σ1 H' => ∃ (u4 u5 : Option V), σ1 = [some (.ref p), some (.ref pr), some (.ref pt), some (.int ((ms1.length + i : Nat) : Int)), u4, u5] ∧ H' = H7 ∧ fbadO ps (ms1 ++ (metsQ gk).take i) 0 = none) ⟨_, _, rfl, rfl, by rw [List.take_zero, List.append_nil]; exact fb0⟩ (by rintro _ _ _ _ ⟨_, _, _, rfl, _⟩; exact SqL.of e7) ?_ ?_⟩
      · rintro i x σ1 H' hx ⟨u4, u5, rfl, rfl, fbi⟩
        have hi : i < zs7.length := (List.getElem?_eq_some_iff.mp hx).1
        obtain ⟨mt, hmt, qx⟩ := Al2.get al7 hx
        have lt : (ms1 ++ (metsQ gk).take i).length = ms1.length + i := by
          rw [List.length_append, List.length_take]
          omega
        refine ⟨_, rfl, _, rfl, _, rfl, pr, zs, ps, ms1.length + i, x, mt, rfl, hr7, alp7, qx, ?_⟩
        have tk := take_snoc hmt
        cases q : wwdO ps (ms1.length + i) mt with
        | none =>
          refine ⟨_, rfl, rfl, _, rfl, ?_⟩
          refine if_not (fun z => absurd rfl z) (fun _ => ?_)
          refine ⟨_, rfl, _, _, rfl, rfl, ?_⟩
          refine ⟨_, _, by rw [show ((ms1.length + (i + 1) : Nat) : Int) = ((ms1.length + i : Nat) : Int) + 1 by omega]; rfl, rfl, ?_⟩
          rw [tk, ← List.append_assoc]
          exact fbadO_snoc fbi (by rw [lt]; exact q)
        | some wd =>
          refine ⟨_, rfl, rfl, _, rfl, ?_⟩
          refine if_not (fun _ => ?_) (fun z => nomatch z)
          refine ⟨_, rfl, _, rfl, by show 2 ≤ sizeLine; decide, ?_⟩
          intro p8 n8
          obtain ⟨H8, q8, s8, e8⟩ := newO n8 (.tup [wdV (some wd), .int ((ms1.length + i : Nat) : Int)])
          rw [q8]
          clear q8
          have e : lookO ms cr ps = some (wd, ms1.length + i) := by
            unfold lookO
            have sp : ms = (ms1 ++ (metsQ gk).take i) ++ mt :: ((metsQ gk).drop (i + 1) ++ ms3) := by
              rw [em, List.append_assoc, ← List.cons_append, ← List.append_assoc ((metsQ gk).take i)]
              have dv : (metsQ gk).take i ++ mt :: (metsQ gk).drop (i + 1) = metsQ gk := by
                have hl := (List.getElem?_eq_some_iff.mp hmt)
                rw [← hl.2, ← List.drop_eq_getElem_cons hl.1, List.take_append_drop]
              rw [dv]
            rw [sp, fbadO_hit fbi (by rw [lt]; exact q), lt]
          refine k (.ref p8) H8 (B7.trans (Buts.of s8)) ?_ (fun z => by rw [e] at z; cases z)
          rw [e]
          exact .inr ⟨_, _, p8, rfl, rfl, SqT.of e8⟩
      · rintro σ1 H' ⟨u4, u5, rfl, rfl, fbi⟩
        rw [lz7, List.take_length] at fbi
        obtain ⟨_, _, _, _, _, _, hp7, _⟩ := id cr7
        refine ⟨_, rfl, p, _, _, rfl, hp7, rfl, p, gk, now, n, g, j, c, B + 180 * n, rfl, cr7, by omega, ct, ck, by omega, fun H8 s8 cr8 ck8 => ?_⟩
        refine ⟨d', by omega, _, _, onQ gk, c, n + 1, ms1 ++ metsQ gk, ms3, by rw [List.length_append, lz7], B7.trans s8, cr8, nt, by rw [on_len]; exact ln, ck8.mono (by omega), by omega, rk', by rw [em, List.append_assoc], fbi⟩
noncomputable def sp_refuse_paper (K : PySem.W.Frag) : Sp := fun vs H Q _ => ∃ (pr p : Addr) (zs : List V) (x : Rat), vs = [.ref pr, .ref p] ∧ H pr = some (.lst zs) ∧ FQ K H p x ∧ FB 8900 x ∧ 0 ≤ x ∧ ∀ H1, Same H H1 → Q .non H1
theorem sc_refuse_paper : FnScope ["run", "moment"] ["run", "moment"] (defScope (top 36)) := ⟨rfl, rfl, rfl, by decide +kernel, rfl, by decide +kernel, by decide +kernel⟩
theorem ok_refuse_paper (D : Df K mg "refuse_paper" (top 36) ["run", "moment"]) (T : Tx K mg C) (F_refuse_below_nought : Fn P w K mg base 2 "refuse_below_nought" ["moment"] (sp_refuse_below_nought K)) : Fn P w K mg base 3 "refuse_paper" ["run", "moment"] (sp_refuse_paper K) := by
  refine D.ok0 sc_refuse_paper (fun vs H Q E h => ?_) (fun f cdv A outer s H vs Q E hr h => ?_)
  · obtain ⟨pr, p, zs, x, rfl, _⟩ := h
    rfl
  obtain ⟨pr, p, zs, x, rfl, hr0, hp, dx, x0, k⟩ := h
  refine ⟨_, (pss_cons (ps_expr (pe_fn F_refuse_below_nought (by decide) hr (by rfl) passE0 (pa_cons (pv 1) pa_nil)))
      (pss_one (ps_if (pt_not (pt_val (pe_callB call_isinst (by rfl) T.b_isinstance PyProof.Rows.Boot.«isinstance» (pa_cons (pv 0) (pa_cons (pe_bty (by rfl) T.b_list PyProof.Rows.Boot.«list») pa_nil))) (fun _ => rfl))) (pss_one ps_never) pss_nil))), ?_⟩
  refine ⟨_, rfl, p, x, rfl, hp, dx, x0, fun H1 s1 => ?_⟩
  exact ⟨_, rfl, _, _, true, rfl, .inl ⟨_, rfl⟩, ⟨_, .lst (s1 _ _ hr0), kit_lst_lst⟩, _, rfl, iteF (k H1 s1)⟩
noncomputable def sp_first_wrong (K : PySem.W.Frag) : Sp := fun vs H Q _ => ∃ (p pr pt : Addr) (xs zs : List V) (bs : List Bod) (ps : List (Option Pm)) (t : Rat) (m : Nat) (ms : List (Rat × Rat × Nat)) (cr : Bool) (es : List Bod) (last : Rat), vs = [.ref p, .ref pr, .ref pt] ∧ H p = some (.lst xs) ∧ Al2 (BdQ K H 1990) xs bs ∧ bs.length ≤ 12 ∧ Com 30 bs ∧ H pr = some (.lst zs) ∧ Al2 (PtQ K H) zs ps ∧ FQ K H pt t ∧ FB 1990 t ∧ 0 ≤ t ∧ RnT t bs m ms cr es last ∧ ∀ (v : V) (H1 : Hp), Same H H1 → LkV K H1 v (lookO ms cr ps) → Q v H1
theorem sc_first_wrong : FnScope ["world", "run", "moment"] ["world", "run", "moment"] (defScope (top 37)) := ⟨rfl, rfl, rfl, by decide +kernel, rfl, by decide +kernel, by decide +kernel⟩
theorem ok_first_wrong (D : Df K mg "first_wrong" (top 37) ["world", "run", "moment"]) (T : Tx K mg C) (F_refuse_paper : Fn P w K mg base 3 "refuse_paper" ["run", "moment"] (sp_refuse_paper K)) (F_Course___init__ : FnM P w K mg base 5 (C 0) "__init__" ["self", "world", "share"] (spC_init K (C 0))) (F_look_along : Fn P w K mg base 7 "look_along" ["course", "run", "moment"] (sp_look_along K (C 0))) : Fn P w K mg base 8 "first_wrong" ["world", "run", "moment"] (sp_first_wrong K) := by
  refine D.ok0 sc_first_wrong (fun vs H Q E h => ?_) (fun f cdv A outer s H vs Q E hr h => ?_)
  · obtain ⟨p, pr, pt, xs, zs, bs, ps, t, m, ms, cr, es, last, rfl, _⟩ := h
    rfl
  obtain ⟨p, pr, pt, xs, zs, bs, ps, t, m, ms, cr', es, last, rfl, hp, al, l12, com, hr0, alp, gt, dt, t0, ⟨rt, m5⟩, k⟩ := h
  refine ⟨_, (pss_cons (ps_expr (pe_fn F_refuse_paper (by decide) hr (by rfl) passE0 (pa_cons (pv 1) (pa_cons (pv 2) pa_nil))))
      (pss_one (ps_ret (pe_fn F_look_along (by decide) hr (by rfl) passE0 (pa_cons (pe_mko T.mk_Course T.kp_Course F_Course___init__ (by decide) hr (by rfl) T.c_Course passE0 (pa_cons (pv 0) (pa_cons (pe_globT (K := K) rfl (by rfl) T.k_ALL) pa_nil))) (pa_cons (pv 1) (pa_cons (pv 2) pa_nil))))))), ?_⟩
  refine ⟨_, rfl, _, rfl, pr, pt, zs, t, rfl, hr0, gt, dt.mono (by decide), t0, fun H1 s1 => ?_⟩
  refine ⟨_, rfl, fun N hN => ?_⟩
  intro x dx nx ndx nex
  obtain ⟨H2, q2⟩ : ∃ H2, upd (upd H1 dx (.own x)) x (.ins (C 0) dx []) = H2 := ⟨_, rfl⟩
  have s2 : Same H1 H2 := by
    rw [← q2]
    intro a o ha
    rw [upd_ne (ne_of_none ha nx), upd_ne (ne_of_none ha ndx)]
    exact ha
  have e2 : H2 x = some (.ins (C 0) dx []) := by rw [← q2]; exact upd_same
  dsimp only
  rw [q2]
  clear q2
  have s12 := s1.trans s2
  have n0 : ∀ {a : Addr}, H2 a = none → H a = none := fun h => none_of_sm s12 h
  have x0 : H x = none := none_of_sm s1 nx
  refine ⟨x, dx, p, xs, bs, N, rfl, e2, s12 _ _ hp, bds_same al s12, l12, com.mono (by omega), hN _, fun g j H3 s3 ng nj cr => ⟨rfl, ?_⟩⟩
  obtain ⟨dx', sh, nw, co, xs', ys, hx3, hg3, _, _, _, _, hj3, _⟩ := id cr
  have S3 : Same H H3 := fun a o ha => s3 a o (ne_of_none ha x0) (s12 a o ha)
  have nr : pr ∉ [x, g, j] := by simp [ne_of_none hr0 x0, ne_of_none hr0 (n0 ng), ne_of_none hr0 (n0 nj)]
  refine ⟨_, rfl, _, rfl, x, pr, pt, bs, g, j, zs, ps, t, m, 30, ms, cr', es, last, rfl, cr, l12, S3 _ _ hr0, nr, (fun H' b' => pts_same alp (fun a o ha => b' a o (by simp [ne_of_none ha x0, ne_of_none ha (n0 ng), ne_of_none ha (n0 nj)]) (S3 a o ha))), Kw.Same.tup S3 gt, dt, rt, by omega, com, by omega, fun v H4 s4 lk _ => ?_⟩
  refine k v H4 (fun a o ha => s4 a o ?_ (S3 a o ha)) lk
  simp [ne_of_none ha x0, ne_of_none ha (n0 ng), ne_of_none ha (n0 nj)]
noncomputable def sp_is_run (K : PySem.W.Frag) : Sp := fun vs H Q _ => ∃ (p pr pt : Addr) (xs zs : List V) (bs : List Bod) (ps : List (Option Pm)) (t : Rat) (m : Nat) (ms : List (Rat × Rat × Nat)) (cr : Bool) (es : List Bod) (last : Rat), vs = [.ref p, .ref pr, .ref pt] ∧ H p = some (.lst xs) ∧ Al2 (BdQ K H 1990) xs bs ∧ bs.length ≤ 12 ∧ Com 30 bs ∧ H pr = some (.lst zs) ∧ Al2 (PtQ K H) zs ps ∧ FQ K H pt t ∧ FB 1990 t ∧ 0 ≤ t ∧ RnT t bs m ms cr es last ∧ ∀ (H1 : Hp), Same H H1 → Q (.bl (decide (lookO ms cr ps = none))) H1
theorem sc_is_run : FnScope ["world", "run", "moment"] ["world", "run", "moment"] (defScope (top 38)) := ⟨rfl, rfl, rfl, by decide +kernel, rfl, by decide +kernel, by decide +kernel⟩
theorem ok_is_run (D : Df K mg "is_run" (top 38) ["world", "run", "moment"]) (T : Tx K mg C) (F_first_wrong : Fn P w K mg base 8 "first_wrong" ["world", "run", "moment"] (sp_first_wrong K)) : Fn P w K mg base 9 "is_run" ["world", "run", "moment"] (sp_is_run K) := by
  refine D.ok0 sc_is_run (fun vs H Q E h => ?_) (fun f cdv A outer s H vs Q E hr h => ?_)
  · obtain ⟨p, pr, pt, xs, zs, bs, ps, t, m, ms, cr, es, last, rfl, _⟩ := h
    rfl
  obtain ⟨p, pr, pt, xs, zs, bs, ps, t, m, ms, cr, es, last, rfl, hp, al, l12, com, hr0, alp, gt, dt, t0, rt, k⟩ := h
  refine ⟨_, (pss_one (ps_ret (pe_cmpR op_isN (pe_fn F_first_wrong (by decide) hr (by rfl) passE0 (pa_cons (pv 0) (pa_cons (pv 1) (pa_cons (pv 2) pa_nil)))) pe_non (nomark _)))), ?_⟩
  refine ⟨_, rfl, _, rfl, _, rfl, p, pr, pt, xs, zs, bs, ps, t, m, ms, cr, es, last, rfl, hp, al, l12, com, hr0, alp, gt, dt, t0, rt, fun v H1 s1 lk => ⟨rfl, ?_⟩⟩
  have z := k H1 s1
  rcases lk with ⟨e, rfl⟩ | ⟨w, kk, r, e, rfl, _⟩
  · rw [e, decide_eq_true rfl] at z
    exact z
  · rw [e, decide_eq_false (fun q => nomatch q)] at z
    exact z
theorem sc_law_whole : FnScope ["thing"] ["thing"] (defScope (top 58)) := ⟨rfl, rfl, rfl, by decide +kernel, rfl, by decide +kernel, by decide +kernel⟩
theorem ok_law_whole (D : Df K mg "_law_whole" (top 58) ["thing"]) (T : Tx K mg C) : Fn P w K mg base 1 "_law_whole" ["thing"] (spWhole K) := by
  refine D.ok0 sc_law_whole (fun vs H Q E h => ?_) (fun f cdv A outer s H vs Q E hr h => ?_)
  · obtain ⟨x, t, b1, b2, rfl, _⟩ := h
    rfl
  obtain ⟨x, t, b1, b2, rfl, ty, k1, k2, q⟩ := h
  refine ⟨_, (pss_one (ps_ret (pe_and (pe_callB call_isinst (by rfl) T.b_isinstance PyProof.Rows.Boot.«isinstance» (pa_cons (pv 0) (pa_cons (pe_bty (by rfl) T.b_int PyProof.Rows.Boot.«int») pa_nil))) (pe_one (pe_not (pe_callB call_isinst (by rfl) T.b_isinstance PyProof.Rows.Boot.«isinstance» (pa_cons (pv 0) (pa_cons (pe_bty (by rfl) T.b_bool PyProof.Rows.Boot.«bool») pa_nil)))))))), ?_⟩
  refine ⟨_, rfl, x, _, b1, rfl, .inl ⟨_, rfl⟩, ⟨t, ty, k1⟩, b1, rfl, ?_⟩
  cases b1 with
  | false => exact iteF q
  | true => exact iteT ⟨_, rfl, x, _, b2, rfl, .inl ⟨_, rfl⟩, ⟨t, ty, k2⟩, b2, rfl, q⟩
noncomputable def sp_law_is_fraction (K : PySem.W.Frag) : Sp := fun vs H Q _ => ∃ (x : V) (c : Bool), vs = [x] ∧ FrB K H x c ∧ ∀ H1, Same H H1 → Q (.bl c) H1
theorem sc_law_is_fraction : FnScope ["thing"] ["thing"] (defScope (top 59)) := ⟨rfl, rfl, rfl, by decide +kernel, rfl, by decide +kernel, by decide +kernel⟩
theorem ok_law_is_fraction (D : Df K mg "_law_is_fraction" (top 59) ["thing"]) (T : Tx K mg C) (F_law_whole : Fn P w K mg base 1 "_law_whole" ["thing"] (spWhole K)) (F_law_fit : Fn P w K mg base 1 "_law_fit" ["top", "bottom"] (sp_law_fit K)) : Fn P w K mg base 2 "_law_is_fraction" ["thing"] (sp_law_is_fraction K) := by
  refine D.ok0 sc_law_is_fraction (fun vs H Q E h => ?_) (fun f cdv A outer s H vs Q E hr h => ?_)
  · obtain ⟨x, c, rfl, _⟩ := h
    rfl
  obtain ⟨x, c, rfl, hf, q⟩ := h
  have F_law_fit := fit_small F_law_fit
  refine ⟨_, (pss_cons (ps_if (pw_or (pt_not (pt_val (pe_callB (call_isiTup (K := K) rfl) (by rfl) T.b_isinstance PyProof.Rows.Boot.«isinstance» (pa_cons (pv 0) (pa_cons (pe_bty (by rfl) T.b_tuple PyProof.Rows.Boot.«tuple») pa_nil))) (fun _ => rfl))) (pw_or (pt_cmpR op_ne (pe_callB call_len (by rfl) T.b_len PyProof.Rows.Boot.«len» (pa_cons (pv 0) pa_nil)) pe_int (nomark _)) (pw_or (pt_not (pt_val (pe_fn F_law_whole (by decide) hr (by rfl) passE0 (pa_cons (pe_ix ix_tup (pv 0) pe_int (fun _ _ => rfl)) pa_nil)) (fun _ => rfl))) (pw_or1 (pt_not (pt_val (pe_fn F_law_whole (by decide) hr (by rfl) passE0 (pa_cons (pe_ix ix_tup (pv 0) pe_int (fun _ _ => rfl)) pa_nil)) (fun _ => rfl))))))).pt (pss_one (ps_ret pe_bl)) pss_nil)
      (pss_one (ps_ret (pe_and (pe_cmpR op_gt (pe_ix ix_tup (pv 0) pe_int (fun _ _ => rfl)) pe_int (nomark _)) (pe_one (pe_cmpR (op_eqTI hr.units0) (pe_fn F_law_fit (by decide) hr (by rfl) passE0 (pa_cons (pe_ix ix_tup (pv 0) pe_int (fun _ _ => rfl)) (pa_cons (pe_ix ix_tup (pv 0) pe_int (fun _ _ => rfl)) pa_nil))) (pv 0) (nomark _))))))), ?_⟩
  have q0 := q H (Same.refl H)
  rcases hf with ⟨rfl, t, ty, kt⟩ | ⟨p, i, j, rfl, hp, bj, rfl⟩
  · exact ⟨_, rfl, _, _, false, rfl, .inl ⟨_, rfl⟩, .inl ⟨_, ty, kt⟩, _, rfl, iteT q0⟩
  refine ⟨_, rfl, _, _, true, rfl, .inl ⟨_, rfl⟩, .inr ⟨_, _, rfl, hp, kit_tup_tup⟩, _, rfl, iteF ?_⟩
  refine ⟨_, rfl, _, _, rfl, .inr ⟨_, hp, rfl⟩, rfl, _, rfl, iteF ?_⟩
  refine ⟨_, rfl, p, _, _, _, rfl, rfl, hp, rfl, _, _, true, false, rfl, .int i, kit_int_int, kit_int_bool, _, rfl, iteF ?_⟩
  refine ⟨_, rfl, p, _, _, _, rfl, rfl, hp, rfl, _, _, true, false, rfl, .int j, kit_int_int, kit_int_bool, _, rfl, iteF ?_⟩
  refine ⟨_, rfl, p, _, _, _, rfl, rfl, hp, rfl, _, _, rfl, rfl, _, rfl, ?_⟩
  refine if_dec (fun c => ?_) (fun c => ?_)
  · have j0 : j ≠ 0 := by omega
    refine ⟨_, rfl, p, _, _, _, rfl, rfl, hp, rfl, _, rfl, p, _, _, _, rfl, rfl, hp, rfl, i, j, rfl, bj.mono (by decide), j0, fun p1 H1 s1 e1 => ?_⟩
    have e2 : SqT K H1 p1 [.int (fT i j), .int (fB i j)] := by
      rw [(q_fit j0).1, (q_fit j0).2]
      exact e1
    refine ⟨_, rfl, p1, p, [fT i j, fB i j], [i, j], rfl, rfl, e2, Kw.Same.tup s1 hp, ?_⟩
    rw [low_iff (show 0 < j from c)]
    have q1 := q H1 s1
    rw [decide_eq_true (show 1 ≤ j from c), Bool.true_and] at q1
    exact q1
  · rw [decide_eq_false (show ¬ 1 ≤ j from c), Bool.false_and] at q0
    exact q0
noncomputable def sp_law_word (K : PySem.W.Frag) : Sp := fun vs H Q _ => ∃ (pr : Addr) (zs : List V) (ps : List (Option Pm)) (k : Nat) (v : V) (m : Rat × Rat × Nat), vs = [.ref pr, .int (k : Int), v] ∧ H pr = some (.lst zs) ∧ Al2 (PtQ K H) zs ps ∧ MtX K H v m ∧ ∀ H1, Same H H1 → Q (wdO (wwdO ps k m)) H1
theorem sc_law_word : FnScope ["run", "k", "meeting", "one"] ["run", "k", "meeting"] (defScope (top 60)) := ⟨rfl, rfl, rfl, by decide +kernel, rfl, by decide +kernel, by decide +kernel⟩
theorem ok_law_word (D : Df K mg "_law_word" (top 60) ["run", "k", "meeting"]) (T : Tx K mg C) (F_law_whole : Fn P w K mg base 1 "_law_whole" ["thing"] (spWhole K)) (F_law_is_fraction : Fn P w K mg base 2 "_law_is_fraction" ["thing"] (sp_law_is_fraction K)) : Fn P w K mg base 3 "_law_word" ["run", "k", "meeting"] (sp_law_word K) := by
  refine D.ok0 sc_law_word (fun vs H Q E h => ?_) (fun f cdv A outer s H vs Q E hr h => ?_)
  · obtain ⟨pr, zs, ps, k, v, m, rfl, _⟩ := h
    rfl
  obtain ⟨pr, zs, ps, k, v, m, rfl, hp, al, ⟨q, qa, qb, rfl, q1, q2, q3, _⟩, kk⟩ := h
  refine ⟨_, (pss_cons (ps_if (pt_cmpR op_ge (pv 1) (pe_callB call_len (by rfl) T.b_len PyProof.Rows.Boot.«len» (pa_cons (pv 0) pa_nil)) (nomark _)) (pss_one (ps_ret pe_str)) pss_nil)
      (pss_cons (ps_set (i := 3) sc_law_word.nd rfl (Or.inl rfl) (pe_ix ix_list (pv 0) (pv 1) (fun _ _ => rfl)))
      (pss_cons (ps_if (pw_or (pt_not (pt_val (pe_callB (call_isiTup (K := K) rfl) (by rfl) T.b_isinstance PyProof.Rows.Boot.«isinstance» (pa_cons (pv 3) (pa_cons (pe_bty (by rfl) T.b_tuple PyProof.Rows.Boot.«tuple») pa_nil))) (fun _ => rfl))) (pw_or (pt_cmpR op_ne (pe_callB call_len (by rfl) T.b_len PyProof.Rows.Boot.«len» (pa_cons (pv 3) pa_nil)) pe_int (nomark _)) (pw_or1 (pt_not (pt_val (pe_fn F_law_whole (by decide) hr (by rfl) passE0 (pa_cons (pe_ix ix_tup (pv 3) pe_int (fun _ _ => rfl)) pa_nil)) (fun _ => rfl)))))).pt (pss_one (ps_ret pe_str)) pss_nil)
      (pss_cons (ps_if (pw_or (pt_not (pt_val (pe_fn F_law_is_fraction (by decide) hr (by rfl) passE0 (pa_cons (pe_ix ix_tup (pv 3) pe_int (fun _ _ => rfl)) pa_nil)) (fun _ => rfl))) (pw_or1 (pt_not (pt_val (pe_fn F_law_is_fraction (by decide) hr (by rfl) passE0 (pa_cons (pe_ix ix_tup (pv 3) pe_int (fun _ _ => rfl)) pa_nil)) (fun _ => rfl))))).pt (pss_one (ps_ret pe_str)) pss_nil)
      (pss_cons (ps_if (pt_cmpR (op_neQ (K := K) rfl (u100 hr)) (pe_ix ix_tup (pv 3) pe_int (fun _ _ => rfl)) (pe_ix ix_tup (pv 2) pe_int (fun _ _ => rfl)) (nomark _)) (pss_one (ps_ret pe_str)) pss_nil)
      (pss_cons (ps_if (pt_cmpR (op_neQ (K := K) rfl (u100 hr)) (pe_ix ix_tup (pv 3) pe_int (fun _ _ => rfl)) (pe_ix ix_tup (pv 2) pe_int (fun _ _ => rfl)) (nomark _)) (pss_one (ps_ret pe_str)) pss_nil)
      (pss_one (ps_ret (pe_ix ix_list (pe_lst (pa_cons pe_str (pa_cons pe_str pa_nil))) (pe_callTy call_int1 (by rfl) T.b_int PyProof.Rows.Boot.«int» (pa_cons (pe_cmpR op_ne (pe_ix ix_tup (pv 3) pe_int (fun _ _ => rfl)) (pe_ix ix_tup (pv 2) pe_int (fun _ _ => rfl)) (nomark _)) pa_nil)) (fun _ _ => rfl)))))))))), ?_⟩
  have lz := Al2.len al
  refine ⟨_, rfl, _, rfl, _, _, rfl, .inl ⟨_, SqL.of hp, rfl⟩, _, _, rfl, rfl, _, rfl, ?_⟩
  refine if_dec (fun c => ?_) (fun c => ?_)
  · have e : wwdO ps k m = some "fewer" := by
      unfold wwdO
      rw [List.getElem?_eq_none (by omega)]
    rw [e] at kk
    exact kk H (Same.refl H)
  obtain ⟨x, hx⟩ : ∃ x, zs[k]? = some x := ⟨_, List.getElem?_eq_getElem (by omega)⟩
  obtain ⟨o, hpm, zx⟩ := Al2.get al hx
  refine ⟨_, rfl, _, rfl, pr, _, _, _, rfl, rfl, SqL.of hp, atI_nat hx, ?_⟩
  cases o with
  | none =>
    have e : wwdO ps k m = some "form" := by
      unfold wwdO
      rw [hpm]
    rw [e] at kk
    rcases zx with ⟨_, t, ty, kt⟩ | ⟨p, xs', rfl, hpx, hl⟩ | ⟨p, x, y, z, bx, bY, bz, rfl, h1, h2, h3, ⟨t, b1, b2, ty, k1, k2, k3⟩, h5⟩
    · exact ⟨_, rfl, _, _, false, rfl, .inl ⟨_, rfl⟩, .inl ⟨_, ty, kt⟩, _, rfl, iteT (kk H (Same.refl H))⟩
    · refine ⟨_, rfl, _, _, true, rfl, .inl ⟨_, rfl⟩, .inr ⟨_, _, rfl, hpx, kit_tup_tup⟩, _, rfl, iteF ?_⟩
      refine ⟨_, rfl, _, _, rfl, .inr ⟨_, hpx, rfl⟩, rfl, _, rfl, ?_⟩
      refine if_neI (fun _ => kk H (Same.refl H)) (fun z => ?_)
      exact absurd (show xs'.length = 3 by omega) hl
    · refine ⟨_, rfl, _, _, true, rfl, .inl ⟨_, rfl⟩, .inr ⟨_, _, rfl, h1, kit_tup_tup⟩, _, rfl, iteF ?_⟩
      refine ⟨_, rfl, _, _, rfl, .inr ⟨_, h1, rfl⟩, rfl, _, rfl, iteF ?_⟩
      refine ⟨_, rfl, p, _, _, _, rfl, rfl, h1, rfl, _, _, b1, b2, rfl, ty, k1, k2, _, rfl, ?_⟩
      rw [k3]
      cases bz with
      | false => exact iteT (kk H (Same.refl H))
      | true =>
        refine iteF ?_
        refine ⟨_, rfl, p, _, _, _, rfl, rfl, h1, rfl, x, _, rfl, h2, fun H1 s1 => ⟨_, rfl, ?_⟩⟩
        cases bx with
        | false => exact iteT (kk H1 s1)
        | true =>
          refine iteF ?_
          have h11 := Kw.Same.tup s1 h1
          refine ⟨_, rfl, p, _, _, _, rfl, rfl, h11, rfl, y, _, rfl, h3.same s1, fun H2 s2 => ⟨_, rfl, ?_⟩⟩
          cases bY with
          | false => exact iteT (kk H2 (s1.trans s2))
          | true => cases h5
  | some pm =>
  obtain ⟨px, xa, xb, rfl, x1, x2, x3, d1, d2⟩ := (show PmQ K H x pm from zx)
  refine ⟨_, rfl, _, _, true, rfl, .inl ⟨_, rfl⟩, .inr ⟨_, _, rfl, x1, kit_tup_tup⟩, _, rfl, iteF ?_⟩
  refine ⟨_, rfl, _, _, rfl, .inr ⟨_, x1, rfl⟩, rfl, _, rfl, iteF ?_⟩
  refine ⟨_, rfl, px, _, _, _, rfl, rfl, x1, rfl, _, _, true, false, rfl, .int _, kit_int_int, kit_int_bool, _, rfl, iteF ?_⟩
  refine ⟨_, rfl, px, _, _, _, rfl, rfl, x1, rfl, _, _, rfl, FrB.ofFQ x2 d1, fun H1 s1 => ⟨_, rfl, iteF ?_⟩⟩
  have x11 := Kw.Same.tup s1 x1
  refine ⟨_, rfl, px, _, _, _, rfl, rfl, x11, rfl, _, _, rfl, FrB.ofFQ (Kw.Same.tup s1 x3) d2, fun H2 s2 => ⟨_, rfl, iteF ?_⟩⟩
  have s12 := s1.trans s2
  have x12 := Kw.Same.tup s12 x1
  have q12 := Kw.Same.tup s12 q1
  have ew : wwdO ps k m = if pm.1 = m.1 then (if pm.2.1 = m.2.1 then (if pm.2.2 = (m.2.2 : Int) then none else some "number") else some "place") else some "moment" := by
    unfold wwdO
    rw [hpm]
  rw [ew] at kk
  refine ⟨_, rfl, px, _, _, _, rfl, rfl, x12, rfl, _, rfl, q, _, _, _, rfl, rfl, q12, rfl, xa, qa, _, _, rfl, rfl, Kw.Same.tup s12 x2, Kw.Same.tup s12 q2, _, rfl, ?_⟩
  refine if_not (fun c1 => ?_) (fun c1 => ?_)
  · rw [if_neg c1] at kk
    exact kk H2 s12
  rw [if_pos c1] at kk
  refine ⟨_, rfl, px, _, _, _, rfl, rfl, x12, rfl, _, rfl, q, _, _, _, rfl, rfl, q12, rfl, xb, qb, _, _, rfl, rfl, Kw.Same.tup s12 x3, Kw.Same.tup s12 q3, _, rfl, ?_⟩
  refine if_not (fun c2 => ?_) (fun c2 => ?_)
  · rw [if_neg c2] at kk
    exact kk H2 s12
  rw [if_pos c2] at kk
  refine ⟨by show 2 ≤ sizeLine; decide, ?_⟩
  intro p3 n3
  obtain ⟨H3, q3, s3, e3⟩ := newO n3 (.lst [.str "", .str "number"])
  rw [q3]
  clear q3
  have s13 := s12.trans s3
  have x13 := Kw.Same.tup s13 x1
  have q13 := Kw.Same.tup s13 q1
  refine ⟨_, rfl, px, _, _, _, rfl, rfl, x13, rfl, _, rfl, q, _, _, _, rfl, rfl, q13, rfl, rfl, ?_⟩
  by_cases c3 : pm.2.2 = (m.2.2 : Int)
  · rw [if_pos c3] at kk
    have eb : decide (V.int pm.2.2 = V.int (m.2.2 : Int)) = true := decide_eq_true (by rw [c3])
    rw [eb]
    exact .inr ⟨_, rfl, p3, _, _, _, rfl, rfl, SqL.of e3, rfl, kk H3 s13⟩
  · rw [if_neg c3] at kk
    have eb : decide (V.int pm.2.2 = V.int (m.2.2 : Int)) = false := decide_eq_false (fun z => c3 (V.int.inj z))
    rw [eb]
    exact .inr ⟨_, rfl, p3, _, _, _, rfl, rfl, SqL.of e3, rfl, kk H3 s13⟩
noncomputable def sp_law_wrong (K : PySem.W.Frag) : Sp := fun vs H Q _ => ∃ (pr : Addr) (zs : List V) (ps : List (Option Pm)) (p pt : Addr) (xs : List V) (gs : List Bod) (t : Rat) (m : Nat) (ms : List (Rat × Rat × Nat)) (cr : Bool) (es : List Bod) (last : Rat), vs = [.ref p, .ref pr, .ref pt] ∧ H pr = some (.lst zs) ∧ Al2 (PtQ K H) zs ps ∧ H p = some (.lst xs) ∧ Al2 (BdQ K H 2646) xs gs ∧ 1 ≤ gs.length ∧ gs.length ≤ 12 ∧ OrdT gs 0 ∧ Com 30 gs ∧ FQ K H pt t ∧ FB 1900 t ∧ 0 ≤ t ∧ RunT t gs 0 m ms cr es last ∧ m ≤ 8 ∧ ∀ (v : V) (H1 : Hp), Same H H1 → LkV K H1 v (lookO ms cr ps) → Q v H1
theorem sc_law_wrong : FnScope ["world", "run", "moment", "now", "bodies", "k", "turn", "step", "meeting", "word"] ["world", "run", "moment"] (defScope (top 61)) := ⟨rfl, rfl, rfl, by decide +kernel, rfl, by decide +kernel, by decide +kernel⟩
theorem ok_law_wrong (D : Df K mg "_law_wrong" (top 61) ["world", "run", "moment"]) (T : Tx K mg C) (F_law_step : Fn P w K mg base 4 "_law_step" ["now", "bodies"] (sp_law_step K)) (F_law_less : Fn P w K mg base 1 "_law_less" ["one", "other"] (sp_law_less K)) (F_law_word : Fn P w K mg base 3 "_law_word" ["run", "k", "meeting"] (sp_law_word K)) : Fn P w K mg base 5 "_law_wrong" ["world", "run", "moment"] (sp_law_wrong K) := by
  refine D.ok0 sc_law_wrong (fun vs H Q E h => ?_) (fun f cdv A outer s H vs Q E hr h => ?_)
  · obtain ⟨pr, zs, ps, p, pt, xs, gs, t, m, ms, cr, es, last, rfl, _⟩ := h
    rfl
  obtain ⟨pr, zs, ps, p, pt, xs, gs, t, m, ms, cr, es, last, rfl, hr0, alp, hp, al, l1, l12, ord, com, gt0, dt0, t0, rt, m5, k⟩ := h
  refine ⟨_, (pss_cons (ps_par3 (i := 3) (j := 4) (k := 5) rfl sc_law_wrong.nd rfl rfl rfl (by decide) (by decide) (by decide) rfl rfl rfl (pa_cons (pe_tup (pa_cons pe_int (pa_cons pe_int pa_nil))) (pa_cons (pv 0) (pa_cons pe_int pa_nil))) rfl)
      (pss_cons (ps_for PassesOwn.never rfl (pi_range1 (by rfl) T.b_range (pa_cons pe_int pa_nil)) (pg_name (i := 6) sc_law_wrong.nd rfl (Or.inl rfl)) (pss_cons (ps_set (i := 7) sc_law_wrong.nd rfl (Or.inl rfl) (pe_fn F_law_step (by decide) hr (by rfl) passE0 (pa_cons (pv 3) (pa_cons (pv 4) pa_nil))))
      (pss_cons (ps_if (pw_or (pt_cmpR op_eq (pe_ix ix_tup (pv 7) pe_int (fun _ _ => rfl)) pe_str (nomark _)) (pw_or1 (pt_val (pe_fn F_law_less (by decide) hr (by rfl) passE0 (pa_cons (pv 2) (pa_cons (pe_ix ix_tup (pv 7) pe_int (fun _ _ => rfl)) pa_nil))) (fun _ => rfl)))).pt (pss_one ps_break) pss_nil)
      (pss_cons (ps_if (pt_cmpR op_eq (pe_ix ix_tup (pv 7) pe_int (fun _ _ => rfl)) pe_str (nomark _)) (pss_one (ps_ret (pe_tup (pa_cons pe_str (pa_cons (pv 5) pa_nil))))) pss_nil)
      (pss_cons (ps_for PassesOwn.never rfl (pi_list (pe_ix ix_tup (pv 7) pe_int (fun _ _ => rfl))) (pg_name (i := 8) sc_law_wrong.nd rfl (Or.inl rfl)) (pss_cons (ps_set (i := 9) sc_law_wrong.nd rfl (Or.inl rfl) (pe_fn F_law_word (by decide) hr (by rfl) passE0 (pa_cons (pv 1) (pa_cons (pv 5) (pa_cons (pv 8) pa_nil)))))
      (pss_cons (ps_if (pt_cmpR op_ne (pv 9) pe_str (nomark _)) (pss_one (ps_ret (pe_tup (pa_cons (pv 9) (pa_cons (pv 5) pa_nil))))) pss_nil)
      (pss_one (ps_set (i := 5) sc_law_wrong.nd rfl (Or.inl rfl) (pe_op op_add (pv 5) pe_int))))))
      (pss_one (ps_par (i := 3) (j := 4) rfl sc_law_wrong.nd rfl rfl (by decide) rfl rfl (pa_cons (pe_ix ix_tup (pv 7) pe_int (fun _ _ => rfl)) (pa_cons (pe_ix ix_tup (pv 7) pe_int (fun _ _ => rfl)) pa_nil)) rfl)))))))
      (pss_cons (ps_if (pt_cmpR op_gt (pe_callB call_len (by rfl) T.b_len PyProof.Rows.Boot.«len» (pa_cons (pv 1) pa_nil)) (pv 5) (nomark _)) (pss_one (ps_ret (pe_tup (pa_cons pe_str (pa_cons (pv 5) pa_nil))))) pss_nil)
      (pss_one (ps_ret pe_non))))), ?_⟩
  have hw := bds_w al
  have lzp := Al2.len alp
  refine ⟨by show 2 ≤ sizeLine; decide, ?_⟩
  intro p1 n1
  obtain ⟨H1, q1, s1, e1⟩ := newO n1 (.tup [.int 0, .int 1])
  rw [q1]
  clear q1
  refine ⟨_, rfl, _, _, _, rfl, ?_⟩
  have g1 : FQ K H1 p1 0 := FQ.cast (FQ.ofInt (SqT.of e1)) rfl
  have d1 : FB 2647 (0 : Rat) := (FB.ofInt (n := 64) (Bd.small (i := 0) (by decide) (by decide)) (by decide)).mono (by decide)
  have al1 : Al2 (BdQ K H1 5425) xs (gs.map (sftB 0)) := by
    rw [sft_zero]
    exact bds_mono (bds_same al s1) (by decide)
  dsimp only [tNext]
  refine cut1 (fun σ' H' => ∃ (u3 u4 u6 u7 u8 u9 : Option V), σ' = [some (.ref p), some (.ref pr), some (.ref pt), u3, u4, some (.int (ms.length : Int)), u6, u7, u8, u9] ∧ Same H H' ∧ fbadO ps ms 0 = none ∧ cr = false) (fun N hN => ?_) ?_
  · refine ⟨_, rfl, by omega, by omega, for_range (n := 40) (fun i σ1 H' => ∃ (pn pb : Addr) (u6 u7 u8 u9 : Option V) (ys : List V) (gk : List Bod) (now : Rat) (d : Nat) (ms1 ms' : List (Rat × Rat × Nat)), σ1 = [some (.ref p), some (.ref pr), some (.ref pt), some (.ref pn), some (.ref pb), some (.int (ms1.length : Int)), u6, u7, u8, u9] ∧ Same H H' ∧ FQ K H' pn now ∧ FB 2647 now ∧ H' pb = some (.lst ys) ∧ Al2 (BdQ K H' 5425) ys (gk.map (sftB now)) ∧ gk.length = gs.length ∧ OrdT gk now ∧ (∀ q ∈ gk, 1 ≤ q.2.2 ∧ q.2.2 ≤ 10000) ∧ Com (30 + 180 * i) gk ∧ d + i = m ∧ RunT t gk now d ms' cr es last ∧ ms = ms1 ++ ms' ∧ fbadO ps ms1 0 = none) ⟨p1, p, _, _, _, _, xs, gs, 0, m, [], ms, rfl, s1, g1, d1, s1 _ _ hp, al1, rfl, ord, hw, com, rfl, rt, rfl, rfl⟩ ?_ ?_⟩
    · rintro i σ1 H4 hi ⟨pn, pb, u6, u7, u8, u9, ys, gk, now, d, ms1, ms', rfl, s4, gn, dn, hb, alb, ln, ok, wk, ck, dm, rk, em, fb0⟩
      refine ⟨_, rfl, _, rfl, pn, pb, ys, gk, now, rfl, gn, dn, hb, alb, by omega, by omega, ok, ck.mono (by omega), fun ct r e H5 s5 _ hr5 he => ?_, fun c ct cc r pc pl tn q ns H5 s5 cd dc _ hr5 gc gq ht => ?_, fun c ct nc r pc th pm' ys' zs' H5 s5 hr5 gc dc nth npm ne hth alth hpm alpm => ?_⟩
      · refine ⟨_, rfl, r, _, _, _, rfl, rfl, hr5, rfl, rfl, _, rfl, iteT ?_⟩
        refine iteT ?_
        obtain ⟨rfl, rfl⟩ : [] = ms' ∧ false = cr := by
          cases rk with
          | crowd h' l' => rw [ct] at h'; cases h'
          | step h' l' => rw [ct] at h'; cases h'
          | stop h' => exact ⟨rfl, rfl⟩
        rw [List.append_nil] at em
        subst em
        exact hN _ _ ⟨_, _, _, _, _, _, rfl, s4.trans s5, fb0, rfl⟩
      · refine ⟨_, rfl, r, _, _, _, rfl, rfl, hr5, rfl, rfl, _, rfl, iteF ?_⟩
        refine ⟨_, rfl, _, rfl, r, _, _, _, rfl, rfl, hr5, rfl, pt, _, pc, _, rfl, Kw.Same.tup (s4.trans s5) gt0, dt0.mono (by decide), gc, dc.mono (by decide), fun H6 s6 => ⟨_, rfl, ?_⟩⟩
        have hr6 := Kw.Same.tup s6 hr5
        refine if_dec (fun lt => ?_) (fun lt => ?_)
        · skip
          obtain ⟨rfl, rfl⟩ : [] = ms' ∧ false = cr := by
            cases rk with
            | crowd h' l' => rw [ct] at h'; cases h'; grind
            | step h' l' => rw [ct] at h'; cases h'; grind
            | stop h' => exact ⟨rfl, rfl⟩
          rw [List.append_nil] at em
          subst em
          exact hN _ _ ⟨_, _, _, _, _, _, rfl, s4.trans (s5.trans s6), fb0, rfl⟩
        · obtain ⟨rfl, rfl⟩ : [] = ms' ∧ true = cr := by
            cases rk with
            | stop h' => exact absurd ⟨c, ct, by grind⟩ h'
            | step h' l' k' => exact absurd cc k'
            | crowd h' l' k' => exact ⟨rfl, rfl⟩
          rw [List.append_nil] at em
          subst em
          refine ⟨_, rfl, r, _, _, _, rfl, rfl, hr6, rfl, rfl, _, rfl, iteT ?_⟩
          refine ⟨_, rfl, by show 2 ≤ sizeLine; decide, ?_⟩
          intro p7 n7
          obtain ⟨H7, q7, s7, e7⟩ := newO n7 (.tup [.str "crowd", .int (ms.length : Int)])
          rw [q7]
          clear q7
          refine k (.ref p7) H7 (s4.trans (s5.trans (s6.trans s7))) ?_
          have e : lookO ms true ps = some ("crowd", ms.length) := by
            unfold lookO
            rw [fb0]
            dsimp only
            rw [if_pos rfl]
          rw [e]
          exact .inr ⟨_, _, p7, rfl, rfl, SqT.of e7⟩
      · refine ⟨_, rfl, r, _, _, _, rfl, rfl, hr5, rfl, rfl, _, rfl, iteF ?_⟩
        refine ⟨_, rfl, _, rfl, r, _, _, _, rfl, rfl, hr5, rfl, pt, _, pc, _, rfl, Kw.Same.tup (s4.trans s5) gt0, dt0.mono (by decide), gc, dc.mono (by decide), fun H6 s6 => ⟨_, rfl, ?_⟩⟩
        have hr6 := Kw.Same.tup s6 hr5
        refine if_dec (fun lt => ?_) (fun lt => ?_)
        · skip
          obtain ⟨rfl, rfl⟩ : [] = ms' ∧ false = cr := by
            cases rk with
            | crowd h' l' => rw [ct] at h'; cases h'; grind
            | step h' l' => rw [ct] at h'; cases h'; grind
            | stop h' => exact ⟨rfl, rfl⟩
          rw [List.append_nil] at em
          subst em
          exact hN _ _ ⟨_, _, _, _, _, _, rfl, s4.trans (s5.trans s6), fb0, rfl⟩
        · obtain ⟨d', ms3, hd, ems, rk'⟩ : ∃ d' ms3, d = d' + 1 ∧ ms' = metsQ gk ++ ms3 ∧ RunT t (onQ gk) c d' ms3 cr es last := by
            cases rk with
            | stop h' => exact absurd ⟨c, ct, by grind⟩ h'
            | crowd h' l' k' => exact absurd k' nc
            | step h' l' k' r' =>
              rw [ct] at h'
              cases h'
              exact ⟨_, _, rfl, rfl, r'⟩
          subst hd ems
          refine ⟨_, rfl, r, _, _, _, rfl, rfl, hr6, rfl, rfl, _, rfl, iteF ?_⟩
          have s46 := s5.trans s6
          have hpm6 := s6 _ _ hpm
          have al6 := mtx_same alpm s6
          have lz7 := Al2.len al6
          have S6 := s4.trans s46
          refine ⟨_, rfl, r, _, _, _, rfl, rfl, hr6, rfl, pm', rfl, ⟨_, SqL.of hpm6⟩, for_list (K := K) (a := pm') (xs := zs') (fun j σ2 H' => ∃ (u8 u9 : Option V), σ2 = [some (.ref p), some (.ref pr), some (.ref pt), some (.ref pn), some (.ref pb), some (.int ((ms1.length + j : Nat) : Int)), some (.int (0 + (i : Int))), some (.ref r), u8, u9] ∧ Same H6 H' ∧ fbadO ps (ms1 ++ (metsQ gk).take j) 0 = none) ⟨_, _, rfl, Same.refl _, by rw [List.take_zero, List.append_nil]; exact fb0⟩ (by rintro _ _ _ _ ⟨_, _, _, g, _⟩; exact SqL.of (g _ _ hpm6)) ?_ ?_⟩
          · rintro j x σ2 H7 hx ⟨u8, u9, rfl, s7, fbi⟩
            have hj : j < zs'.length := (List.getElem?_eq_some_iff.mp hx).1
            obtain ⟨mt, hmt, qx⟩ := Al2.get al6 hx
            have lt : (ms1 ++ (metsQ gk).take j).length = ms1.length + j := by
              rw [List.length_append, List.length_take]
              omega
            have S7 := S6.trans s7
            refine ⟨_, rfl, _, rfl, _, rfl, pr, zs, ps, ms1.length + j, x, mt, rfl, S7 _ _ hr0, pts_same alp S7, qx.same s7, fun H8 s8 => ?_⟩
            have tk := take_snoc hmt
            cases q : wwdO ps (ms1.length + j) mt with
            | none =>
              refine ⟨_, rfl, rfl, _, rfl, ?_⟩
              refine if_not (fun z => absurd rfl z) (fun _ => ?_)
              refine ⟨_, rfl, _, _, rfl, rfl, ?_⟩
              refine ⟨_, _, by rw [show ((ms1.length + (j + 1) : Nat) : Int) = ((ms1.length + j : Nat) : Int) + 1 by omega]; rfl, s7.trans s8, ?_⟩
              rw [tk, ← List.append_assoc]
              exact fbadO_snoc fbi (by rw [lt]; exact q)
            | some wd =>
              have hne := (wwdO_ok ps (ms1.length + j) mt wd q).1
              refine ⟨_, rfl, rfl, _, rfl, ?_⟩
              refine if_not (fun _ => ?_) (fun z => absurd z hne)
              refine ⟨_, rfl, _, rfl, by show 2 ≤ sizeLine; decide, ?_⟩
              intro p9 n9
              obtain ⟨H9, q9, s9, e9⟩ := newO n9 (.tup [wdO (some wd), .int ((ms1.length + j : Nat) : Int)])
              rw [q9]
              clear q9
              have e : lookO ms cr ps = some (wd, ms1.length + j) := by
                unfold lookO
                have sp : ms = (ms1 ++ (metsQ gk).take j) ++ mt :: ((metsQ gk).drop (j + 1) ++ ms3) := by
                  rw [em, List.append_assoc, ← List.cons_append, ← List.append_assoc ((metsQ gk).take j)]
                  have dv : (metsQ gk).take j ++ mt :: (metsQ gk).drop (j + 1) = metsQ gk := by
                    have hl := (List.getElem?_eq_some_iff.mp hmt)
                    rw [← hl.2, ← List.drop_eq_getElem_cons hl.1, List.take_append_drop]
                  rw [dv]
                rw [sp, fbadO_hit fbi (by rw [lt]; exact q), lt]
              refine k (.ref p9) H9 (S7.trans (s8.trans s9)) ?_
              rw [e]
              exact .inr ⟨_, _, p9, rfl, rfl, SqT.of e9⟩
          · rintro σ2 H7 ⟨u8, u9, rfl, s7, fbi⟩
            rw [lz7, List.take_length] at fbi
            have hr7 := Kw.Same.tup s7 hr6
            have s67 := s6.trans s7
            refine ⟨_, rfl, r, _, _, _, rfl, rfl, hr7, rfl, _, rfl, r, _, _, _, rfl, rfl, hr7, rfl, _, _, rfl, ?_⟩
            exact ⟨pc, th, _, _, _, _, ys', onQ gk, c, d', ms1 ++ metsQ gk, ms3, by rw [List.length_append, lz7]; rfl, s4.trans (s5.trans s67), Kw.Same.tup s67 gc, (cmng_fb ck ct).mono (by omega), s67 _ _ hth, bds_same alth s67, by rw [on_len]; exact ln, ord_on ok ct nc wk, on_w wk, (com_on ck wk (by omega)).mono (by omega), by omega, rk', by rw [em, List.append_assoc], fbi⟩
    · rintro σ1 H4 ⟨pn, pb, u6, u7, u8, u9, ys, gk, now, d, ms1, ms', rfl, s4, gn, dn, hb, alb, ln, ok, wk, ck, dm, _⟩
      exact absurd dm (by omega)
  rintro σ' H2 ⟨u3, u4, u6, u7, u8, u9, rfl, s2, fb0, rfl⟩
  refine ⟨_, rfl, _, _, rfl, .inl ⟨_, SqL.of (s2 _ _ hr0), rfl⟩, _, rfl, _, _, rfl, rfl, _, rfl, ?_⟩
  refine if_dec (fun c => ?_) (fun c => ?_)
  · refine ⟨_, rfl, by show 2 ≤ sizeLine; decide, ?_⟩
    intro p3 n3
    obtain ⟨H3, q3, s3, e3⟩ := newO n3 (.tup [.str "more", .int (ms.length : Int)])
    rw [q3]
    clear q3
    have e : lookO ms false ps = some ("more", ms.length) := by
      unfold lookO
      rw [fb0]
      dsimp only
      rw [if_neg (by decide), if_pos (by omega)]
    refine k (.ref p3) H3 (s2.trans s3) ?_
    rw [e]
    exact .inr ⟨_, _, p3, rfl, rfl, SqT.of e3⟩
  · have e : lookO ms false ps = none := by
      unfold lookO
      rw [fb0]
      dsimp only
      rw [if_neg (by decide), if_neg (by omega)]
    refine k .non H2 s2 ?_
    rw [e]
    exact .inl ⟨rfl, rfl⟩
theorem sc_law : FnScope ["script", "k", "box", "world", "moment", "near", "when", "run", "papers", "paper", "due", "found"] ["script"] (defScope (top 65)) := ⟨rfl, rfl, rfl, by decide +kernel, rfl, by decide +kernel, by decide +kernel⟩
theorem ok_law (D : Df K mg "law" (top 65) ["script"]) (T : Tx K mg C) (F_law_box : Fn P w K mg base 2 "_law_box" ["script", "k"] (spBox K)) (F_law_crowded : Fn P w K mg base 4 "_law_crowded" ["box"] (sp_law_crowded K)) (F_law_crowd_moment : Fn P w K mg base 5 "_law_crowd_moment" ["world"] (sp_law_crowd_moment K)) (F_law_times : Fn P w K mg base 2 "_law_times" ["one", "other"] (sp_law_times K)) (F_law_over : Fn P w K mg base 2 "_law_over" ["one", "other"] (sp_law_over K)) (F_law_plus : Fn P w K mg base 2 "_law_plus" ["one", "other"] (sp_law_plus K)) (F_law_run : Fn P w K mg base 5 "_law_run" ["world", "moment"] (sp_law_run K)) (F_law_is_long : Fn P w K mg base 5 "_law_is_long" ["world", "moment"] (sp_law_is_long K)) (F_law_wrong : Fn P w K mg base 5 "_law_wrong" ["world", "run", "moment"] (sp_law_wrong K)) (F_first_wrong : Fn P w K mg base 8 "first_wrong" ["world", "run", "moment"] (sp_first_wrong K)) (F_is_run : Fn P w K mg base 9 "is_run" ["world", "run", "moment"] (sp_is_run K)) : Fn P w K mg base 10 "law" ["script"] (spLaw K) := by
  refine D.ok0 sc_law (fun vs H Q E h => ?_) (fun f cdv A outer s H vs Q E hr h => ?_)
  · obtain ⟨a, rfl, _⟩ := h
    rfl
  obtain ⟨a, rfl, hS, fin⟩ := h
  refine ⟨_, (pss_cons (ps_for PassesOwn.never rfl (pi_range1 (by rfl) T.b_range (pa_cons (pe_callB (call_max2 rfl) (by rfl) T.b_max PyProof.Rows.Boot.«max» (pa_cons pe_int (pa_cons (pe_callB (call_min2 rfl) (by rfl) T.b_min PyProof.Rows.Boot.«min» (pa_cons (pe_callB call_len (by rfl) T.b_len PyProof.Rows.Boot.«len» (pa_cons (pv 0) pa_nil)) (pa_cons pe_int pa_nil))) pa_nil))) pa_nil)) (pg_name (i := 1) sc_law.nd rfl (Or.inl rfl)) (pss_cons (ps_set (i := 2) sc_law.nd rfl (Or.inl rfl) (pe_fn F_law_box (by decide) hr (by rfl) passE0 (pa_cons (pv 0) (pa_cons (pv 1) pa_nil))))
      (pss_cons (ps_set (i := 3) sc_law.nd rfl (Or.inl rfl) (pe_fn F_law_crowded (by decide) hr (by rfl) passE0 (pa_cons (pv 2) pa_nil)))
      (pss_cons (ps_set (i := 4) sc_law.nd rfl (Or.inl rfl) (pe_fn F_law_crowd_moment (by decide) hr (by rfl) passE0 (pa_cons (pv 3) pa_nil)))
      (pss_cons (ps_set (i := 5) sc_law.nd rfl (Or.inl rfl) (pe_fn F_law_over (by decide) hr (by rfl) passE0 (pa_cons (pe_fn F_law_times (by decide) hr (by rfl) passE0 (pa_cons (pv 4) (pa_cons (pe_tup (pa_cons pe_int (pa_cons pe_int pa_nil))) pa_nil))) (pa_cons (pe_tup (pa_cons pe_int (pa_cons pe_int pa_nil))) pa_nil))))
      (pss_one (ps_for PassesOwn.never rfl (pi_list (pe_lst (pa_cons (pv 4) (pa_cons (pv 5) (pa_cons (pe_fn F_law_plus (by decide) hr (by rfl) passE0 (pa_cons (pv 4) (pa_cons (pe_tup (pa_cons pe_int (pa_cons pe_int pa_nil))) pa_nil))) pa_nil))))) (pg_name (i := 6) sc_law.nd rfl (Or.inl rfl)) (pss_cons (ps_set (i := 7) sc_law.nd rfl (Or.inl rfl) (pe_fn F_law_run (by decide) hr (by rfl) passE0 (pa_cons (pv 3) (pa_cons (pv 6) pa_nil))))
      (pss_cons (ps_set (i := 8) sc_law.nd rfl (Or.inl rfl) (pe_lst (pa_cons (pv 7) (pa_cons (pe_op op_cat (pv 7) (pe_lst (pa_cons (pe_tup (pa_cons (pv 6) (pa_cons (pe_tup (pa_cons pe_int (pa_cons pe_int pa_nil))) (pa_cons pe_int pa_nil)))) pa_nil))) (pa_cons (pe_op op_cat (pv 7) (pe_lst (pa_cons pe_non pa_nil))) (pa_cons (pe_slice sl_list (pv 7) (po_some pe_int) po_none) (pa_cons (pe_op op_cat (pv 7) (pv 7)) pa_nil)))))))
      (pss_cons (ps_if (pt_val (pe_fn F_law_is_long (by decide) hr (by rfl) passE0 (pa_cons (pv 3) (pa_cons (pv 6) pa_nil))) (fun _ => rfl)) (pss_one (ps_set (i := 8) sc_law.nd rfl (Or.inl rfl) (pe_lst pa_nil))) pss_nil)
      (pss_one (ps_for PassesOwn.never rfl (pi_list (pv 8)) (pg_name (i := 9) sc_law.nd rfl (Or.inl rfl)) (pss_cons (ps_set (i := 10) sc_law.nd rfl (Or.inl rfl) (pe_fn F_law_wrong (by decide) hr (by rfl) passE0 (pa_cons (pv 3) (pa_cons (pv 9) (pa_cons (pv 6) pa_nil)))))
      (pss_cons (ps_set (i := 11) sc_law.nd rfl (Or.inl rfl) (pe_fn F_first_wrong (by decide) hr (by rfl) passE0 (pa_cons (pe_callTy call_list_of (by rfl) T.b_list PyProof.Rows.Boot.«list» (pa_cons (pv 3) pa_nil)) (pa_cons (pe_callTy call_list_of (by rfl) T.b_list PyProof.Rows.Boot.«list» (pa_cons (pv 9) pa_nil)) (pa_cons (pv 6) pa_nil)))))
      (pss_cons (ps_if (pw_or (pt_cmpR op_ne (pe_cmpR op_isN (pv 11) pe_non (nomark _)) (pe_cmpR op_isN (pv 10) pe_non (nomark _)) (nomark _)) (pw_or1 (pw_and (pt_cmpR op_notN (pv 10) pe_non (nomark _)) (pw_and1 (pt_cmpR (op_neA (K := K) rfl (u100 hr)) (pv 11) (pv 10) (nomark _)))).pt)).pt (pss_one (ps_ret pe_bl)) pss_nil)
      (pss_one (ps_if (pt_cmpR op_ne (pe_fn F_is_run (by decide) hr (by rfl) passE0 (pa_cons (pe_callTy call_list_of (by rfl) T.b_list PyProof.Rows.Boot.«list» (pa_cons (pv 3) pa_nil)) (pa_cons (pe_callTy call_list_of (by rfl) T.b_list PyProof.Rows.Boot.«list» (pa_cons (pv 9) pa_nil)) (pa_cons (pv 6) pa_nil)))) (pe_cmpR op_isN (pv 10) pe_non (nomark _)) (nomark _)) (pss_one (ps_ret pe_bl)) pss_nil)))))))))))))))))
      (pss_one (ps_ret pe_bl))), ?_⟩
  obtain ⟨ns, hL, h63, _⟩ := id hS
  refine ⟨_, rfl, _, _, rfl, .inl ⟨_, hL, rfl⟩, _, _, rfl, _, _, rfl, _, rfl, ?_⟩
  obtain ⟨m, hme, m1, m8⟩ := most_of ns 3 (by decide)
  rw [hme]
  refine ⟨by omega, by omega, for_range (n := m.toNat) (fun i σ' H' => ∃ r1 r2 r3 r4 r5 r6 r7 r8 r9 r10 r11 : Option V, σ' = [some (.ref a), r1, r2, r3, r4, r5, r6, r7, r8, r9, r10, r11] ∧ Same H H') ⟨_, _, _, _, _, _, _, _, _, _, _, rfl, Same.refl _⟩ ?_ ?_⟩
  · rintro i σ0 H0 hi ⟨r1, r2, r3, r4, r5, r6, r7, r8, r9, r10, r11, rfl, sm⟩
    refine ⟨_, rfl, _, rfl, a, _, rfl, Scr.same hS sm, by omega, by omega, fun b nb Hb hb0 sb hb => ?_⟩
    refine ⟨_, rfl, b, nb, rfl, hb, fun f xs bs n2 H2 s2 nf nfb hb2 hf2 al2 l1 l12 asc com ltw => ?_⟩
    have ord := ord_start asc
    have pc0 := PrC.start com ltw l12
    have hw := ltw.w
    have al2' : Al2 (BdQ K H2 2646) xs bs := bds_mono al2 (by decide)
    refine ⟨_, rfl, f, xs, bs, rfl, hf2, al2', l1, l12, ord, pc0, fun pm tm H3 s3 gm dm m0 => ?_⟩
    refine ⟨_, rfl, by show 2 ≤ sizeLine; decide, ?_⟩
    intro p4 n4
    obtain ⟨H4, q4, s4, e4⟩ := newO n4 (.tup [.int 99, .int 1])
    rw [q4]
    clear q4
    have g4 : FQ K H4 p4 ((99 : Int) : Rat) := FQ.ofInt (SqT.of e4)
    have d4 : FB 64 ((99 : Int) : Rat) := FB.ofInt (Bd.small (i := 99) (by decide) (by decide)) (by decide)
    refine ⟨pm, tm, 700, p4, _, 64, rfl, Kw.Same.tup s4 gm, dm, g4, d4, by decide, fun r5 H5 s5 g5 => ?_⟩
    refine ⟨by show 2 ≤ sizeLine; decide, ?_⟩
    intro p6 n6
    obtain ⟨H6, q6, s6, e6⟩ := newO n6 (.tup [.int 100, .int 1])
    rw [q6]
    clear q6
    have g6 : FQ K H6 p6 ((100 : Int) : Rat) := FQ.ofInt (SqT.of e6)
    have d6 : FB 64 ((100 : Int) : Rat) := FB.ofInt (Bd.small (i := 100) (by decide) (by decide)) (by decide)
    have ne : ((100 : Int) : Rat) ≠ 0 := by decide
    have d5 : FB 764 (tm * ((99 : Int) : Rat)) := FB.mul dm d4
    refine ⟨r5, _, 764, p6, _, 64, rfl, Kw.Same.tup s6 g5, d5, g6, d6, by decide, ne, fun r7 H7 s7 g7 => ?_⟩
    have d7 : FB 828 (tm * ((99 : Int) : Rat) / ((100 : Int) : Rat)) := FB.div d5 d6 ne
    have q7 : 0 ≤ tm * ((99 : Int) : Rat) / ((100 : Int) : Rat) := near_nn m0
    generalize tm * ((99 : Int) : Rat) / ((100 : Int) : Rat) = tn at g7 d7 q7
    refine ⟨_, rfl, _, rfl, _, rfl, by show 2 ≤ sizeLine; decide, ?_⟩
    intro p8 n8
    obtain ⟨H8, q8, s8, e8⟩ := newO n8 (.tup [.int 1, .int 1000])
    rw [q8]
    clear q8
    have g8 : FQ K H8 p8 (Rat.divInt 1 1000) := FQ.fit (by decide) (show SqT K H8 p8 [.int (fT 1 1000), .int (fB 1 1000)] from by rw [show fT 1 1000 = 1 by decide +kernel, show fB 1 1000 = 1000 by decide +kernel]; exact SqT.of e8)
    have d8 : FB 64 (Rat.divInt 1 1000) := FB.fit (by decide) (Bd.small (by decide) (by decide)) (Bd.small (by decide) (by decide))
    have q8 : (0 : Rat) < Rat.divInt 1 1000 := q_divpos (by decide) (by decide)
    generalize Rat.divInt 1 1000 = th at g8 d8 q8
    have s38 := s4.trans (s5.trans (s6.trans (s7.trans s8)))
    refine ⟨pm, tm, 700, p8, _, 64, rfl, Kw.Same.tup s38 gm, dm, g8, d8, by decide, fun r9 H9 s9 g9 => ?_⟩
    have d9 : FB 765 (tm + th) := FB.add dm d8
    have q9 : 0 ≤ tm + th := by grind
    refine ⟨by show 3 ≤ sizeLine; decide, ?_⟩
    intro p10 n10
    obtain ⟨H10, q10, s10, e10⟩ := newO n10 (.lst [.ref pm, .ref r7, .ref r9])
    rw [q10]
    clear q10
    have s310 := s38.trans (s9.trans s10)
    have s210 := s3.trans s310
    have hx3 : ∀ x ∈ [V.ref pm, .ref r7, .ref r9], ∃ pt t, x = V.ref pt ∧ FQ K H10 pt t ∧ FB 1900 t ∧ 0 ≤ t := fun x hx => by
      rcases List.mem_cons.mp hx with rfl | hx
      · exact ⟨pm, tm, rfl, Kw.Same.tup s310 gm, dm.mono (by decide), m0⟩
      rcases List.mem_cons.mp hx with rfl | hx
      · exact ⟨r7, tn, rfl, Kw.Same.tup (s8.trans (s9.trans s10)) g7, d7.mono (by decide), q7⟩
      rw [List.mem_singleton.mp hx]
      exact ⟨r9, _, rfl, Kw.Same.tup s10 g9, d9.mono (by decide), q9⟩
    have hf10 := s210 _ _ hf2
    have al10 := bds_same al2' s210
    refine ⟨p10, rfl, ⟨_, SqL.of e10⟩, for_list (K := K) (a := p10) (xs := [.ref pm, .ref r7, .ref r9]) (fun j σ1 H' => ∃ (u6 u7 u8 u9 u10 u11 : Option V), σ1 = [some (.ref a), some (.int (0 + (i : Int))), some (.ref b), some (.ref f), some (.ref pm), some (.ref r7), u6, u7, u8, u9, u10, u11] ∧ Same H10 H') ⟨_, _, _, _, _, _, rfl, Same.refl _⟩ (by rintro _ _ _ _ ⟨_, _, _, _, _, _, _, g⟩; exact SqL.of (g _ _ e10)) ?_ ?_⟩
    · rintro j x σ1 H11 hx ⟨u6, u7, u8, u9, u10, u11, rfl, s11⟩
      obtain ⟨pt, t, rfl, gt10, dt, t0⟩ := hx3 x (List.mem_of_getElem? hx)
      have gt := Kw.Same.tup s11 gt10
      refine ⟨_, rfl, _, rfl, f, pt, xs, bs, t, rfl, s11 _ _ hf10, bds_same al10 s11, l1, l12, ord, pc0, gt, dt, fun rr zs H12 s12 nrr e12 lz run => ?_⟩
      refine ⟨_, rfl, _, rfl, _, rfl, by show 2 ≤ sizeLine; decide, ?_⟩
      intro p13 n13
      obtain ⟨H13, q13, s13, e13⟩ := newO n13 (.tup [.int 0, .int 1])
      rw [q13]
      clear q13
      refine ⟨by show 3 ≤ sizeLine; decide, ?_⟩
      intro p14 n14
      obtain ⟨H14, q14, s14, e14⟩ := newO n14 (.tup [.ref pt, .ref p13, .int 0])
      rw [q14]
      clear q14
      refine ⟨by show 1 ≤ sizeLine; decide, ?_⟩
      intro p15 n15
      obtain ⟨H15, q15, s15, e15⟩ := newO n15 (.lst [.ref p14])
      rw [q15]
      clear q15
      have s1215 := s13.trans (s14.trans s15)
      refine ⟨rr, p15, zs, [.ref p14], rfl, rfl, s1215 _ _ e12, e15, Nat.le_trans (show zs.length + [V.ref p14].length ≤ 1000 by simp only [List.length_cons, List.length_nil]; omega) (by decide), ?_⟩
      intro p16 n16
      obtain ⟨H16, q16, s16, e16⟩ := newO n16 (.lst (zs ++ [.ref p14]))
      rw [q16]
      clear q16
      refine ⟨_, rfl, by show 1 ≤ sizeLine; decide, ?_⟩
      intro p17 n17
      obtain ⟨H17, q17, s17, e17⟩ := newO n17 (.lst [.non])
      rw [q17]
      clear q17
      have s1217 := s1215.trans (s16.trans s17)
      refine ⟨rr, p17, zs, [.non], rfl, rfl, s1217 _ _ e12, e17, Nat.le_trans (show zs.length + [V.non].length ≤ 1000 by simp only [List.length_cons, List.length_nil]; omega) (by decide), ?_⟩
      intro p18 n18
      obtain ⟨H18, q18, s18, e18⟩ := newO n18 (.lst (zs ++ [.non]))
      rw [q18]
      clear q18
      have s1218 := s1217.trans s18
      refine ⟨_, rfl, _, rfl, rr, _, rfl, SqL.of (s1218 _ _ e12), ?_⟩
      intro p19 n19
      obtain ⟨H19, q19, s19, e19⟩ := newO n19 (.lst (cutV zs (some 1) none))
      rw [q19]
      clear q19
      have s1219 := s1218.trans s19
      refine ⟨_, rfl, _, rfl, rr, rr, zs, zs, rfl, rfl, s1219 _ _ e12, s1219 _ _ e12, Nat.le_trans (show zs.length + zs.length ≤ 1000 by omega) (by decide), ?_⟩
      intro p20 n20
      obtain ⟨H20, q20, s20, e20⟩ := newO n20 (.lst (zs ++ zs))
      rw [q20]
      clear q20
      refine ⟨by show 5 ≤ sizeLine; decide, ?_⟩
      intro p21 n21
      obtain ⟨H21, q21, s21, e21⟩ := newO n21 (.lst [.ref rr, .ref p16, .ref p18, .ref p19, .ref p20])
      rw [q21]
      clear q21
      have s1221 := s1219.trans (s20.trans s21)
      have s1021 := s11.trans (s12.trans s1221)
      have pap : ∀ (mm : Nat) (ms : List (Rat × Rat × Nat)) (cr : Bool) (es : List Bod) (last : Rat), RunT t bs 0 mm ms cr es last → mm ≤ 8 → ∀ x ∈ [V.ref rr, .ref p16, .ref p18, .ref p19, .ref p20], PaQ K H21 x := fun mm ms cr es last rt m8 => by
        have fbm : ∀ q ∈ ms, FB 4000 q.1 ∧ FB 4000 q.2.1 := fun q hq => by
          have z := rt.mets2 com hw l12 q hq
          exact ⟨z.1.mono (by omega), z.2.mono (by omega)⟩
        have okz := pts_thg (mtx_pts (mtx_same (run mm ms cr es last rt m8) s1221) fbm)
        have z0 : FB 4000 (((0 : Int)) : Rat) := (FB.ofInt (n := 64) (Bd.small (i := 0) (by decide) (by decide)) (by decide)).mono (by decide)
        have s1421 := s15.trans (s16.trans (s17.trans (s18.trans (s19.trans (s20.trans s21)))))
        have t14 : Thg K H21 (.ref p14) := ⟨some (t, (((0 : Int)) : Rat), 0), p14, pt, p13, rfl, SqT.of (s1421 _ _ e14), Kw.Same.tup (s12.trans s1221) gt, FQ.ofInt (SqT.of ((s14.trans s1421) _ _ e13)), dt.mono (by decide), z0⟩
        intro x hx
        rcases List.mem_cons.mp hx with rfl | hx
        · exact PaQ.of (s1221 _ _ e12) okz
        rcases List.mem_cons.mp hx with rfl | hx
        · exact PaQ.of ((s17.trans (s18.trans (s19.trans (s20.trans s21)))) _ _ e16) (all_app okz (all_one t14))
        rcases List.mem_cons.mp hx with rfl | hx
        · exact PaQ.of ((s19.trans (s20.trans s21)) _ _ e18) (all_app okz (all_one .non))
        rcases List.mem_cons.mp hx with rfl | hx
        · exact PaQ.of ((s20.trans s21) _ _ e19) (all_cut _ _ okz)
        rw [List.mem_singleton.mp hx]
        exact PaQ.of (s21 _ _ e20) (all_app okz okz)
      refine g_go ?_
      dsimp only
      refine cut1 (fun σ' H' => ∃ (pp : Addr) (xp : List V), σ' = [some (.ref a), some (.int (0 + (i : Int))), some (.ref b), some (.ref f), some (.ref pm), some (.ref r7), some (.ref pt), some (.ref rr), some (.ref pp), u9, u10, u11] ∧ Same H21 H' ∧ H' pp = some (.lst xp) ∧ (xp = [] ∨ ((∀ x ∈ xp, PaQ K H21 x) ∧ ¬ LongQ t 8 bs))) (fun N hN => ?_) ?_
      · refine ⟨_, rfl, _, rfl, f, pt, xs, bs, t, rfl, s1021 _ _ hf10, bds_same al10 s1021, l1, l12, ord, pc0, Kw.Same.tup (s12.trans s1221) gt, dt, fun lb H22 s22 hl => ⟨_, rfl, ?_⟩⟩
        cases lb with
        | true =>
          refine iteT ?_
          refine ⟨by show 0 ≤ sizeLine; decide, ?_⟩
          intro p23 n23
          obtain ⟨H23, q23, s23, e23⟩ := newO n23 (.lst [])
          rw [q23]
          clear q23
          exact hN _ _ ⟨p23, [], rfl, s22.trans s23, e23, .inl rfl⟩
        | false =>
          refine iteF ?_
          have nl : ¬ LongQ t 8 bs := fun z => Bool.noConfusion (hl.mpr z)
          obtain ⟨mm, ms, cr, es, last, rt, m8⟩ := long_or t 8 bs 0 nl
          exact hN _ _ ⟨p21, _, rfl, s22, s22 _ _ e21, .inr ⟨pap mm ms cr es last rt m8, nl⟩⟩
      rintro σ' H22 ⟨pp, xp, rfl, s22, e22, hxp⟩
      have s1022 := s1021.trans s22
      refine ⟨_, rfl, pp, rfl, ⟨_, SqL.of e22⟩, for_list (K := K) (a := pp) (xs := xp) (fun j σ1 H' => ∃ (u9 u10 u11 : Option V), σ1 = [some (.ref a), some (.int (0 + (i : Int))), some (.ref b), some (.ref f), some (.ref pm), some (.ref r7), some (.ref pt), some (.ref rr), some (.ref pp), u9, u10, u11] ∧ Same H22 H') ⟨_, _, _, rfl, Same.refl _⟩ (by rintro _ _ _ _ ⟨_, _, _, _, g⟩; exact SqL.of (g _ _ e22)) ?_ ?_⟩
      · rintro jj x σ1 H23 hx ⟨u9, u10, u11, rfl, s23⟩
        have mx := List.mem_of_getElem? hx
        rcases hxp with rfl | ⟨hpa, nl⟩
        · cases mx
        obtain ⟨mm, ms, cr, es, last, rt, m8⟩ := long_or t 8 bs 0 nl
        obtain ⟨q, zq, pq, rfl, hq, alq⟩ := (hpa x mx).same (s22.trans s23)
        have s1023 := s1022.trans s23
        have gt23 : FQ K H23 pt t := Kw.Same.tup s1023 gt10
        have hf23 := s1023 _ _ hf10
        have al23 := bds_same al10 s1023
        refine ⟨_, rfl, _, rfl, _, rfl, q, zq, pq, f, pt, xs, bs, t, mm, ms, cr, es, last, rfl, hq, alq, hf23, al23, l1, l12, ord, com, gt23, dt, t0, rt, m8, fun v24 H24 s24 lk24 => ?_⟩
        have al2s : Al2 (BdQ K H23 1990) xs bs := bds_mono (bds_same al2 (s210.trans s1023)) (by decide)
        refine ⟨_, rfl, f, xs, rfl, .inl (SqL.of (s24 _ _ hf23)), ?_⟩
        intro p25 n25
        obtain ⟨H25, q25, s25, e25⟩ := newO n25 (.lst xs)
        rw [q25]
        clear q25
        refine ⟨_, rfl, q, zq, rfl, .inl (SqL.of ((s24.trans s25) _ _ hq)), ?_⟩
        intro p26 n26
        obtain ⟨H26, q26, s26, e26⟩ := newO n26 (.lst zq)
        rw [q26]
        clear q26
        have s2326 := s24.trans (s25.trans s26)
        refine ⟨_, rfl, p25, p26, pt, xs, zq, bs, pq, t, mm, ms, cr, es, last, rfl, s26 _ _ e25, bds_same al2s s2326, l12, com, e26, pts_same alq s2326, Kw.Same.tup s2326 gt23, dt.mono (by decide), t0, ⟨rt, m8⟩, fun v27 H27 s27 lk27 => ?_⟩
        have s2327 := s2326.trans s27
        have lk24' := lk24.same (s25.trans (s26.trans s27))
        rcases lk24' with ⟨en, rfl⟩ | ⟨w, kk, r24, en, rfl, h24⟩
        · obtain rfl : v27 = .non := by
            rcases lk27 with ⟨_, e⟩ | ⟨_, _, _, e, _⟩
            · exact e
            · rw [en] at e
              cases e
          refine ⟨_, rfl, rfl, _, rfl, rfl, rfl, _, rfl, iteF ?_⟩
          refine ⟨_, rfl, rfl, _, rfl, iteF ?_⟩
          refine iteF ?_
          refine ⟨_, rfl, f, xs, rfl, .inl (SqL.of (s2327 _ _ hf23)), ?_⟩
          intro p28 n28
          obtain ⟨H28, q28, s28, e28⟩ := newO n28 (.lst xs)
          rw [q28]
          clear q28
          refine ⟨_, rfl, q, zq, rfl, .inl (SqL.of ((s2327.trans s28) _ _ hq)), ?_⟩
          intro p29 n29
          obtain ⟨H29, q29, s29, e29⟩ := newO n29 (.lst zq)
          rw [q29]
          clear q29
          have s2329 := s2327.trans (s28.trans s29)
          refine ⟨_, rfl, p28, p29, pt, xs, zq, bs, pq, t, mm, ms, cr, es, last, rfl, s29 _ _ e28, bds_same al2s s2329, l12, com, e29, pts_same alq s2329, Kw.Same.tup s2329 gt23, dt.mono (by decide), t0, ⟨rt, m8⟩, fun H30 s30 => ?_⟩
          rw [decide_eq_true en]
          refine ⟨_, rfl, rfl, rfl, _, rfl, iteF ?_⟩
          exact ⟨_, _, _, rfl, s23.trans (s2329.trans s30)⟩
        · obtain ⟨r27, rfl, h27⟩ : ∃ r27, v27 = .ref r27 ∧ SqT K H27 r27 [.str w, .int (kk : Int)] := by
            rcases lk27 with ⟨e, _⟩ | ⟨w', k', r27, e, e2, h⟩
            · rw [en] at e
              cases e
            · rw [en] at e
              cases e
              exact ⟨r27, e2, h⟩
          have nen : lookO ms cr pq ≠ none := by
            rw [en]
            exact fun z => nomatch z
          have lay := lookO_ok en
          refine ⟨_, rfl, rfl, _, rfl, rfl, rfl, _, rfl, iteF ?_⟩
          refine ⟨_, rfl, rfl, _, rfl, iteT ?_⟩
          refine ⟨_, rfl, _, rfl, _, lkD_dp h27, lkD_dp h24, (lkD_ok lay _).1, (lkD_ok lay _).2, _, rfl, iteF ?_⟩
          refine ⟨_, rfl, f, xs, rfl, .inl (SqL.of (s2327 _ _ hf23)), ?_⟩
          intro p28 n28
          obtain ⟨H28, q28, s28, e28⟩ := newO n28 (.lst xs)
          rw [q28]
          clear q28
          refine ⟨_, rfl, q, zq, rfl, .inl (SqL.of ((s2327.trans s28) _ _ hq)), ?_⟩
          intro p29 n29
          obtain ⟨H29, q29, s29, e29⟩ := newO n29 (.lst zq)
          rw [q29]
          clear q29
          have s2329 := s2327.trans (s28.trans s29)
          refine ⟨_, rfl, p28, p29, pt, xs, zq, bs, pq, t, mm, ms, cr, es, last, rfl, s29 _ _ e28, bds_same al2s s2329, l12, com, e29, pts_same alq s2329, Kw.Same.tup s2329 gt23, dt.mono (by decide), t0, ⟨rt, m8⟩, fun H30 s30 => ?_⟩
          rw [decide_eq_false nen]
          refine ⟨_, rfl, rfl, rfl, _, rfl, iteF ?_⟩
          exact ⟨_, _, _, rfl, s23.trans (s2329.trans s30)⟩
      · rintro σ1 H23 ⟨u9, u10, u11, rfl, s23⟩
        exact ⟨_, _, _, _, _, _, rfl, s1022.trans s23⟩
    · rintro σ1 H11 ⟨u6, u7, u8, u9, u10, u11, rfl, s11⟩
      exact ⟨_, _, _, _, _, _, _, _, _, _, _, rfl, sm.trans (But.fresh hb0 ((But.of sb).trans (s2.trans (But.of (s210.trans s11)))))⟩
  · rintro σ0 H0 ⟨r1, r2, r3, r4, r5, r6, r7, r8, r9, r10, r11, rfl, sm⟩
    exact fin _
end
theorem len1 {p : List Value → Prop} (h : ∀ x0, p [x0]) : ∀ us : List Value, us.length = 1 → p us := by
  intro us e
  cases us with
  | nil => exact absurd e (by show ¬ 0 = 1; decide)
  | cons x0 us =>
    cases us with
    | nil => exact h x0
    | cons y us => exact absurd e (by show ¬ us.length + 2 = 1; omega)
theorem len2 {p : List Value → Prop} (h : ∀ x0 x1, p [x0, x1]) : ∀ us : List Value, us.length = 2 → p us := by
  intro us e
  cases us with
  | nil => exact absurd e (by show ¬ 0 = 2; decide)
  | cons x0 us =>
    cases us with
    | nil => exact absurd e (by show ¬ 1 = 2; decide)
    | cons x1 us =>
      cases us with
      | nil => exact h x0 x1
      | cons y us => exact absurd e (by show ¬ us.length + 3 = 2; omega)
theorem len3 {p : List Value → Prop} (h : ∀ x0 x1 x2, p [x0, x1, x2]) : ∀ us : List Value, us.length = 3 → p us := by
  intro us e
  cases us with
  | nil => exact absurd e (by show ¬ 0 = 3; decide)
  | cons x0 us =>
    cases us with
    | nil => exact absurd e (by show ¬ 1 = 3; decide)
    | cons x1 us =>
      cases us with
      | nil => exact absurd e (by show ¬ 2 = 3; decide)
      | cons x2 us =>
        cases us with
        | nil => exact h x0 x1 x2
        | cons y us => exact absurd e (by show ¬ us.length + 4 = 3; omega)
theorem len5 {p : List Value → Prop} (h : ∀ x0 x1 x2 x3 x4, p [x0, x1, x2, x3, x4]) : ∀ us : List Value, us.length = 5 → p us := by
  intro us e
  cases us with
  | nil => exact absurd e (by show ¬ 0 = 5; decide)
  | cons x0 us =>
    cases us with
    | nil => exact absurd e (by show ¬ 1 = 5; decide)
    | cons x1 us =>
      cases us with
      | nil => exact absurd e (by show ¬ 2 = 5; decide)
      | cons x2 us =>
        cases us with
        | nil => exact absurd e (by show ¬ 3 = 5; decide)
        | cons x3 us =>
          cases us with
          | nil => exact absurd e (by show ¬ 4 = 5; decide)
          | cons x4 us =>
            cases us with
            | nil => exact h x0 x1 x2 x3 x4
            | cons y us => exact absurd e (by show ¬ us.length + 6 = 5; omega)
set_option maxHeartbeats 0 in
theorem all_mk {P : Program} {w : World} {K : PySem.W.Frag} {h : Heap} {mg : Str → Option Value} (X : K.In h) (G : h.Ns mainGlobals mg)
    {C_Course f0 f1 f2 f3 f4 f5 f6 f7 f8 f9 f10 f11 f12 f13 f14 f15 f16 f17 f18 f19 f20 f21 f22 f23 f24 f25 f26 f27 f28 f29 f30 f31 f32 f33 f34 f35 f36 f37 f38 f39 f40 f41 f42 f43 f44 f45 f46 f47 f48 f49 f50 f51 f52 f53 f54 f55 f56 f57 f58 d2 : Addr}
    {oc0 kV0 dc0 pm0 cd0 ct0 oc1 kV1 dc1 pm1 cd1 ct1 oc2 kV2 dc2 pm2 cd2 ct2 oc3 kV3 dc3 pm3 cd3 ct3 oc4 kV4 dc4 pm4 cd4 ct4 oc5 kV5 dc5 pm5 cd5 ct5 oc6 kV6 dc6 pm6 cd6 ct6 oc7 kV7 dc7 pm7 cd7 ct7 oc8 kV8 dc8 pm8 cd8 ct8 oc9 kV9 dc9 pm9 cd9 ct9 oc10 kV10 dc10 pm10 cd10 ct10 oc11 kV11 dc11 pm11 cd11 ct11 oc12 kV12 dc12 pm12 cd12 ct12 oc13 kV13 dc13 pm13 cd13 ct13 oc14 kV14 dc14 pm14 cd14 ct14 oc15 kV15 dc15 pm15 cd15 ct15 oc16 kV16 dc16 pm16 cd16 ct16 oc17 kV17 dc17 pm17 cd17 ct17 oc18 kV18 dc18 pm18 cd18 ct18 oc19 kV19 dc19 pm19 cd19 ct19 oc20 kV20 dc20 pm20 cd20 ct20 oc21 kV21 dc21 pm21 cd21 ct21 oc22 kV22 dc22 pm22 cd22 ct22 oc23 kV23 dc23 pm23 cd23 ct23 oc24 kV24 dc24 pm24 cd24 ct24 oc25 kV25 dc25 pm25 cd25 ct25 oc26 kV26 dc26 pm26 cd26 ct26 oc27 kV27 dc27 pm27 cd27 ct27 oc28 kV28 dc28 pm28 cd28 ct28 oc29 kV29 dc29 pm29 cd29 ct29 oc30 kV30 dc30 pm30 cd30 ct30 oc31 kV31 dc31 pm31 cd31 ct31 oc32 kV32 dc32 pm32 cd32 ct32 oc33 kV33 dc33 pm33 cd33 ct33 oc34 kV34 dc34 pm34 cd34 ct34 oc35 kV35 dc35 pm35 cd35 ct35 oc36 kV36 dc36 pm36 cd36 ct36 oc37 kV37 dc37 pm37 cd37 ct37 oc38 kV38 dc38 pm38 cd38 ct38 oc39 kV39 dc39 pm39 cd39 ct39 oc40 kV40 dc40 pm40 cd40 ct40 oc41 kV41 dc41 pm41 cd41 ct41 oc42 kV42 dc42 pm42 cd42 ct42 oc43 kV43 dc43 pm43 cd43 ct43 oc44 kV44 dc44 pm44 cd44 ct44 oc45 kV45 dc45 pm45 cd45 ct45 oc46 kV46 dc46 pm46 cd46 ct46 oc47 kV47 dc47 pm47 cd47 ct47 oc48 kV48 dc48 pm48 cd48 ct48 oc49 kV49 dc49 pm49 cd49 ct49 oc50 kV50 dc50 pm50 cd50 ct50 oc51 kV51 dc51 pm51 cd51 ct51 oc52 kV52 dc52 pm52 cd52 ct52 oc53 kV53 dc53 pm53 cd53 ct53 oc54 kV54 dc54 pm54 cd54 ct54 oc55 kV55 dc55 pm55 cd55 ct55 oc56 kV56 dc56 pm56 cd56 ct56 oc57 kV57 dc57 pm57 cd57 ct57 oc58 kV58 dc58 pm58 cd58 ct58 : Value}
    {od0 an0 od1 an1 od2 an2 od3 an3 od4 an4 od5 an5 od6 an6 od7 an7 od8 an8 od9 an9 od10 an10 od11 an11 od12 an12 od13 an13 od14 an14 od15 an15 od16 an16 od17 an17 od18 an18 od19 an19 od20 an20 od21 an21 od22 an22 od23 an23 od24 an24 od25 an25 od26 an26 od27 an27 od28 an28 od29 an29 od30 an30 od31 an31 od32 an32 od33 an33 od34 an34 od35 an35 od36 an36 od37 an37 od38 an38 od39 an39 od40 an40 od41 an41 od42 an42 od43 an43 od44 an44 od45 an45 od46 an46 od47 an47 od48 an48 od49 an49 od50 an50 od51 an51 od52 an52 od53 an53 od54 an54 od55 an55 od56 an56 od57 an57 od58 an58 : Option Addr}
    {sl0 sl1 sl2 sl3 sl4 sl5 sl6 sl7 sl8 sl9 sl10 sl11 sl12 sl13 sl14 sl15 sl16 sl17 sl18 sl19 sl20 sl21 sl22 sl23 sl24 sl25 sl26 sl27 sl28 sl29 sl30 sl31 sl32 sl33 sl34 sl35 sl36 sl37 sl38 sl39 sl40 sl41 sl42 sl43 sl44 sl45 sl46 sl47 sl48 sl49 sl50 sl51 sl52 sl53 sl54 sl55 sl56 sl57 sl58 : Array (Option Value)}
    {cD2 : Value} {oD2 : Option Addr} {tD2 : Tok} {nD2 : Nat} {slD2 : Array (Option Value)}
    {tk_LONG_BITS : Tok}
    {A_NOUGHT : Addr} {oG_NOUGHT : Option Addr} {k1_NOUGHT k2_NOUGHT : Tok} {nG_NOUGHT : Nat} {slG_NOUGHT : Array (Option Value)}
    {A_ALL : Addr} {oG_ALL : Option Addr} {k1_ALL k2_ALL : Tok} {nG_ALL : Nat} {slG_ALL : Array (Option Value)}
    {tk_MOST_MOMENTS : Tok}
    (c_Course : PySem.W.nsIn K mainGlobals "Course" = some (some (.ref C_Course)))
    (b_isinstance : PySem.W.nsIn K mainGlobals "isinstance" = some none)
    (b_int : PySem.W.nsIn K mainGlobals "int" = some none)
    (b_bool : PySem.W.nsIn K mainGlobals "bool" = some none)
    (b_tuple : PySem.W.nsIn K mainGlobals "tuple" = some none)
    (b_list : PySem.W.nsIn K mainGlobals "list" = some none)
    (b_abs : PySem.W.nsIn K mainGlobals "abs" = some none)
    (b_len : PySem.W.nsIn K mainGlobals "len" = some none)
    (b_divmod : PySem.W.nsIn K mainGlobals "divmod" = some none)
    (b_range : PySem.W.nsIn K mainGlobals "range" = some none)
    (b_max : PySem.W.nsIn K mainGlobals "max" = some none)
    (b_min : PySem.W.nsIn K mainGlobals "min" = some none)
    (b_enumerate : PySem.W.nsIn K mainGlobals "enumerate" = some none)
    (pg_Course : PySem.W.plainGet K C_Course Str.empty = true)
    (hd_Course : PySem.W.hasDictIn K C_Course = true)
    (po_Course : PySem.W.plainOver K C_Course = true)
    (sa_Course : PySem.W.findIn K (.ref C_Course) "__setattr__" = some (some (.builtin "object.__setattr__")))
    (mk_Course : PySem.W.makesIn K C_Course = true)
    (kp_Course : PySem.W.keepIn K (.ref C_Course) = true)
    (n_Course_goings : PySem.W.findIn K (.ref C_Course) "goings" = some none)
    (n_Course_share : PySem.W.findIn K (.ref C_Course) "share" = some none)
    (n_Course_now : PySem.W.findIn K (.ref C_Course) "now" = some none)
    (n_Course_gone_through : PySem.W.findIn K (.ref C_Course) "gone_through" = some none)
    (n_Course_joints : PySem.W.findIn K (.ref C_Course) "joints" = some none)
    (n_Course_coming : PySem.W.findIn K (.ref C_Course) "coming" = some none)
    (i_LONG_BITS : PySem.W.nsIn K mainGlobals "LONG_BITS" = some (some (.int 4000 tk_LONG_BITS)))
    (c_NOUGHT : PySem.W.nsIn K mainGlobals "NOUGHT" = some (some (.ref A_NOUGHT)))
    (z_NOUGHT : K.lookup A_NOUGHT = some ⟨.type "tuple", oG_NOUGHT, .seq #[.int 0 k1_NOUGHT, .int 1 k2_NOUGHT] nG_NOUGHT, slG_NOUGHT⟩)
    (c_ALL : PySem.W.nsIn K mainGlobals "ALL" = some (some (.ref A_ALL)))
    (z_ALL : K.lookup A_ALL = some ⟨.type "tuple", oG_ALL, .seq #[.int 1 k1_ALL, .int 1 k2_ALL] nG_ALL, slG_ALL⟩)
    (i_MOST_MOMENTS : PySem.W.nsIn K mainGlobals "MOST_MOMENTS" = some (some (.int 40 tk_MOST_MOMENTS)))
    (a0 : PySem.W.nsIn K mainGlobals "is_whole" = some (some (.ref f0)))
    (l0 : K.lookup f0 = some ⟨oc0, od0, .func (PySem.W.fnOf "is_whole" "is_whole" (defArgs (top 10)) (defBody (top 10)) (defScope (top 10)) .none kV0 dc0 pm0 an0 cd0 ct0), sl0⟩)
    (q0 : PySem.W.codeIn K cd0 "is_whole" = true)
    (k0 : PySem.W.keepIn K (.ref f0) = true)
    (a1 : PySem.W.nsIn K mainGlobals "common_divisor" = some (some (.ref f1)))
    (l1 : K.lookup f1 = some ⟨oc1, od1, .func (PySem.W.fnOf "common_divisor" "common_divisor" (defArgs (top 12)) (defBody (top 12)) (defScope (top 12)) .none kV1 dc1 pm1 an1 cd1 ct1), sl1⟩)
    (q1 : PySem.W.codeIn K cd1 "common_divisor" = true)
    (k1 : PySem.W.keepIn K (.ref f1) = true)
    (a2 : PySem.W.nsIn K mainGlobals "fraction" = some (some (.ref f2)))
    (l2 : K.lookup f2 = some ⟨oc2, od2, .func (PySem.W.fnOf "fraction" "fraction" (defArgs (top 14)) (defBody (top 14)) (defScope (top 14)) (.ref d2) kV2 dc2 pm2 an2 cd2 ct2), sl2⟩)
    (q2 : PySem.W.codeIn K cd2 "fraction" = true)
    (k2 : PySem.W.keepIn K (.ref f2) = true)
    (g2 : K.lookup d2 = some ⟨cD2, oD2, .seq #[.int 1 tD2] nD2, slD2⟩)
    (a3 : PySem.W.nsIn K mainGlobals "plus" = some (some (.ref f3)))
    (l3 : K.lookup f3 = some ⟨oc3, od3, .func (PySem.W.fnOf "plus" "plus" (defArgs (top 15)) (defBody (top 15)) (defScope (top 15)) .none kV3 dc3 pm3 an3 cd3 ct3), sl3⟩)
    (q3 : PySem.W.codeIn K cd3 "plus" = true)
    (k3 : PySem.W.keepIn K (.ref f3) = true)
    (a4 : PySem.W.nsIn K mainGlobals "minus" = some (some (.ref f4)))
    (l4 : K.lookup f4 = some ⟨oc4, od4, .func (PySem.W.fnOf "minus" "minus" (defArgs (top 16)) (defBody (top 16)) (defScope (top 16)) .none kV4 dc4 pm4 an4 cd4 ct4), sl4⟩)
    (q4 : PySem.W.codeIn K cd4 "minus" = true)
    (k4 : PySem.W.keepIn K (.ref f4) = true)
    (a5 : PySem.W.nsIn K mainGlobals "times" = some (some (.ref f5)))
    (l5 : K.lookup f5 = some ⟨oc5, od5, .func (PySem.W.fnOf "times" "times" (defArgs (top 17)) (defBody (top 17)) (defScope (top 17)) .none kV5 dc5 pm5 an5 cd5 ct5), sl5⟩)
    (q5 : PySem.W.codeIn K cd5 "times" = true)
    (k5 : PySem.W.keepIn K (.ref f5) = true)
    (a6 : PySem.W.nsIn K mainGlobals "over" = some (some (.ref f6)))
    (l6 : K.lookup f6 = some ⟨oc6, od6, .func (PySem.W.fnOf "over" "over" (defArgs (top 18)) (defBody (top 18)) (defScope (top 18)) .none kV6 dc6 pm6 an6 cd6 ct6), sl6⟩)
    (q6 : PySem.W.codeIn K cd6 "over" = true)
    (k6 : PySem.W.keepIn K (.ref f6) = true)
    (a7 : PySem.W.nsIn K mainGlobals "under" = some (some (.ref f7)))
    (l7 : K.lookup f7 = some ⟨oc7, od7, .func (PySem.W.fnOf "under" "under" (defArgs (top 19)) (defBody (top 19)) (defScope (top 19)) .none kV7 dc7 pm7 an7 cd7 ct7), sl7⟩)
    (q7 : PySem.W.codeIn K cd7 "under" = true)
    (k7 : PySem.W.keepIn K (.ref f7) = true)
    (a8 : PySem.W.nsIn K mainGlobals "joint_moment" = some (some (.ref f8)))
    (l8 : K.lookup f8 = some ⟨oc8, od8, .func (PySem.W.fnOf "joint_moment" "joint_moment" (defArgs (top 26)) (defBody (top 26)) (defScope (top 26)) .none kV8 dc8 pm8 an8 cd8 ct8), sl8⟩)
    (q8 : PySem.W.codeIn K cd8 "joint_moment" = true)
    (k8 : PySem.W.keepIn K (.ref f8) = true)
    (a9 : PySem.W.nsIn K mainGlobals "least" = some (some (.ref f9)))
    (l9 : K.lookup f9 = some ⟨oc9, od9, .func (PySem.W.fnOf "least" "least" (defArgs (top 30)) (defBody (top 30)) (defScope (top 30)) .none kV9 dc9 pm9 an9 cd9 ct9), sl9⟩)
    (q9 : PySem.W.codeIn K cd9 "least" = true)
    (k9 : PySem.W.keepIn K (.ref f9) = true)
    (a10 : PySem.W.findIn K (.ref C_Course) "look_ahead" = some (some (.ref f10)))
    (t10 : PySem.W.isFn K (.ref f10) = true)
    (l10 : K.lookup f10 = some ⟨oc10, od10, .func (PySem.W.fnOf "look_ahead" "Course.look_ahead" (defArgs (mthAt (top 31) 1)) (defBody (mthAt (top 31) 1)) (defScope (mthAt (top 31) 1)) .none kV10 dc10 pm10 an10 cd10 ct10), sl10⟩)
    (q10 : PySem.W.codeIn K cd10 "Course.look_ahead" = true)
    (k10 : PySem.W.keepIn K (.ref f10) = true)
    (a11 : PySem.W.findIn K (.ref C_Course) "__init__" = some (some (.ref f11)))
    (t11 : PySem.W.isFn K (.ref f11) = true)
    (l11 : K.lookup f11 = some ⟨oc11, od11, .func (PySem.W.fnOf "__init__" "Course.__init__" (defArgs (mthAt (top 31) 0)) (defBody (mthAt (top 31) 0)) (defScope (mthAt (top 31) 0)) .none kV11 dc11 pm11 an11 cd11 ct11), sl11⟩)
    (q11 : PySem.W.codeIn K cd11 "Course.__init__" = true)
    (k11 : PySem.W.keepIn K (.ref f11) = true)
    (a12 : PySem.W.nsIn K mainGlobals "place_at" = some (some (.ref f12)))
    (l12 : K.lookup f12 = some ⟨oc12, od12, .func (PySem.W.fnOf "place_at" "place_at" (defArgs (top 25)) (defBody (top 25)) (defScope (top 25)) .none kV12 dc12 pm12 an12 cd12 ct12), sl12⟩)
    (q12 : PySem.W.codeIn K cd12 "place_at" = true)
    (k12 : PySem.W.keepIn K (.ref f12) = true)
    (a13 : PySem.W.findIn K (.ref C_Course) "lefts" = some (some (.ref f13)))
    (t13 : PySem.W.isFn K (.ref f13) = true)
    (l13 : K.lookup f13 = some ⟨oc13, od13, .func (PySem.W.fnOf "lefts" "Course.lefts" (defArgs (mthAt (top 31) 4)) (defBody (mthAt (top 31) 4)) (defScope (mthAt (top 31) 4)) .none kV13 dc13 pm13 an13 cd13 ct13), sl13⟩)
    (q13 : PySem.W.codeIn K cd13 "Course.lefts" = true)
    (k13 : PySem.W.keepIn K (.ref f13) = true)
    (a14 : PySem.W.findIn K (.ref C_Course) "meetings" = some (some (.ref f14)))
    (t14 : PySem.W.isFn K (.ref f14) = true)
    (l14 : K.lookup f14 = some ⟨oc14, od14, .func (PySem.W.fnOf "meetings" "Course.meetings" (defArgs (mthAt (top 31) 5)) (defBody (mthAt (top 31) 5)) (defScope (mthAt (top 31) 5)) .none kV14 dc14 pm14 an14 cd14 ct14), sl14⟩)
    (q14 : PySem.W.codeIn K cd14 "Course.meetings" = true)
    (k14 : PySem.W.keepIn K (.ref f14) = true)
    (a15 : PySem.W.nsIn K mainGlobals "go_alike" = some (some (.ref f15)))
    (l15 : K.lookup f15 = some ⟨oc15, od15, .func (PySem.W.fnOf "go_alike" "go_alike" (defArgs (top 29)) (defBody (top 29)) (defScope (top 29)) .none kV15 dc15 pm15 an15 cd15 ct15), sl15⟩)
    (q15 : PySem.W.codeIn K cd15 "go_alike" = true)
    (k15 : PySem.W.keepIn K (.ref f15) = true)
    (a16 : PySem.W.findIn K (.ref C_Course) "are_together" = some (some (.ref f16)))
    (t16 : PySem.W.isFn K (.ref f16) = true)
    (l16 : K.lookup f16 = some ⟨oc16, od16, .func (PySem.W.fnOf "are_together" "Course.are_together" (defArgs (mthAt (top 31) 6)) (defBody (mthAt (top 31) 6)) (defScope (mthAt (top 31) 6)) .none kV16 dc16 pm16 an16 cd16 ct16), sl16⟩)
    (q16 : PySem.W.codeIn K cd16 "Course.are_together" = true)
    (k16 : PySem.W.keepIn K (.ref f16) = true)
    (a17 : PySem.W.findIn K (.ref C_Course) "gathered" = some (some (.ref f17)))
    (t17 : PySem.W.isFn K (.ref f17) = true)
    (l17 : K.lookup f17 = some ⟨oc17, od17, .func (PySem.W.fnOf "gathered" "Course.gathered" (defArgs (mthAt (top 31) 7)) (defBody (mthAt (top 31) 7)) (defScope (mthAt (top 31) 7)) .none kV17 dc17 pm17 an17 cd17 ct17), sl17⟩)
    (q17 : PySem.W.codeIn K cd17 "Course.gathered" = true)
    (k17 : PySem.W.keepIn K (.ref f17) = true)
    (a18 : PySem.W.findIn K (.ref C_Course) "crowd" = some (some (.ref f18)))
    (t18 : PySem.W.isFn K (.ref f18) = true)
    (l18 : K.lookup f18 = some ⟨oc18, od18, .func (PySem.W.fnOf "crowd" "Course.crowd" (defArgs (mthAt (top 31) 8)) (defBody (mthAt (top 31) 8)) (defScope (mthAt (top 31) 8)) .none kV18 dc18 pm18 an18 cd18 ct18), sl18⟩)
    (q18 : PySem.W.codeIn K cd18 "Course.crowd" = true)
    (k18 : PySem.W.keepIn K (.ref f18) = true)
    (a19 : PySem.W.findIn K (.ref C_Course) "is_crowded" = some (some (.ref f19)))
    (t19 : PySem.W.isFn K (.ref f19) = true)
    (l19 : K.lookup f19 = some ⟨oc19, od19, .func (PySem.W.fnOf "is_crowded" "Course.is_crowded" (defArgs (mthAt (top 31) 9)) (defBody (mthAt (top 31) 9)) (defScope (mthAt (top 31) 9)) .none kV19 dc19 pm19 an19 cd19 ct19), sl19⟩)
    (q19 : PySem.W.codeIn K cd19 "Course.is_crowded" = true)
    (k19 : PySem.W.keepIn K (.ref f19) = true)
    (a20 : PySem.W.nsIn K mainGlobals "mixed" = some (some (.ref f20)))
    (l20 : K.lookup f20 = some ⟨oc20, od20, .func (PySem.W.fnOf "mixed" "mixed" (defArgs (top 27)) (defBody (top 27)) (defScope (top 27)) .none kV20 dc20 pm20 an20 cd20 ct20), sl20⟩)
    (q20 : PySem.W.codeIn K cd20 "mixed" = true)
    (k20 : PySem.W.keepIn K (.ref f20) = true)
    (a21 : PySem.W.nsIn K mainGlobals "behind" = some (some (.ref f21)))
    (l21 : K.lookup f21 = some ⟨oc21, od21, .func (PySem.W.fnOf "behind" "behind" (defArgs (top 28)) (defBody (top 28)) (defScope (top 28)) .none kV21 dc21 pm21 an21 cd21 ct21), sl21⟩)
    (q21 : PySem.W.codeIn K cd21 "behind" = true)
    (k21 : PySem.W.keepIn K (.ref f21) = true)
    (a22 : PySem.W.findIn K (.ref C_Course) "part" = some (some (.ref f22)))
    (t22 : PySem.W.isFn K (.ref f22) = true)
    (l22 : K.lookup f22 = some ⟨oc22, od22, .func (PySem.W.fnOf "part" "Course.part" (defArgs (mthAt (top 31) 12)) (defBody (mthAt (top 31) 12)) (defScope (mthAt (top 31) 12)) .none kV22 dc22 pm22 an22 cd22 ct22), sl22⟩)
    (q22 : PySem.W.codeIn K cd22 "Course.part" = true)
    (k22 : PySem.W.keepIn K (.ref f22) = true)
    (a23 : PySem.W.findIn K (.ref C_Course) "go_on" = some (some (.ref f23)))
    (t23 : PySem.W.isFn K (.ref f23) = true)
    (l23 : K.lookup f23 = some ⟨oc23, od23, .func (PySem.W.fnOf "go_on" "Course.go_on" (defArgs (mthAt (top 31) 11)) (defBody (mthAt (top 31) 11)) (defScope (mthAt (top 31) 11)) .none kV23 dc23 pm23 an23 cd23 ct23), sl23⟩)
    (q23 : PySem.W.codeIn K cd23 "Course.go_on" = true)
    (k23 : PySem.W.keepIn K (.ref f23) = true)
    (a24 : PySem.W.nsIn K mainGlobals "_law_cell" = some (some (.ref f24)))
    (l24 : K.lookup f24 = some ⟨oc24, od24, .func (PySem.W.fnOf "_law_cell" "_law_cell" (defArgs (top 40)) (defBody (top 40)) (defScope (top 40)) .none kV24 dc24 pm24 an24 cd24 ct24), sl24⟩)
    (q24 : PySem.W.codeIn K cd24 "_law_cell" = true)
    (k24 : PySem.W.keepIn K (.ref f24) = true)
    (a25 : PySem.W.nsIn K mainGlobals "_law_mix" = some (some (.ref f25)))
    (l25 : K.lookup f25 = some ⟨oc25, od25, .func (PySem.W.fnOf "_law_mix" "_law_mix" (defArgs (top 41)) (defBody (top 41)) (defScope (top 41)) .none kV25 dc25 pm25 an25 cd25 ct25), sl25⟩)
    (q25 : PySem.W.codeIn K cd25 "_law_mix" = true)
    (k25 : PySem.W.keepIn K (.ref f25) = true)
    (a26 : PySem.W.nsIn K mainGlobals "_law_box" = some (some (.ref f26)))
    (l26 : K.lookup f26 = some ⟨oc26, od26, .func (PySem.W.fnOf "_law_box" "_law_box" (defArgs (top 42)) (defBody (top 42)) (defScope (top 42)) .none kV26 dc26 pm26 an26 cd26 ct26), sl26⟩)
    (q26 : PySem.W.codeIn K cd26 "_law_box" = true)
    (k26 : PySem.W.keepIn K (.ref f26) = true)
    (a27 : PySem.W.nsIn K mainGlobals "_law_take" = some (some (.ref f27)))
    (l27 : K.lookup f27 = some ⟨oc27, od27, .func (PySem.W.fnOf "_law_take" "_law_take" (defArgs (top 43)) (defBody (top 43)) (defScope (top 43)) .none kV27 dc27 pm27 an27 cd27 ct27), sl27⟩)
    (q27 : PySem.W.codeIn K cd27 "_law_take" = true)
    (k27 : PySem.W.keepIn K (.ref f27) = true)
    (a28 : PySem.W.nsIn K mainGlobals "_law_fit" = some (some (.ref f28)))
    (l28 : K.lookup f28 = some ⟨oc28, od28, .func (PySem.W.fnOf "_law_fit" "_law_fit" (defArgs (top 44)) (defBody (top 44)) (defScope (top 44)) .none kV28 dc28 pm28 an28 cd28 ct28), sl28⟩)
    (q28 : PySem.W.codeIn K cd28 "_law_fit" = true)
    (k28 : PySem.W.keepIn K (.ref f28) = true)
    (a29 : PySem.W.nsIn K mainGlobals "_law_plus" = some (some (.ref f29)))
    (l29 : K.lookup f29 = some ⟨oc29, od29, .func (PySem.W.fnOf "_law_plus" "_law_plus" (defArgs (top 45)) (defBody (top 45)) (defScope (top 45)) .none kV29 dc29 pm29 an29 cd29 ct29), sl29⟩)
    (q29 : PySem.W.codeIn K cd29 "_law_plus" = true)
    (k29 : PySem.W.keepIn K (.ref f29) = true)
    (a30 : PySem.W.nsIn K mainGlobals "_law_minus" = some (some (.ref f30)))
    (l30 : K.lookup f30 = some ⟨oc30, od30, .func (PySem.W.fnOf "_law_minus" "_law_minus" (defArgs (top 46)) (defBody (top 46)) (defScope (top 46)) .none kV30 dc30 pm30 an30 cd30 ct30), sl30⟩)
    (q30 : PySem.W.codeIn K cd30 "_law_minus" = true)
    (k30 : PySem.W.keepIn K (.ref f30) = true)
    (a31 : PySem.W.nsIn K mainGlobals "_law_times" = some (some (.ref f31)))
    (l31 : K.lookup f31 = some ⟨oc31, od31, .func (PySem.W.fnOf "_law_times" "_law_times" (defArgs (top 47)) (defBody (top 47)) (defScope (top 47)) .none kV31 dc31 pm31 an31 cd31 ct31), sl31⟩)
    (q31 : PySem.W.codeIn K cd31 "_law_times" = true)
    (k31 : PySem.W.keepIn K (.ref f31) = true)
    (a32 : PySem.W.nsIn K mainGlobals "_law_over" = some (some (.ref f32)))
    (l32 : K.lookup f32 = some ⟨oc32, od32, .func (PySem.W.fnOf "_law_over" "_law_over" (defArgs (top 48)) (defBody (top 48)) (defScope (top 48)) .none kV32 dc32 pm32 an32 cd32 ct32), sl32⟩)
    (q32 : PySem.W.codeIn K cd32 "_law_over" = true)
    (k32 : PySem.W.keepIn K (.ref f32) = true)
    (a33 : PySem.W.nsIn K mainGlobals "_law_less" = some (some (.ref f33)))
    (l33 : K.lookup f33 = some ⟨oc33, od33, .func (PySem.W.fnOf "_law_less" "_law_less" (defArgs (top 49)) (defBody (top 49)) (defScope (top 49)) .none kV33 dc33 pm33 an33 cd33 ct33), sl33⟩)
    (q33 : PySem.W.codeIn K cd33 "_law_less" = true)
    (k33 : PySem.W.keepIn K (.ref f33) = true)
    (a34 : PySem.W.nsIn K mainGlobals "_law_small" = some (some (.ref f34)))
    (l34 : K.lookup f34 = some ⟨oc34, od34, .func (PySem.W.fnOf "_law_small" "_law_small" (defArgs (top 50)) (defBody (top 50)) (defScope (top 50)) .none kV34 dc34 pm34 an34 cd34 ct34), sl34⟩)
    (q34 : PySem.W.codeIn K cd34 "_law_small" = true)
    (k34 : PySem.W.keepIn K (.ref f34) = true)
    (a35 : PySem.W.nsIn K mainGlobals "_law_led_together" = some (some (.ref f35)))
    (l35 : K.lookup f35 = some ⟨oc35, od35, .func (PySem.W.fnOf "_law_led_together" "_law_led_together" (defArgs (top 52)) (defBody (top 52)) (defScope (top 52)) .none kV35 dc35 pm35 an35 cd35 ct35), sl35⟩)
    (q35 : PySem.W.codeIn K cd35 "_law_led_together" = true)
    (k35 : PySem.W.keepIn K (.ref f35) = true)
    (a36 : PySem.W.nsIn K mainGlobals "_law_world" = some (some (.ref f36)))
    (l36 : K.lookup f36 = some ⟨oc36, od36, .func (PySem.W.fnOf "_law_world" "_law_world" (defArgs (top 51)) (defBody (top 51)) (defScope (top 51)) .none kV36 dc36 pm36 an36 cd36 ct36), sl36⟩)
    (q36 : PySem.W.codeIn K cd36 "_law_world" = true)
    (k36 : PySem.W.keepIn K (.ref f36) = true)
    (a37 : PySem.W.nsIn K mainGlobals "_law_ahead" = some (some (.ref f37)))
    (l37 : K.lookup f37 = some ⟨oc37, od37, .func (PySem.W.fnOf "_law_ahead" "_law_ahead" (defArgs (top 53)) (defBody (top 53)) (defScope (top 53)) .none kV37 dc37 pm37 an37 cd37 ct37), sl37⟩)
    (q37 : PySem.W.codeIn K cd37 "_law_ahead" = true)
    (k37 : PySem.W.keepIn K (.ref f37) = true)
    (a38 : PySem.W.nsIn K mainGlobals "_law_gone" = some (some (.ref f38)))
    (l38 : K.lookup f38 = some ⟨oc38, od38, .func (PySem.W.fnOf "_law_gone" "_law_gone" (defArgs (top 54)) (defBody (top 54)) (defScope (top 54)) .none kV38 dc38 pm38 an38 cd38 ct38), sl38⟩)
    (q38 : PySem.W.codeIn K cd38 "_law_gone" = true)
    (k38 : PySem.W.keepIn K (.ref f38) = true)
    (a39 : PySem.W.nsIn K mainGlobals "_law_parted" = some (some (.ref f39)))
    (l39 : K.lookup f39 = some ⟨oc39, od39, .func (PySem.W.fnOf "_law_parted" "_law_parted" (defArgs (top 55)) (defBody (top 55)) (defScope (top 55)) .none kV39 dc39 pm39 an39 cd39 ct39), sl39⟩)
    (q39 : PySem.W.codeIn K cd39 "_law_parted" = true)
    (k39 : PySem.W.keepIn K (.ref f39) = true)
    (a40 : PySem.W.nsIn K mainGlobals "_law_step" = some (some (.ref f40)))
    (l40 : K.lookup f40 = some ⟨oc40, od40, .func (PySem.W.fnOf "_law_step" "_law_step" (defArgs (top 56)) (defBody (top 56)) (defScope (top 56)) .none kV40 dc40 pm40 an40 cd40 ct40), sl40⟩)
    (q40 : PySem.W.codeIn K cd40 "_law_step" = true)
    (k40 : PySem.W.keepIn K (.ref f40) = true)
    (a41 : PySem.W.nsIn K mainGlobals "_law_run" = some (some (.ref f41)))
    (l41 : K.lookup f41 = some ⟨oc41, od41, .func (PySem.W.fnOf "_law_run" "_law_run" (defArgs (top 57)) (defBody (top 57)) (defScope (top 57)) .none kV41 dc41 pm41 an41 cd41 ct41), sl41⟩)
    (q41 : PySem.W.codeIn K cd41 "_law_run" = true)
    (k41 : PySem.W.keepIn K (.ref f41) = true)
    (a42 : PySem.W.nsIn K mainGlobals "_law_is_long" = some (some (.ref f42)))
    (l42 : K.lookup f42 = some ⟨oc42, od42, .func (PySem.W.fnOf "_law_is_long" "_law_is_long" (defArgs (top 64)) (defBody (top 64)) (defScope (top 64)) .none kV42 dc42 pm42 an42 cd42 ct42), sl42⟩)
    (q42 : PySem.W.codeIn K cd42 "_law_is_long" = true)
    (k42 : PySem.W.keepIn K (.ref f42) = true)
    (a43 : PySem.W.nsIn K mainGlobals "_law_crowd_moment" = some (some (.ref f43)))
    (l43 : K.lookup f43 = some ⟨oc43, od43, .func (PySem.W.fnOf "_law_crowd_moment" "_law_crowd_moment" (defArgs (top 63)) (defBody (top 63)) (defScope (top 63)) .none kV43 dc43 pm43 an43 cd43 ct43), sl43⟩)
    (q43 : PySem.W.codeIn K cd43 "_law_crowd_moment" = true)
    (k43 : PySem.W.keepIn K (.ref f43) = true)
    (a44 : PySem.W.nsIn K mainGlobals "_law_crowded" = some (some (.ref f44)))
    (l44 : K.lookup f44 = some ⟨oc44, od44, .func (PySem.W.fnOf "_law_crowded" "_law_crowded" (defArgs (top 62)) (defBody (top 62)) (defScope (top 62)) .none kV44 dc44 pm44 an44 cd44 ct44), sl44⟩)
    (q44 : PySem.W.codeIn K cd44 "_law_crowded" = true)
    (k44 : PySem.W.keepIn K (.ref f44) = true)
    (a45 : PySem.W.findIn K (.ref C_Course) "comes_up_to" = some (some (.ref f45)))
    (t45 : PySem.W.isFn K (.ref f45) = true)
    (l45 : K.lookup f45 = some ⟨oc45, od45, .func (PySem.W.fnOf "comes_up_to" "Course.comes_up_to" (defArgs (mthAt (top 31) 3)) (defBody (mthAt (top 31) 3)) (defScope (mthAt (top 31) 3)) .none kV45 dc45 pm45 an45 cd45 ct45), sl45⟩)
    (q45 : PySem.W.codeIn K cd45 "Course.comes_up_to" = true)
    (k45 : PySem.W.keepIn K (.ref f45) = true)
    (a46 : PySem.W.nsIn K mainGlobals "refuse_below_nought" = some (some (.ref f46)))
    (l46 : K.lookup f46 = some ⟨oc46, od46, .func (PySem.W.fnOf "refuse_below_nought" "refuse_below_nought" (defArgs (top 24)) (defBody (top 24)) (defScope (top 24)) .none kV46 dc46 pm46 an46 cd46 ct46), sl46⟩)
    (q46 : PySem.W.codeIn K cd46 "refuse_below_nought" = true)
    (k46 : PySem.W.keepIn K (.ref f46) = true)
    (a47 : PySem.W.nsIn K mainGlobals "is_fraction" = some (some (.ref f47)))
    (l47 : K.lookup f47 = some ⟨oc47, od47, .func (PySem.W.fnOf "is_fraction" "is_fraction" (defArgs (top 13)) (defBody (top 13)) (defScope (top 13)) .none kV47 dc47 pm47 an47 cd47 ct47), sl47⟩)
    (q47 : PySem.W.codeIn K cd47 "is_fraction" = true)
    (k47 : PySem.W.keepIn K (.ref f47) = true)
    (a48 : PySem.W.nsIn K mainGlobals "has_form" = some (some (.ref f48)))
    (l48 : K.lookup f48 = some ⟨oc48, od48, .func (PySem.W.fnOf "has_form" "has_form" (defArgs (top 33)) (defBody (top 33)) (defScope (top 33)) .none kV48 dc48 pm48 an48 cd48 ct48), sl48⟩)
    (q48 : PySem.W.codeIn K cd48 "has_form" = true)
    (k48 : PySem.W.keepIn K (.ref f48) = true)
    (a49 : PySem.W.nsIn K mainGlobals "wrong_word" = some (some (.ref f49)))
    (l49 : K.lookup f49 = some ⟨oc49, od49, .func (PySem.W.fnOf "wrong_word" "wrong_word" (defArgs (top 34)) (defBody (top 34)) (defScope (top 34)) .none kV49 dc49 pm49 an49 cd49 ct49), sl49⟩)
    (q49 : PySem.W.codeIn K cd49 "wrong_word" = true)
    (k49 : PySem.W.keepIn K (.ref f49) = true)
    (a50 : PySem.W.nsIn K mainGlobals "look_along" = some (some (.ref f50)))
    (l50 : K.lookup f50 = some ⟨oc50, od50, .func (PySem.W.fnOf "look_along" "look_along" (defArgs (top 35)) (defBody (top 35)) (defScope (top 35)) .none kV50 dc50 pm50 an50 cd50 ct50), sl50⟩)
    (q50 : PySem.W.codeIn K cd50 "look_along" = true)
    (k50 : PySem.W.keepIn K (.ref f50) = true)
    (a51 : PySem.W.nsIn K mainGlobals "refuse_paper" = some (some (.ref f51)))
    (l51 : K.lookup f51 = some ⟨oc51, od51, .func (PySem.W.fnOf "refuse_paper" "refuse_paper" (defArgs (top 36)) (defBody (top 36)) (defScope (top 36)) .none kV51 dc51 pm51 an51 cd51 ct51), sl51⟩)
    (q51 : PySem.W.codeIn K cd51 "refuse_paper" = true)
    (k51 : PySem.W.keepIn K (.ref f51) = true)
    (a52 : PySem.W.nsIn K mainGlobals "first_wrong" = some (some (.ref f52)))
    (l52 : K.lookup f52 = some ⟨oc52, od52, .func (PySem.W.fnOf "first_wrong" "first_wrong" (defArgs (top 37)) (defBody (top 37)) (defScope (top 37)) .none kV52 dc52 pm52 an52 cd52 ct52), sl52⟩)
    (q52 : PySem.W.codeIn K cd52 "first_wrong" = true)
    (k52 : PySem.W.keepIn K (.ref f52) = true)
    (a53 : PySem.W.nsIn K mainGlobals "is_run" = some (some (.ref f53)))
    (l53 : K.lookup f53 = some ⟨oc53, od53, .func (PySem.W.fnOf "is_run" "is_run" (defArgs (top 38)) (defBody (top 38)) (defScope (top 38)) .none kV53 dc53 pm53 an53 cd53 ct53), sl53⟩)
    (q53 : PySem.W.codeIn K cd53 "is_run" = true)
    (k53 : PySem.W.keepIn K (.ref f53) = true)
    (a54 : PySem.W.nsIn K mainGlobals "_law_whole" = some (some (.ref f54)))
    (l54 : K.lookup f54 = some ⟨oc54, od54, .func (PySem.W.fnOf "_law_whole" "_law_whole" (defArgs (top 58)) (defBody (top 58)) (defScope (top 58)) .none kV54 dc54 pm54 an54 cd54 ct54), sl54⟩)
    (q54 : PySem.W.codeIn K cd54 "_law_whole" = true)
    (k54 : PySem.W.keepIn K (.ref f54) = true)
    (a55 : PySem.W.nsIn K mainGlobals "_law_is_fraction" = some (some (.ref f55)))
    (l55 : K.lookup f55 = some ⟨oc55, od55, .func (PySem.W.fnOf "_law_is_fraction" "_law_is_fraction" (defArgs (top 59)) (defBody (top 59)) (defScope (top 59)) .none kV55 dc55 pm55 an55 cd55 ct55), sl55⟩)
    (q55 : PySem.W.codeIn K cd55 "_law_is_fraction" = true)
    (k55 : PySem.W.keepIn K (.ref f55) = true)
    (a56 : PySem.W.nsIn K mainGlobals "_law_word" = some (some (.ref f56)))
    (l56 : K.lookup f56 = some ⟨oc56, od56, .func (PySem.W.fnOf "_law_word" "_law_word" (defArgs (top 60)) (defBody (top 60)) (defScope (top 60)) .none kV56 dc56 pm56 an56 cd56 ct56), sl56⟩)
    (q56 : PySem.W.codeIn K cd56 "_law_word" = true)
    (k56 : PySem.W.keepIn K (.ref f56) = true)
    (a57 : PySem.W.nsIn K mainGlobals "_law_wrong" = some (some (.ref f57)))
    (l57 : K.lookup f57 = some ⟨oc57, od57, .func (PySem.W.fnOf "_law_wrong" "_law_wrong" (defArgs (top 61)) (defBody (top 61)) (defScope (top 61)) .none kV57 dc57 pm57 an57 cd57 ct57), sl57⟩)
    (q57 : PySem.W.codeIn K cd57 "_law_wrong" = true)
    (k57 : PySem.W.keepIn K (.ref f57) = true)
    (a58 : PySem.W.nsIn K mainGlobals "law" = some (some (.ref f58)))
    (l58 : K.lookup f58 = some ⟨oc58, od58, .func (PySem.W.fnOf "law" "law" (defArgs (top 65)) (defBody (top 65)) (defScope (top 65)) .none kV58 dc58 pm58 an58 cd58 ct58), sl58⟩)
    (q58 : PySem.W.codeIn K cd58 "law" = true)
    (k58 : PySem.W.keepIn K (.ref f58) = true) :
    ∃ fa, mg "law" = some (.ref fa) ∧ ∃ fd : FuncData, (∀ (s : Shared) (u : Value), BindsTo s fd ⟨[u], []⟩ [("script", u)]) ∧ ∀ base : Heap, K.In base → base.Ns mainGlobals mg → FnOk P w K mg base (CXE P w) 10 fa fd ["script"] (spLaw K) := by
  have T : Tx K mg (clsAt [C_Course]) := ⟨PySem.W.mg_none_of X G b_isinstance, PySem.W.mg_none_of X G b_int, PySem.W.mg_none_of X G b_bool, PySem.W.mg_none_of X G b_tuple, PySem.W.mg_none_of X G b_list, PySem.W.mg_none_of X G b_abs, PySem.W.mg_none_of X G b_len, PySem.W.mg_none_of X G b_divmod, PySem.W.mg_none_of X G b_range, PySem.W.mg_none_of X G b_max, PySem.W.mg_none_of X G b_min, PySem.W.mg_none_of X G b_enumerate, PySem.W.mg_of X G c_Course, ⟨pg_Course, hd_Course, po_Course, sa_Course⟩, mk_Course, kp_Course, n_Course_goings, n_Course_share, n_Course_now, n_Course_gone_through, n_Course_joints, n_Course_coming, ⟨_, PySem.W.mg_of X G i_LONG_BITS⟩, ⟨_, PySem.W.mg_of X G c_NOUGHT, sqt_const z_NOUGHT⟩, ⟨_, PySem.W.mg_of X G c_ALL, sqt_const z_ALL⟩, ⟨_, PySem.W.mg_of X G i_MOST_MOMENTS⟩⟩
  have D0 := df_mk (ps := ["thing"]) X G a0 l0 q0 k0 (len1 fun _ => rfl)
  have D1 := df_mk (ps := ["one", "other"]) X G a1 l1 q1 k1 (len2 fun _ _ => rfl)
  have D2 := df_mkD (ps := ["top", "bottom"]) X G a2 l2 q2 k2 g2 (len2 fun _ _ => ⟨_, rfl, rfl⟩)
  have D3 := df_mk (ps := ["one", "other"]) X G a3 l3 q3 k3 (len2 fun _ _ => rfl)
  have D4 := df_mk (ps := ["one", "other"]) X G a4 l4 q4 k4 (len2 fun _ _ => rfl)
  have D5 := df_mk (ps := ["one", "other"]) X G a5 l5 q5 k5 (len2 fun _ _ => rfl)
  have D6 := df_mk (ps := ["one", "other"]) X G a6 l6 q6 k6 (len2 fun _ _ => rfl)
  have D7 := df_mk (ps := ["one", "other"]) X G a7 l7 q7 k7 (len2 fun _ _ => rfl)
  have D8 := df_mk (ps := ["one", "other"]) X G a8 l8 q8 k8 (len2 fun _ _ => rfl)
  have D9 := df_mk (ps := ["moments"]) X G a9 l9 q9 k9 (len1 fun _ => rfl)
  have D10 := dfm_mk (ps := ["self"]) a10 t10 l10 q10 k10 (len1 fun _ => rfl)
  have D11 := dfm_mk (ps := ["self", "world", "share"]) a11 t11 l11 q11 k11 (len3 fun _ _ _ => rfl)
  have D12 := df_mk (ps := ["body", "moment"]) X G a12 l12 q12 k12 (len2 fun _ _ => rfl)
  have D13 := dfm_mk (ps := ["self"]) a13 t13 l13 q13 k13 (len1 fun _ => rfl)
  have D14 := dfm_mk (ps := ["self"]) a14 t14 l14 q14 k14 (len1 fun _ => rfl)
  have D15 := df_mk (ps := ["one", "other"]) X G a15 l15 q15 k15 (len2 fun _ _ => rfl)
  have D16 := dfm_mk (ps := ["self", "left"]) a16 t16 l16 q16 k16 (len2 fun _ _ => rfl)
  have D17 := dfm_mk (ps := ["self", "left"]) a17 t17 l17 q17 k17 (len2 fun _ _ => rfl)
  have D18 := dfm_mk (ps := ["self"]) a18 t18 l18 q18 k18 (len1 fun _ => rfl)
  have D19 := dfm_mk (ps := ["self"]) a19 t19 l19 q19 k19 (len1 fun _ => rfl)
  have D20 := df_mk (ps := ["own", "far", "weight", "mass", "share"]) X G a20 l20 q20 k20 (len5 fun _ _ _ _ _ => rfl)
  have D21 := df_mk (ps := ["one", "other", "share"]) X G a21 l21 q21 k21 (len3 fun _ _ _ => rfl)
  have D22 := dfm_mk (ps := ["self", "left"]) a22 t22 l22 q22 k22 (len2 fun _ _ => rfl)
  have D23 := dfm_mk (ps := ["self"]) a23 t23 l23 q23 k23 (len1 fun _ => rfl)
  have D24 := df_mk (ps := ["script", "k"]) X G a24 l24 q24 k24 (len2 fun _ _ => rfl)
  have D25 := df_mk (ps := ["cell", "k"]) X G a25 l25 q25 k25 (len2 fun _ _ => rfl)
  have D26 := df_mk (ps := ["script", "k"]) X G a26 l26 q26 k26 (len2 fun _ _ => rfl)
  have D27 := df_mk (ps := ["box", "many"]) X G a27 l27 q27 k27 (len2 fun _ _ => rfl)
  have D28 := df_mk (ps := ["top", "bottom"]) X G a28 l28 q28 k28 (len2 fun _ _ => rfl)
  have D29 := df_mk (ps := ["one", "other"]) X G a29 l29 q29 k29 (len2 fun _ _ => rfl)
  have D30 := df_mk (ps := ["one", "other"]) X G a30 l30 q30 k30 (len2 fun _ _ => rfl)
  have D31 := df_mk (ps := ["one", "other"]) X G a31 l31 q31 k31 (len2 fun _ _ => rfl)
  have D32 := df_mk (ps := ["one", "other"]) X G a32 l32 q32 k32 (len2 fun _ _ => rfl)
  have D33 := df_mk (ps := ["one", "other"]) X G a33 l33 q33 k33 (len2 fun _ _ => rfl)
  have D34 := df_mk (ps := ["box"]) X G a34 l34 q34 k34 (len1 fun _ => rfl)
  have D35 := df_mk (ps := ["box", "world"]) X G a35 l35 q35 k35 (len2 fun _ _ => rfl)
  have D36 := df_mk (ps := ["box"]) X G a36 l36 q36 k36 (len1 fun _ => rfl)
  have D37 := df_mk (ps := ["bodies"]) X G a37 l37 q37 k37 (len1 fun _ => rfl)
  have D38 := df_mk (ps := ["bodies", "time"]) X G a38 l38 q38 k38 (len2 fun _ _ => rfl)
  have D39 := df_mk (ps := ["bodies", "number"]) X G a39 l39 q39 k39 (len2 fun _ _ => rfl)
  have D40 := df_mk (ps := ["now", "bodies"]) X G a40 l40 q40 k40 (len2 fun _ _ => rfl)
  have D41 := df_mk (ps := ["world", "moment"]) X G a41 l41 q41 k41 (len2 fun _ _ => rfl)
  have D42 := df_mk (ps := ["world", "moment"]) X G a42 l42 q42 k42 (len2 fun _ _ => rfl)
  have D43 := df_mk (ps := ["world"]) X G a43 l43 q43 k43 (len1 fun _ => rfl)
  have D44 := df_mk (ps := ["box"]) X G a44 l44 q44 k44 (len1 fun _ => rfl)
  have D45 := dfm_mk (ps := ["self", "moment"]) a45 t45 l45 q45 k45 (len2 fun _ _ => rfl)
  have D46 := df_mk (ps := ["moment"]) X G a46 l46 q46 k46 (len1 fun _ => rfl)
  have D47 := df_mk (ps := ["thing"]) X G a47 l47 q47 k47 (len1 fun _ => rfl)
  have D48 := df_mk (ps := ["thing"]) X G a48 l48 q48 k48 (len1 fun _ => rfl)
  have D49 := df_mk (ps := ["run", "count", "meeting"]) X G a49 l49 q49 k49 (len3 fun _ _ _ => rfl)
  have D50 := df_mk (ps := ["course", "run", "moment"]) X G a50 l50 q50 k50 (len3 fun _ _ _ => rfl)
  have D51 := df_mk (ps := ["run", "moment"]) X G a51 l51 q51 k51 (len2 fun _ _ => rfl)
  have D52 := df_mk (ps := ["world", "run", "moment"]) X G a52 l52 q52 k52 (len3 fun _ _ _ => rfl)
  have D53 := df_mk (ps := ["world", "run", "moment"]) X G a53 l53 q53 k53 (len3 fun _ _ _ => rfl)
  have D54 := df_mk (ps := ["thing"]) X G a54 l54 q54 k54 (len1 fun _ => rfl)
  have D55 := df_mk (ps := ["thing"]) X G a55 l55 q55 k55 (len1 fun _ => rfl)
  have D56 := df_mk (ps := ["run", "k", "meeting"]) X G a56 l56 q56 k56 (len3 fun _ _ _ => rfl)
  have D57 := df_mk (ps := ["world", "run", "moment"]) X G a57 l57 q57 k57 (len3 fun _ _ _ => rfl)
  have D58 := df_mk (ps := ["script"]) X G a58 l58 q58 k58 (len1 fun _ => rfl)
  refine law_end X G a58 l58 (fun _ => rfl) fun base kb nb => ?_
  have F0 := ok_is_whole (P := P) (w := w) (base := base) D0 T
  have F1 := ok_common_divisor (P := P) (w := w) (base := base) D1 T
  have F2 := ok_fraction (P := P) (w := w) (base := base) D2 T F0 F1
  have F3 := ok_plus (P := P) (w := w) (base := base) D3 T F1
  have F4 := ok_minus (P := P) (w := w) (base := base) D4 T F3
  have F5 := ok_times (P := P) (w := w) (base := base) D5 T F1
  have F6 := ok_over (P := P) (w := w) (base := base) D6 T F5
  have F7 := ok_under (P := P) (w := w) (base := base) D7 T
  have F8 := ok_joint_moment (P := P) (w := w) (base := base) D8 T F4 F6
  have F9 := ok_least (P := P) (w := w) (base := base) D9 T F7
  have F10 := ok_Course_look_ahead (P := P) (w := w) (base := base) D10 T F9
  have F11 := ok_Course___init__ (P := P) (w := w) (base := base) D11 T F8 F10
  have F12 := ok_place_at (P := P) (w := w) (base := base) D12 T F5 F3
  have F13 := ok_Course_lefts (P := P) (w := w) (base := base) D13 T
  have F14 := ok_Course_meetings (P := P) (w := w) (base := base) D14 T F12 F13
  have F15 := ok_go_alike (P := P) (w := w) (base := base) D15 T
  have F16 := ok_Course_are_together (P := P) (w := w) (base := base) D16 T F15
  have F17 := ok_Course_gathered (P := P) (w := w) (base := base) D17 T F16
  have F18 := ok_Course_crowd (P := P) (w := w) (base := base) D18 T F13 F17
  have F19 := ok_Course_is_crowded (P := P) (w := w) (base := base) D19 T F18
  have F20 := ok_mixed (P := P) (w := w) (base := base) D20 T F2 F5 F3
  have F21 := ok_behind (P := P) (w := w) (base := base) D21 T F20
  have F22 := ok_Course_part (P := P) (w := w) (base := base) D22 T F21 F8
  have F23 := ok_Course_go_on (P := P) (w := w) (base := base) D23 T F13 F22 F10
  have F24 := ok_law_cell (P := P) (w := w) (base := base) D24 T
  have F25 := ok_law_mix (P := P) (w := w) (base := base) D25 T
  have F26 := ok_law_box (P := P) (w := w) (base := base) D26 T F24 F25
  have F27 := ok_law_take (P := P) (w := w) (base := base) D27 T
  have F28 := ok_law_fit (P := P) (w := w) (base := base) D28 T
  have F29 := ok_law_plus (P := P) (w := w) (base := base) D29 T F28
  have F30 := ok_law_minus (P := P) (w := w) (base := base) D30 T F28
  have F31 := ok_law_times (P := P) (w := w) (base := base) D31 T F28
  have F32 := ok_law_over (P := P) (w := w) (base := base) D32 T F28
  have F33 := ok_law_less (P := P) (w := w) (base := base) D33 T
  have F34 := ok_law_small (P := P) (w := w) (base := base) D34 T F27 F28
  have F35 := ok_law_led_together (P := P) (w := w) (base := base) D35 T F27 F28 F34 F29 F30 F32
  have F36 := ok_law_world (P := P) (w := w) (base := base) D36 T F27 F34 F28 F29
  have F37 := ok_law_ahead (P := P) (w := w) (base := base) D37 T F33 F30 F32
  have F38 := ok_law_gone (P := P) (w := w) (base := base) D38 T F29 F31
  have F39 := ok_law_parted (P := P) (w := w) (base := base) D39 T F29 F31 F32 F30
  have F40 := ok_law_step (P := P) (w := w) (base := base) D40 T F37 F29 F38 F39
  have F41 := ok_law_run (P := P) (w := w) (base := base) D41 T F40 F33
  have F42 := ok_law_is_long (P := P) (w := w) (base := base) D42 T F40 F33
  have F43 := ok_law_crowd_moment (P := P) (w := w) (base := base) D43 T F40
  have F44 := ok_law_crowded (P := P) (w := w) (base := base) D44 T F36 F29 F34 F27 F35
  have F45 := ok_Course_comes_up_to (P := P) (w := w) (base := base) D45 T F7
  have F46 := ok_refuse_below_nought (P := P) (w := w) (base := base) D46 T F7
  have F47 := ok_is_fraction (P := P) (w := w) (base := base) D47 T F0 F1
  have F48 := ok_has_form (P := P) (w := w) (base := base) D48 T F47 F0
  have F49 := ok_wrong_word (P := P) (w := w) (base := base) D49 T F48
  have F50 := ok_look_along (P := P) (w := w) (base := base) D50 T F45 F19 F14 F49 F23
  have F51 := ok_refuse_paper (P := P) (w := w) (base := base) D51 T F46
  have F52 := ok_first_wrong (P := P) (w := w) (base := base) D52 T F51 F11 F50
  have F53 := ok_is_run (P := P) (w := w) (base := base) D53 T F52
  have F54 := ok_law_whole (P := P) (w := w) (base := base) D54 T
  have F55 := ok_law_is_fraction (P := P) (w := w) (base := base) D55 T F54 F28
  have F56 := ok_law_word (P := P) (w := w) (base := base) D56 T F54 F55
  have F57 := ok_law_wrong (P := P) (w := w) (base := base) D57 T F40 F33 F56
  have F58 := ok_law (P := P) (w := w) (base := base) D58 T F26 F44 F43 F31 F32 F29 F41 F42 F57 F52 F53
  exact F58
end Prf
namespace Kw
open PySem PySem.Spec PyProof.Rows L2
theorem walk_kwX {pn : Str} {l : PySem.W.OpenLaw} {k : Nat} {q : Program} {loose : List Str} {XP : (Str → Option Value) → Heap → Prop} {as0 : List Addr} {n0 t0 : Nat} {d : DefRec} {K : Params → PySem.W.Frag}
    (hn : l.most = some 63) (hdf : d.params.defaults = []) (hr : Room k callerA) (hK : ∀ P, as0 = (K P).map (·.1)) (hnm : d.name = "law")
    (F : ∀ (w : World) (mg : Str → Option Value) (h : Heap), (K w.params).In h → h.Ns mainGlobals mg → ∃ fa, mg "law" = some (.ref fa) ∧ ∃ fd : FuncData, (∀ (s : Shared) (u : Value), BindsTo s fd ⟨[u], []⟩ [(pn, u)]) ∧
      ∀ base : Heap, (K w.params).In base → base.Ns mainGlobals mg → FnOk l.prog w (K w.params) mg base (CXE l.prog w) k fa fd [pn] (spLaw (K w.params))) :
    PySem.W.WalkX q loose XP (PySem.W.X.obsZ as0) (PySem.W.X.valZ K n0 t0) l.row.toRowW d [] (fun f vs => PySem.call f vs) := by
  intro w s₀ s₁ mg mb G Y fa o pm cd doc dV kV ho hd hcd hD hmg hg args vals as L hpre hlay hrd hwl hlo
  exact walk_kw (YP := fun w h => (K w.params).In h) hn hdf hr (fun _ _ z => z) hnm F w s₀ s₁ mg mb G (PySem.W.InK.keeps w _ _ (PySem.W.X.z_facts hK Y).2.1 L.keeps) fa o pm cd doc dV kV ho hd hcd hD hmg hg args vals as hpre hlay hrd hwl hlo
end Kw
noncomputable def PySem.W.Fast.tw14588971148169615117 : PySem.Program := PySem.Challenge.pw_knockwright_k33_papers_of_crowds
theorem PySem.W.Fast.te14588971148169615117 : PySem.Challenge.pw_knockwright_k33_papers_of_crowds = PySem.W.Fast.tw14588971148169615117 := rfl
noncomputable def PySem.W.Fast.tw11996027357452267800 : Unit := ()
noncomputable def PySem.W.Fast.tw282440842874693992 : Unit := ()
noncomputable def PySem.W.Fast.tw2387668020581681505 : Unit := ()
noncomputable def PySem.W.Fast.tw670998242194650136 : Unit := ()
noncomputable def PySem.W.Fast.tw4867931451076656948 : Unit := ()
noncomputable def PySem.W.Fast.tw6235207799838864596 : Unit := ()
noncomputable def PySem.W.Fast.tw15996455017738787925 : Unit := ()
noncomputable def PySem.W.Fast.tw6420014106724242694 : Unit := ()
noncomputable def PySem.W.Fast.tw4430426440601059259 : Unit := ()
noncomputable def PySem.W.Fast.tw3430630126146697941 : Unit := ()
noncomputable def PySem.W.Fast.tw2224175769200275997 : Unit := ()
noncomputable def PySem.W.Fast.tw14360686761033808055 : Unit := ()
noncomputable def PySem.W.Fast.tw7241345047877991744 : Unit := ()
noncomputable def PySem.W.Fast.tw8423140263524438493 : Unit := ()
noncomputable def PySem.W.Fast.tw10193035878846803942 : Unit := ()
noncomputable def PySem.W.Fast.tw16959944351334296393 : Unit := ()
noncomputable def PySem.W.Fast.tw13962234943017890161 : Unit := ()
noncomputable def PySem.W.Fast.tw1046284604218560110 : Unit := ()
noncomputable def PySem.W.Fast.tw3178904094285466001 : Unit := ()
noncomputable def PySem.W.Fast.tw3372738343223896508 : Unit := ()
noncomputable def PySem.W.Fast.tw3429795365315448661 : Unit := ()
noncomputable def PySem.W.Fast.tw12863622732755622301 : Unit := ()
noncomputable def PySem.W.Fast.tw12745155598546265579 : Unit := ()
noncomputable def PySem.W.Fast.tw4070798409567371008 : Unit := ()
noncomputable def PySem.W.Fast.tw15983944311099402682 : Unit := ()
noncomputable def PySem.W.Fast.tw14024578513982891392 : Unit := ()
noncomputable def PySem.W.Fast.tw7413257997560529952 : Unit := ()
noncomputable def PySem.W.Fast.tw16824160109678892180 : Unit := ()
noncomputable def PySem.W.Fast.tw16527262987042776595 : Unit := ()
noncomputable def PySem.W.Fast.tw15218117201750378927 : Unit := ()
noncomputable def PySem.W.Fast.tw9313887871733415235 : Unit := ()
noncomputable def PySem.W.Fast.tw16470384984460566714 : Unit := ()
noncomputable def PySem.W.Fast.tw5513959443330897216 : Unit := ()
noncomputable def PySem.W.Fast.tw238398972293813313 : Unit := ()
noncomputable def PySem.W.Fast.tw9471842028294879506 : Unit := ()
noncomputable def PySem.W.Fast.tw2315352365050411041 : Unit := ()
noncomputable def PySem.W.Fast.tw1543309861744643924 : Unit := ()
noncomputable def PySem.W.Fast.tw6828990257745813539 : Unit := ()
noncomputable def PySem.W.Fast.tw1110709953311018046 : Unit := ()
noncomputable def PySem.W.Fast.tw5128325824243342633 : Unit := ()
noncomputable def PySem.W.Fast.tw17960089295424124825 : Unit := ()
noncomputable def PySem.W.Fast.tw6984113920299633781 : Unit := ()
noncomputable def PySem.W.Fast.tw14936913218209693289 : Unit := ()
noncomputable def PySem.W.Fast.tw10569611582683410929 : Unit := ()
noncomputable def PySem.W.Fast.tw2891896939793855 : Unit := ()
noncomputable def PySem.W.Fast.tw16715895673656851533 : Unit := ()
noncomputable def PySem.W.Fast.tw3944404215706442561 : Unit := ()
noncomputable def PySem.W.Fast.tw1890864684673279668 : Unit := ()
noncomputable def PySem.W.Fast.tw14354291181487170601 : Unit := ()
noncomputable def PySem.W.Fast.tw13549015967571423451 : Unit := ()
noncomputable def PySem.W.Fast.tw16660247619657225386 : Unit := ()
noncomputable def PySem.W.Fast.tw630439656941229009 : Unit := ()
noncomputable def PySem.W.Fast.tw17016399978846442660 : Unit := ()
noncomputable def PySem.W.Fast.tw2504351245925781550 : Unit := ()
noncomputable def PySem.W.Fast.tw660221669868035467 : Unit := ()
noncomputable def PySem.W.Fast.tw8545152958827562911 : Unit := ()
noncomputable def PySem.W.Fast.tw7931056585563134163 : Unit := ()
noncomputable def PySem.W.Fast.tw9627776623122147007 : Unit := ()
noncomputable def PySem.W.Fast.tw12144770036098667771 : Unit := ()
noncomputable def PySem.W.Fast.tw6032543753720562414 : Unit := ()
noncomputable def PySem.W.Fast.tw18376014479558644477 : Unit := ()
noncomputable def PySem.W.Fast.tw16722985964141504129 : Unit := ()
noncomputable def PySem.W.Fast.tw5782907007502808186 : Unit := ()
noncomputable def PySem.W.Fast.tw17658281645451609841 : Unit := ()
noncomputable def PySem.W.Fast.tw17752183171636950923 : Unit := ()
noncomputable def PySem.W.Fast.tw4125390337718545572 : Unit := ()
noncomputable def PySem.W.Fast.tw14003218067548825555 : Unit := ()
noncomputable def PySem.W.Fast.tw11975906473621899151 : Unit := ()
noncomputable def PySem.W.Fast.tw11980504287407798319 : Unit := ()
noncomputable def PySem.W.Fast.tw16596974929367565099 : Unit := ()
noncomputable def PySem.W.Fast.tw13215357513397988804 : Unit := ()
noncomputable def PySem.W.Fast.tw412462824474368193 : Unit := ()
noncomputable def PySem.W.Fast.tw3265622082463690029 : Unit := ()
noncomputable def PySem.W.Fast.tw1393508332401473698 : Unit := ()
noncomputable def PySem.W.Fast.tw6430299653332462839 : Unit := ()
noncomputable def PySem.W.Fast.tw13972832173726644022 : Unit := ()
noncomputable def PySem.W.Fast.tw7072585350063918242 : Unit := ()
noncomputable def PySem.W.Fast.tw10316481091045915601 : Unit := ()
noncomputable def PySem.W.Fast.tw5971860234690269476 : Unit := ()
noncomputable def PySem.W.Fast.tw9465673955097930636 : Unit := ()
noncomputable def PySem.W.Fast.tw1210895300679097925 : Unit := ()
noncomputable def PySem.W.Fast.tw11584565244732890957 : Unit := ()
noncomputable def PySem.W.Fast.tw3764673471962070964 : Unit := ()
noncomputable def PySem.W.Fast.tw8639787396776955549 : Unit := ()
noncomputable def PySem.W.Fast.tw1908026981435835175 : Unit := ()
noncomputable def PySem.W.Fast.tw17550302660782425081 : Unit := ()
noncomputable def PySem.W.Fast.tw3501630389094381921 : Unit := ()
noncomputable def PySem.W.Fast.tw416831331536267711 : Unit := ()
noncomputable def PySem.W.Fast.tw17196433848121443999 : Unit := ()
noncomputable def PySem.W.Fast.tw14773076538326843920 : Unit := ()
noncomputable def PySem.W.Fast.tw8517449723286991997 : Unit := ()
noncomputable def PySem.W.Fast.tw5802553316286712878 : Unit := ()
noncomputable def PySem.W.Fast.tw13424029327867157816 : Unit := ()
noncomputable def PySem.W.Fast.tw7741460204652894892 : Unit := ()
noncomputable def PySem.W.Fast.tw12841053648705871788 : Unit := ()
noncomputable def PySem.W.Fast.tw12480707910512969135 : Unit := ()
noncomputable def PySem.W.Fast.tw3312920390107779820 : Unit := ()
noncomputable def PySem.W.Fast.tw11521325816478812253 : Unit := ()
noncomputable def PySem.W.Fast.tw16762313910301523058 : Unit := ()
noncomputable def PySem.W.Fast.tw10121668251383034812 : Unit := ()
noncomputable def PySem.W.Fast.tw8094430878153227699 : Unit := ()
noncomputable def PySem.W.Fast.tw7030763361711308695 : Unit := ()
noncomputable def PySem.W.Fast.tw9740730681383769579 : Unit := ()
noncomputable def PySem.W.Fast.tw2726673967920420843 : Unit := ()
noncomputable def PySem.W.Fast.tw810146852152978459 : Unit := ()
noncomputable def PySem.W.Fast.tw2539672283186580360 : Unit := ()
noncomputable def PySem.W.Fast.tw12659194194470299541 : Unit := ()
noncomputable def PySem.W.Fast.tw6881376168521535941 : Unit := ()
noncomputable def PySem.W.Fast.tw3493061722881754952 : Unit := ()
noncomputable def PySem.W.Fast.tw9638181952044585790 : Unit := ()
noncomputable def PySem.W.Fast.tw3668312798748315316 : Unit := ()
noncomputable def PySem.W.Fast.tw238812056129803564 : Unit := ()
noncomputable def PySem.W.Fast.tw7391597393158549760 : Unit := ()
noncomputable def PySem.W.Fast.tw15075960001922089502 : Unit := ()
noncomputable def PySem.W.Fast.tw8136204582473966870 : Unit := ()
noncomputable def PySem.W.Fast.tw14852942574997673888 : Unit := ()
noncomputable def PySem.W.Fast.tw7559165621427612063 : Unit := ()
noncomputable def PySem.W.Fast.tw12459943002481537695 : Unit := ()
noncomputable def PySem.W.Fast.tw3823750059605728742 : Unit := ()
noncomputable def PySem.W.Fast.tw6741396590460155236 : Unit := ()
noncomputable def PySem.W.Fast.tw3676960975323986522 : Unit := ()
noncomputable def PySem.W.Fast.tw2511785105849279861 : Unit := ()
noncomputable def PySem.W.Fast.tw11840775383784859675 : Unit := ()
noncomputable def PySem.W.Fast.tw7700325435206388706 : Unit := ()
noncomputable def PySem.W.Fast.tw18444695173380164372 : Unit := ()
noncomputable def PySem.W.Fast.tw13743104889784868015 : Unit := ()
noncomputable def PySem.W.Fast.tw247005377038655361 : Unit := ()
noncomputable def PySem.W.Fast.tw9016669396046377722 : Unit := ()
noncomputable def PySem.W.Fast.tw16645246112184668304 : Unit := ()
noncomputable def PySem.W.Fast.tw18142510879511483479 : Unit := ()
noncomputable def PySem.W.Fast.tw14311956145223465781 : Unit := ()
noncomputable def PySem.W.Fast.tw8791482051602954903 : Unit := ()
noncomputable def PySem.W.Fast.tw14207279763316175845 : Unit := ()
noncomputable def PySem.W.Fast.tw4116081304616297717 : Unit := ()
noncomputable def PySem.W.Fast.tw3604694606612260964 : Unit := ()
noncomputable def PySem.W.Fast.tw1883388912623169342 : Unit := ()
noncomputable def PySem.W.Fast.tw563774708405219837 : Unit := ()
noncomputable def PySem.W.Fast.tw14149474336282625888 : Unit := ()
noncomputable def PySem.W.Fast.tw14781890681316647696 : Unit := ()
noncomputable def PySem.W.Fast.tw161443911234853003 : Unit := ()
noncomputable def PySem.W.Fast.tw16713416458694168873 : Unit := ()
noncomputable def PySem.W.Fast.tw6346665580846493821 : Unit := ()
noncomputable def PySem.W.Fast.tw775845127061083251 : Unit := ()
noncomputable def PySem.W.Fast.tw6724143366461196873 : Unit := ()
noncomputable def PySem.W.Fast.tw10828914015389992507 : Unit := ()
noncomputable def PySem.W.Fast.tw16040317588985233372 : Unit := ()
noncomputable def PySem.W.Fast.tw18038455672491998472 : Unit := ()
noncomputable def PySem.W.Fast.tw4505972579349009368 : Unit := ()
noncomputable def PySem.W.Fast.tw15765991886525088864 : Unit := ()
noncomputable def PySem.W.Fast.tw4193017385364048979 : Unit := ()
noncomputable def PySem.W.Fast.tw8883289805674528917 : Unit := ()
noncomputable def PySem.W.Fast.tw2379818343217228403 : Unit := ()
noncomputable def PySem.W.Fast.tw1463144359806717117 : Unit := ()
noncomputable def PySem.W.Fast.tw4501634804901169489 : Unit := ()
noncomputable def PySem.W.Fast.tw822085846061714396 : Unit := ()
noncomputable def PySem.W.Fast.tw11368489766641553187 : Unit := ()
noncomputable def PySem.W.Fast.tw12204562406869669754 : Unit := ()
noncomputable def PySem.W.Fast.tw5802239661703649187 : Unit := ()
noncomputable def PySem.W.Fast.tw15829784434832346884 : Unit := ()
noncomputable def PySem.W.Fast.tw5660849058540647401 : Unit := ()
noncomputable def PySem.W.Fast.tw8772385502131033877 : Unit := ()
noncomputable def PySem.W.Fast.tw18202453097301787728 : Unit := ()
noncomputable def PySem.W.Fast.tw17278990224719263240 : Unit := ()
noncomputable def PySem.W.Fast.tw11859996954710875071 : Unit := ()
noncomputable def PySem.W.Fast.tw454782126386261094 : Unit := ()
noncomputable def PySem.W.Fast.tw4836696713314792179 : Unit := ()
noncomputable def PySem.W.Fast.tw10075688024522430324 : Unit := ()
noncomputable def PySem.W.Fast.tw10386563295825800476 : Unit := ()
noncomputable def PySem.W.Fast.tw8071991229664786852 : Unit := ()
noncomputable def PySem.W.Fast.tw13420810965705119621 : Unit := ()
noncomputable def PySem.W.Fast.tw12932562533334172267 : Unit := ()
noncomputable def PySem.W.Fast.tw2916491621986789223 : Unit := ()
noncomputable def PySem.W.Fast.tw885822383810007974 : Unit := ()
noncomputable def PySem.W.Fast.tw4068187311649373470 : Unit := ()
noncomputable def PySem.W.Fast.tw9015578216715917505 : Unit := ()
noncomputable def PySem.W.Fast.tw9234504656917287145 : Unit := ()
noncomputable def PySem.W.Fast.tw2352746011534742385 : Unit := ()
noncomputable def PySem.W.Fast.tw14357836635584904490 : Unit := ()
noncomputable def PySem.W.Fast.tw17247461311774709782 : Unit := ()
noncomputable def PySem.W.Fast.tw4842896045399289269 : Unit := ()
noncomputable def PySem.W.Fast.tw9651995877322530663 : Unit := ()
noncomputable def PySem.W.Fast.tw12877952680633922108 : Unit := ()
noncomputable def PySem.W.Fast.tw8539948724518365773 : Unit := ()
noncomputable def PySem.W.Fast.tw1283567237731496291 : Unit := ()
noncomputable def PySem.W.Fast.tw13084046064840004401 : Unit := ()
noncomputable def PySem.W.Fast.tw5818326611604752328 : Unit := ()
noncomputable def PySem.W.Fast.tw2342790102932572149 : Unit := ()
noncomputable def PySem.W.Fast.tw17882771179549909285 : Unit := ()
noncomputable def PySem.W.Fast.tw77744083536571055 : Unit := ()
noncomputable def PySem.W.Fast.tw15805903830781163803 : Unit := ()
noncomputable def PySem.W.Fast.tw4200578398797197425 : Unit := ()
noncomputable def PySem.W.Fast.tw5286092389592263536 : Unit := ()
noncomputable def PySem.W.Fast.tw4191651385363054566 : Unit := ()
noncomputable def PySem.W.Fast.tw10269360457826383547 : Unit := ()
noncomputable def PySem.W.Fast.tw8528309584352124087 : Unit := ()
noncomputable def PySem.W.Fast.tw14726228064924062 : Unit := ()
noncomputable def PySem.W.Fast.tw9710987950547114253 : Unit := ()
noncomputable def PySem.W.Fast.tw12566244914393587108 : Unit := ()
noncomputable def PySem.W.Fast.tw8469162260185914577 : Unit := ()
noncomputable def PySem.W.Fast.tw9911119910859862214 : Unit := ()
noncomputable def PySem.W.Fast.tw16194933203207780346 : Unit := ()
noncomputable def PySem.W.Fast.tw9751322227490047387 : Unit := ()
noncomputable def PySem.W.Fast.tw18185071030309029341 : Unit := ()
noncomputable def PySem.W.Fast.tw5283594439820896900 : Unit := ()
noncomputable def PySem.W.Fast.tw14613357143210405461 : Unit := ()
noncomputable def PySem.W.Fast.tw11446807243243999437 : Unit := ()
noncomputable def PySem.W.Fast.tw13999319046355788205 : Unit := ()
noncomputable def PySem.W.Fast.tw11834923650179401033 : Unit := ()
noncomputable def PySem.W.Fast.tw13359557443587107846 : Unit := ()
noncomputable def PySem.W.Fast.tw15181625288521607300 : Unit := ()
noncomputable def PySem.W.Fast.tw1762485373712927111 : Unit := ()
noncomputable def PySem.W.Fast.tw18425716192314534905 : Unit := ()
noncomputable def PySem.W.Fast.tw14557397589762116974 : Unit := ()
noncomputable def PySem.W.Fast.tw3615333533236017882 : Unit := ()
noncomputable def PySem.W.Fast.tw5883223213124280744 : Unit := ()
noncomputable def PySem.W.Fast.tw3063706187285144859 : Unit := ()
noncomputable def PySem.W.Fast.tw5846455258134372226 : Unit := ()
noncomputable def PySem.W.Fast.tw10840368477129811825 : Unit := ()
noncomputable def PySem.W.Fast.tw6236912129152217102 : Unit := ()
noncomputable def PySem.W.Fast.tw9165537398679866889 : Unit := ()
noncomputable def PySem.W.Fast.tw16842581936466250934 : Unit := ()
noncomputable def PySem.W.Fast.tw18288276742098207735 : Unit := ()
noncomputable def PySem.W.Fast.tw2686401809696988263 : Unit := ()
noncomputable def PySem.W.Fast.tw6106066795689055540 : Unit := ()
noncomputable def PySem.W.Fast.tw16642587035312627182 : Unit := ()
noncomputable def PySem.W.Fast.tw14849679157073862100 : Unit := ()
noncomputable def PySem.W.Fast.tw9596499579954317708 : Unit := ()
noncomputable def PySem.W.Fast.tw10405922474806343057 : Unit := ()
noncomputable def PySem.W.Fast.tw1067983875231162418 : Unit := ()
noncomputable def PySem.W.Fast.tw13129931459117679346 : Unit := ()
noncomputable def PySem.W.Fast.tw18265160447171764455 : Unit := ()
noncomputable def PySem.W.Fast.tw13291750014816275366 : Unit := ()
noncomputable def PySem.W.Fast.tw17455274419058932402 : Unit := ()
noncomputable def PySem.W.Fast.tw3993824568115231498 : Unit := ()
noncomputable def PySem.W.Fast.tw17108679344848920412 : Unit := ()
noncomputable def PySem.W.Fast.tw17998509670672990794 : Unit := ()
noncomputable def PySem.W.Fast.tw276293726863709476 : Unit := ()
noncomputable def PySem.W.Fast.tw13446221383829572596 : Unit := ()
noncomputable def PySem.W.Fast.tw13822225541151338557 : Unit := ()
noncomputable def PySem.W.Fast.tw9888371457756221964 : Unit := ()
noncomputable def PySem.W.Fast.tw2204927299543656295 : Unit := ()
noncomputable def PySem.W.Fast.tw1580754013601963223 : Unit := ()
noncomputable def PySem.W.Fast.tw1374701867275059815 : Unit := ()
noncomputable def PySem.W.Fast.tw249621957619297896 : Unit := ()
noncomputable def PySem.W.Fast.tw10764311669965467555 : Unit := ()
noncomputable def PySem.W.Fast.tw11142279672960036593 : Unit := ()
noncomputable def PySem.W.Fast.tw12993562598035403180 : Unit := ()
noncomputable def PySem.W.Fast.tw7243590779662636969 : Unit := ()
noncomputable def PySem.W.Fast.tw7803289187588447101 : Unit := ()
noncomputable def PySem.W.Fast.tw7634922426909334087 : Unit := ()
noncomputable def PySem.W.Fast.tw2645432787578802645 : Unit := ()
noncomputable def PySem.W.Fast.tw2571127465252290593 : Unit := ()
noncomputable def PySem.W.Fast.tw6376659020924601648 : Unit := ()
noncomputable def PySem.W.Fast.tw3106288327433715870 : Unit := ()
noncomputable def PySem.W.Fast.tw6660754835568665047 : Unit := ()
noncomputable def PySem.W.Fast.tw7901212358641126629 : Unit := ()
noncomputable def PySem.W.Fast.tw9570481572035790586 : Unit := ()
noncomputable def PySem.W.Fast.tw2825299309637080965 : Unit := ()
noncomputable def PySem.W.Fast.tw6562046896847081217 : Unit := ()
noncomputable def PySem.W.Fast.tw12000383913148789097 : Unit := ()
noncomputable def PySem.W.Fast.tw10886645358037923619 : Unit := ()
noncomputable def PySem.W.Fast.tw8485426454352279053 : Unit := ()
noncomputable def PySem.W.Fast.tw7045188122771836723 : Unit := ()
noncomputable def PySem.W.Fast.tw10409564144356020965 : Unit := ()
noncomputable def PySem.W.Fast.tw1001818196114344374 : Unit := ()
noncomputable def PySem.W.Fast.tw14508012161673129472 : Unit := ()
noncomputable def PySem.W.Fast.tw12961509690833850555 : Unit := ()
noncomputable def PySem.W.Fast.tw10591547300504672450 : Unit := ()
noncomputable def PySem.W.Fast.tw11593297500760335811 : Unit := ()
noncomputable def PySem.W.Fast.tw10398566673304786841 : Unit := ()
noncomputable def PySem.W.Fast.tw10818384419530829011 : Unit := ()
noncomputable def PySem.W.Fast.tw4453446206547119933 : Unit := ()
noncomputable def PySem.W.Fast.tw695178801930235189 : Unit := ()
noncomputable def PySem.W.Fast.tw9266938434680161066 : Unit := ()
noncomputable def PySem.W.Fast.tw1373143490838728443 : Unit := ()
noncomputable def PySem.W.Fast.tw4370342104329826147 : Unit := ()
noncomputable def PySem.W.Fast.tw3146535117261959680 : Unit := ()
noncomputable def PySem.W.Fast.tw6745538777270015652 : Unit := ()
noncomputable def PySem.W.Fast.tw7166846793703756316 : Unit := ()
noncomputable def PySem.W.Fast.tw16984082473246214029 : Unit := ()
noncomputable def PySem.W.Fast.tw3187859650502128892 : Unit := ()
noncomputable def PySem.W.Fast.tw9875477316136750723 : Unit := ()
noncomputable def PySem.W.Fast.tw17466206794922071845 : Unit := ()
noncomputable def PySem.W.Fast.tw6777381542857793031 : Unit := ()
noncomputable def PySem.W.Fast.tw7076006822152789675 : Unit := ()
noncomputable def PySem.W.Fast.tw17953529865346799711 : Unit := ()
noncomputable def PySem.W.Fast.tw10854241692068722520 : Unit := ()
noncomputable def PySem.W.Fast.tw17750812675917670549 : Unit := ()
noncomputable def PySem.W.Fast.tw4111942583387220713 : Unit := ()
noncomputable def PySem.W.Fast.tw13744131091102243286 : Unit := ()
noncomputable def PySem.W.Fast.tw12770814256466304220 : Unit := ()
noncomputable def PySem.W.Fast.tw4644819561344209292 : Unit := ()
noncomputable def PySem.W.Fast.tw940233861855339925 : Unit := ()
noncomputable def PySem.W.Fast.tw8675701755866823379 : Unit := ()
noncomputable def PySem.W.Fast.tw10544290058612289968 : Unit := ()
noncomputable def PySem.W.Fast.tw3624280748142600241 : Unit := ()
noncomputable def PySem.W.Fast.tw2117828731900128478 : Unit := ()
noncomputable def PySem.W.Fast.tw4688514701499170825 : Unit := ()
noncomputable def PySem.W.Fast.tw11619815085750085584 : Unit := ()
noncomputable def PySem.W.Fast.tw545823261402500929 : Unit := ()
noncomputable def PySem.W.Fast.tw17055570454541440599 : Unit := ()
noncomputable def PySem.W.Fast.tw8999539001879100508 : Unit := ()
noncomputable def PySem.W.Fast.tw2691051216569464864 : Unit := ()
noncomputable def PySem.W.Fast.tw1093138544203559622 : Unit := ()
noncomputable def PySem.W.Fast.tw9953254457914592235 : Unit := ()
noncomputable def PySem.W.Fast.tw16991799423841557651 : Unit := ()
noncomputable def PySem.W.Fast.tw6626271479093042951 : Unit := ()
noncomputable def PySem.W.Fast.tw3020647019239539576 : Unit := ()
noncomputable def PySem.W.Fast.tw797900033125238595 : Unit := ()
noncomputable def PySem.W.Fast.tw14536729944411157016 : Unit := ()
noncomputable def PySem.W.Fast.tw16187061779470536827 : Unit := ()
noncomputable def PySem.W.Fast.tw5001552938774780267 : Unit := ()
noncomputable def PySem.W.Fast.tw18341714710629410354 : Unit := ()
noncomputable def PySem.W.Fast.tw6474842232050983419 : Unit := ()
noncomputable def PySem.W.Fast.tw9259068465950163836 : Unit := ()
noncomputable def PySem.W.Fast.tw9184927584011780959 : Unit := ()
noncomputable def PySem.W.Fast.tw6031956367966493716 : Unit := ()
noncomputable def PySem.W.Fast.tw8196959432704775771 : Unit := ()
noncomputable def PySem.W.Fast.tw6028278549141230453 : Unit := ()
noncomputable def PySem.W.Fast.tw5729815771381468048 : Unit := ()
noncomputable def PySem.W.Fast.tw1553402746330836619 : Unit := ()
noncomputable def PySem.W.Fast.tw14307123822371943475 : Unit := ()
noncomputable def PySem.W.Fast.tw14461714218166909899 : Unit := ()
noncomputable def PySem.W.Fast.tw2469991239786017133 : Unit := ()
noncomputable def PySem.W.Fast.tw8147385359573002075 : Unit := ()
noncomputable def PySem.W.Fast.tw14761418352034239243 : Unit := ()
noncomputable def PySem.W.Fast.tw11644724333992389756 : Unit := ()
noncomputable def PySem.W.Fast.tw17891368184076811208 : Unit := ()
noncomputable def PySem.W.Fast.tw9493977033595104670 : Unit := ()
noncomputable def PySem.W.Fast.tw9540225528567867606 : Unit := ()
noncomputable def PySem.W.Fast.tw3322274153630443079 : Unit := ()
noncomputable def PySem.W.Fast.tw14355702814867905106 : Unit := ()
noncomputable def PySem.W.Fast.tw9193619166967978744 : Unit := ()
noncomputable def PySem.W.Fast.tw16271928164634908863 : Unit := ()
noncomputable def PySem.W.Fast.tw3844523111105056259 : Unit := ()
noncomputable def PySem.W.Fast.tw2625141494985968794 : Unit := ()
noncomputable def PySem.W.Fast.tw16984202143619480685 : Unit := ()
noncomputable def PySem.W.Fast.tw5435051155491120100 : Unit := ()
noncomputable def PySem.W.Fast.tw4544516355316180866 : Unit := ()
noncomputable def PySem.W.Fast.tw9789958953697720076 : Unit := ()
noncomputable def PySem.W.Fast.tw10065564534056634279 : Unit := ()
noncomputable def PySem.W.Fast.tw8013817615645479877 : Unit := ()
noncomputable def PySem.W.Fast.tw2160758803511616594 : Unit := ()
noncomputable def PySem.W.Fast.tw7246476321098743095 : Unit := ()
noncomputable def PySem.W.Fast.tw4980466731065235719 : Unit := ()
noncomputable def PySem.W.Fast.tw2304151801447757298 : Unit := ()
noncomputable def PySem.W.Fast.tw9645208263413240440 : Unit := ()
noncomputable def PySem.W.Fast.tw6056496592196417388 : Unit := ()
noncomputable def PySem.W.Fast.tw3351056822081136956 : Unit := ()
noncomputable def PySem.W.Fast.tw10231408109926906264 : Unit := ()
noncomputable def PySem.W.Fast.tw284518801174364112 : Unit := ()
noncomputable def PySem.W.Fast.tw14606328091245303557 : Unit := ()
noncomputable def PySem.W.Fast.tw13384006539344886875 : Unit := ()
noncomputable def PySem.W.Fast.tw3783738854725503348 : Unit := ()
noncomputable def PySem.W.Fast.tw15111776538674849993 : Unit := ()
noncomputable def PySem.W.Fast.tw10751156954956907294 : Unit := ()
noncomputable def PySem.W.Fast.tw428655734736014914 : Unit := ()
noncomputable def PySem.W.Fast.tw7135609053535615666 : Unit := ()
noncomputable def PySem.W.Fast.tw11899491324010374185 : Unit := ()
noncomputable def PySem.W.Fast.tw563221832730018642 : Unit := ()
noncomputable def PySem.W.Fast.tw10874888430053897636 : Unit := ()
noncomputable def PySem.W.Fast.tw10089098053588446111 : Unit := ()
noncomputable def PySem.W.Fast.tw16858211073608193044 : Unit := ()
noncomputable def PySem.W.Fast.tw7603588678097889159 : Unit := ()
noncomputable def PySem.W.Fast.tw15475359890182742763 : Unit := ()
noncomputable def PySem.W.Fast.tw5252173433103614581 : Unit := ()
noncomputable def PySem.W.Fast.tw9306156750961666246 : Unit := ()
noncomputable def PySem.W.Fast.tw16144447374121027793 : Unit := ()
noncomputable def PySem.W.Fast.tw13604520332581233825 : Unit := ()
noncomputable def PySem.W.Fast.tw5390493144495583536 : Unit := ()
noncomputable def PySem.W.Fast.tw4351773223953700744 : Unit := ()
noncomputable def PySem.W.Fast.tw10002459039126102009 : Unit := ()
noncomputable def PySem.W.Fast.tw6347612688336071502 : Unit := ()
noncomputable def PySem.W.Fast.tw15576844636863098062 : Unit := ()
noncomputable def PySem.W.Fast.tw16744941563996672951 : Unit := ()
noncomputable def PySem.W.Fast.tw11600632205693867883 : Unit := ()
noncomputable def PySem.W.Fast.tw12361191358447984894 : Unit := ()
noncomputable def PySem.W.Fast.tw6464693549876964874 : Unit := ()
noncomputable def PySem.W.Fast.tw18420098859640271278 : Unit := ()
noncomputable def PySem.W.Fast.tw5326665465908994151 : Unit := ()
noncomputable def PySem.W.Fast.tw777660347821542529 : Unit := ()
noncomputable def PySem.W.Fast.tw11752465478883961801 : Unit := ()
noncomputable def PySem.W.Fast.tw3140569414893241531 : Unit := ()
noncomputable def PySem.W.Fast.tw16009456862772498223 : Unit := ()
noncomputable def PySem.W.Fast.tw11419865809304291593 : Unit := ()
noncomputable def PySem.W.Fast.tw3353543598354648669 : Unit := ()
noncomputable def PySem.W.Fast.tw12903746737598212860 : Unit := ()
noncomputable def PySem.W.Fast.tw8371541346664747287 : Unit := ()
noncomputable def PySem.W.Fast.tw17277784820775801482 : Unit := ()
noncomputable def PySem.W.Fast.tw8066806512459747820 : Unit := ()
noncomputable def PySem.W.Fast.tw5411530801115153492 : Unit := ()
noncomputable def PySem.W.Fast.tw9176422365542676327 : Unit := ()
noncomputable def PySem.W.Fast.tw12326838585347611547 : Unit := ()
noncomputable def PySem.W.Fast.tw2543595326040948320 : Unit := ()
noncomputable def PySem.W.Fast.tw5031997552153175907 : Unit := ()
noncomputable def PySem.W.Fast.tw18278488063644816281 : Unit := ()
noncomputable def PySem.W.Fast.tw15111185223614492914 : Unit := ()
noncomputable def PySem.W.Fast.tw16413773188700152441 : Unit := ()
noncomputable def PySem.W.Fast.tw9144638751651227801 : Unit := ()
noncomputable def PySem.W.Fast.tw10735670345054369827 : Unit := ()
noncomputable def PySem.W.Fast.tw8472940093745117168 : Unit := ()
noncomputable def PySem.W.Fast.tw8157235142647122573 : Unit := ()
noncomputable def PySem.W.Fast.tw17927484104452317007 : Unit := ()
noncomputable def PySem.W.Fast.tw14861177378602778017 : Unit := ()
noncomputable def PySem.W.Fast.tw11347571514561153337 : Unit := ()
noncomputable def PySem.W.Fast.tw1314505303810059743 : Unit := ()
noncomputable def PySem.W.Fast.tw12867353566559398672 : Unit := ()
noncomputable def PySem.W.Fast.tw12130401671956155599 : Unit := ()
noncomputable def PySem.W.Fast.tw13683977166061422342 : Unit := ()
noncomputable def PySem.W.Fast.tw1827275941397365831 : Unit := ()
noncomputable def PySem.W.Fast.tw2968784672556730888 : Unit := ()
noncomputable def PySem.W.Fast.tw3748720961717215799 : Unit := ()
noncomputable def PySem.W.Fast.tw9885199516577040179 : Unit := ()
noncomputable def PySem.W.Fast.tw9679751122641678394 : Unit := ()
noncomputable def PySem.W.Fast.tw9017750844295502403 : Unit := ()
noncomputable def PySem.W.Fast.tw4820737105411626946 : Unit := ()
noncomputable def PySem.W.Fast.tw7041155403028253707 : Unit := ()
noncomputable def PySem.W.Fast.tw14563123038737890136 : Unit := ()
noncomputable def PySem.W.Fast.tw3768082072772201993 : Unit := ()
noncomputable def PySem.W.Fast.tw11331436375364242264 : Unit := ()
noncomputable def PySem.W.Fast.tw14123500141553054245 : Unit := ()
noncomputable def PySem.W.Fast.tw10799433759965791244 : Unit := ()
noncomputable def PySem.W.Fast.tw9719757385484687892 : Unit := ()
noncomputable def PySem.W.Fast.tw14670409832792744011 : Unit := ()
noncomputable def PySem.W.Fast.tw4904298305534717193 : Unit := ()
noncomputable def PySem.W.Fast.tw4693889694870345939 : Unit := ()
noncomputable def PySem.W.Fast.tw11766393106496502215 : Unit := ()
noncomputable def PySem.W.Fast.tw766772669709019932 : Unit := ()
noncomputable def PySem.W.Fast.tw512026061792479114 : Unit := ()
noncomputable def PySem.W.Fast.tw15374134965538479676 : Unit := ()
noncomputable def PySem.W.Fast.tw1625814192296124070 : Unit := ()
noncomputable def PySem.W.Fast.tw1661785436112893027 : Unit := ()
noncomputable def PySem.W.Fast.tw15804144087484145329 : Unit := ()
noncomputable def PySem.W.Fast.tw7708873489109020942 : Unit := ()
noncomputable def PySem.W.Fast.tw11162695349363764194 : Unit := ()
noncomputable def PySem.W.Fast.tw5607657794484209760 : Unit := ()
noncomputable def PySem.W.Fast.tw14647104860140961707 : Unit := ()
noncomputable def PySem.W.Fast.tw17493843400926069264 : Unit := ()
noncomputable def PySem.W.Fast.tw9050411641283808936 : Unit := ()
noncomputable def PySem.W.Fast.tw5750870578654970543 : Unit := ()
noncomputable def PySem.W.Fast.tw8742474583943275673 : Unit := ()
noncomputable def PySem.W.Fast.tw16501415184618927468 : Unit := ()
noncomputable def PySem.W.Fast.tw337557225793212805 : Unit := ()
noncomputable def PySem.W.Fast.tw6316327365476272772 : Unit := ()
noncomputable def PySem.W.Fast.tw14475021334821078015 : Unit := ()
noncomputable def PySem.W.Fast.tw9790645165593990951 : Unit := ()
noncomputable def PySem.W.Fast.tw5037144601382652457 : Unit := ()
noncomputable def PySem.W.Fast.tw8391029835155316880 : Unit := ()
noncomputable def PySem.W.Fast.tw8769673554295155254 : Unit := ()
noncomputable def PySem.W.Fast.tw2279590052660510948 : Unit := ()
noncomputable def PySem.W.Fast.tw5824219769861833610 : Unit := ()
noncomputable def PySem.W.Fast.tw7246836234695257837 : Unit := ()
noncomputable def PySem.W.Fast.tw15878014484055335009 : Unit := ()
noncomputable def PySem.W.Fast.tw12592617212629095408 : Unit := ()
noncomputable def PySem.W.Fast.tw4824859672555858545 : Unit := ()
noncomputable def PySem.W.Fast.tw4489158467437555681 : Unit := ()
noncomputable def PySem.W.Fast.tw17646360931319374402 : Unit := ()
noncomputable def PySem.W.Fast.tw11888262621319154713 : Unit := ()
noncomputable def PySem.W.Fast.tw194213316196137234 : Unit := ()
noncomputable def PySem.W.Fast.tw11546932192856936 : Unit := ()
noncomputable def PySem.W.Fast.tw13914423549078220393 : Unit := ()
noncomputable def PySem.W.Fast.tw1308612082578834150 : Unit := ()
noncomputable def PySem.W.Fast.tw14815540932596027069 : Unit := ()
noncomputable def PySem.W.Fast.tw10026031840436418018 : Unit := ()
noncomputable def PySem.W.Fast.tw2187393183687380591 : Unit := ()
noncomputable def PySem.W.Fast.tw14516074584548998442 : Unit := ()
noncomputable def PySem.W.Fast.tw5058718832020099056 : Unit := ()
noncomputable def PySem.W.Fast.tw1673247718433180261 : Unit := ()
noncomputable def PySem.W.Fast.tw12055883181195796099 : Unit := ()
noncomputable def PySem.W.Fast.tw3904545739104725869 : Unit := ()
noncomputable def PySem.W.Fast.tw10462217386080061853 : Unit := ()
noncomputable def PySem.W.Fast.tw13303560147756264216 : Unit := ()
noncomputable def PySem.W.Fast.tw14709532981283583383 : Unit := ()
noncomputable def PySem.W.Fast.tw12902493815491974505 : Unit := ()
noncomputable def PySem.W.Fast.tw9963708525489377972 : Unit := ()
noncomputable def PySem.W.Fast.tw10166037452446749436 : Unit := ()
noncomputable def PySem.W.Fast.tw3063949962817399507 : Unit := ()
noncomputable def PySem.W.Fast.tw14077681505253323577 : Unit := ()
noncomputable def PySem.W.Fast.tw2294521184422793651 : Unit := ()
noncomputable def PySem.W.Fast.tw12287311781506699933 : Unit := ()
noncomputable def PySem.W.Fast.tw9519700394551559086 : Unit := ()
noncomputable def PySem.W.Fast.tw5371566516569586486 : Unit := ()
open PySem PySem.W PyProof.Rows
set_option maxRecDepth 100000 in
set_option maxHeartbeats 0 in
theorem PySem.Challenge.cw_knockwright_k33_papers_of_crowds_holds : PySem.Challenge.rw_knockwright_k33_papers_of_crowds.Holds := by
  w_on; o_law; z_head; (case hw => w_witness2)
  refine Kw.walk_kwX (pn := "script") (l := PySem.Challenge.rw_knockwright_k33_papers_of_crowds) (k := 10) rfl rfl ⟨rfl, by decide, by decide⟩ (fun _ => by kernel_rfl) rfl ?F
  case F =>
    intro w mg h KX G
    refine' Prf.all_mk KX G ?c_Course ?b_isinstance ?b_int ?b_bool ?b_tuple ?b_list ?b_abs ?b_len ?b_divmod ?b_range ?b_max ?b_min ?b_enumerate ?pg_Course ?hd_Course ?po_Course ?sa_Course ?mk_Course ?kp_Course ?n_Course_goings ?n_Course_share ?n_Course_now ?n_Course_gone_through ?n_Course_joints ?n_Course_coming ?i_LONG_BITS ?c_NOUGHT ?z_NOUGHT ?c_ALL ?z_ALL ?i_MOST_MOMENTS ?a0 ?l0 ?q0 ?k0 ?a1 ?l1 ?q1 ?k1 ?a2 ?l2 ?q2 ?k2 ?g2 ?a3 ?l3 ?q3 ?k3 ?a4 ?l4 ?q4 ?k4 ?a5 ?l5 ?q5 ?k5 ?a6 ?l6 ?q6 ?k6 ?a7 ?l7 ?q7 ?k7 ?a8 ?l8 ?q8 ?k8 ?a9 ?l9 ?q9 ?k9 ?a10 ?t10 ?l10 ?q10 ?k10 ?a11 ?t11 ?l11 ?q11 ?k11 ?a12 ?l12 ?q12 ?k12 ?a13 ?t13 ?l13 ?q13 ?k13 ?a14 ?t14 ?l14 ?q14 ?k14 ?a15 ?l15 ?q15 ?k15 ?a16 ?t16 ?l16 ?q16 ?k16 ?a17 ?t17 ?l17 ?q17 ?k17 ?a18 ?t18 ?l18 ?q18 ?k18 ?a19 ?t19 ?l19 ?q19 ?k19 ?a20 ?l20 ?q20 ?k20 ?a21 ?l21 ?q21 ?k21 ?a22 ?t22 ?l22 ?q22 ?k22 ?a23 ?t23 ?l23 ?q23 ?k23 ?a24 ?l24 ?q24 ?k24 ?a25 ?l25 ?q25 ?k25 ?a26 ?l26 ?q26 ?k26 ?a27 ?l27 ?q27 ?k27 ?a28 ?l28 ?q28 ?k28 ?a29 ?l29 ?q29 ?k29 ?a30 ?l30 ?q30 ?k30 ?a31 ?l31 ?q31 ?k31 ?a32 ?l32 ?q32 ?k32 ?a33 ?l33 ?q33 ?k33 ?a34 ?l34 ?q34 ?k34 ?a35 ?l35 ?q35 ?k35 ?a36 ?l36 ?q36 ?k36 ?a37 ?l37 ?q37 ?k37 ?a38 ?l38 ?q38 ?k38 ?a39 ?l39 ?q39 ?k39 ?a40 ?l40 ?q40 ?k40 ?a41 ?l41 ?q41 ?k41 ?a42 ?l42 ?q42 ?k42 ?a43 ?l43 ?q43 ?k43 ?a44 ?l44 ?q44 ?k44 ?a45 ?t45 ?l45 ?q45 ?k45 ?a46 ?l46 ?q46 ?k46 ?a47 ?l47 ?q47 ?k47 ?a48 ?l48 ?q48 ?k48 ?a49 ?l49 ?q49 ?k49 ?a50 ?l50 ?q50 ?k50 ?a51 ?l51 ?q51 ?k51 ?a52 ?l52 ?q52 ?k52 ?a53 ?l53 ?q53 ?k53 ?a54 ?l54 ?q54 ?k54 ?a55 ?l55 ?q55 ?k55 ?a56 ?l56 ?q56 ?k56 ?a57 ?l57 ?q57 ?k57 ?a58 ?l58 ?q58 ?k58
    (case c_Course => k_is)
    (case b_isinstance => k_is)
    (case b_int => k_is)
    (case b_bool => k_is)
    (case b_tuple => k_is)
    (case b_list => k_is)
    (case b_abs => k_is)
    (case b_len => k_is)
    (case b_divmod => k_is)
    (case b_range => k_is)
    (case b_max => k_is)
    (case b_min => k_is)
    (case b_enumerate => k_is)
    (case pg_Course => k_is)
    (case hd_Course => k_is)
    (case po_Course => k_is)
    (case sa_Course => k_is)
    (case mk_Course => k_is)
    (case kp_Course => k_is)
    (case n_Course_goings => k_is)
    (case n_Course_share => k_is)
    (case n_Course_now => k_is)
    (case n_Course_gone_through => k_is)
    (case n_Course_joints => k_is)
    (case n_Course_coming => k_is)
    (case i_LONG_BITS => k_is)
    (case c_NOUGHT => k_is)
    (case z_NOUGHT => k_is)
    (case c_ALL => k_is)
    (case z_ALL => k_is)
    (case i_MOST_MOMENTS => k_is)
    (case a0 => k_is)
    (case l0 => k_is)
    (case q0 => k_is)
    (case k0 => k_is)
    (case a1 => k_is)
    (case l1 => k_is)
    (case q1 => k_is)
    (case k1 => k_is)
    (case a2 => k_is)
    (case l2 => k_is)
    (case q2 => k_is)
    (case k2 => k_is)
    (case g2 => k_is)
    (case a3 => k_is)
    (case l3 => k_is)
    (case q3 => k_is)
    (case k3 => k_is)
    (case a4 => k_is)
    (case l4 => k_is)
    (case q4 => k_is)
    (case k4 => k_is)
    (case a5 => k_is)
    (case l5 => k_is)
    (case q5 => k_is)
    (case k5 => k_is)
    (case a6 => k_is)
    (case l6 => k_is)
    (case q6 => k_is)
    (case k6 => k_is)
    (case a7 => k_is)
    (case l7 => k_is)
    (case q7 => k_is)
    (case k7 => k_is)
    (case a8 => k_is)
    (case l8 => k_is)
    (case q8 => k_is)
    (case k8 => k_is)
    (case a9 => k_is)
    (case l9 => k_is)
    (case q9 => k_is)
    (case k9 => k_is)
    (case a10 => k_is)
    (case t10 => k_is)
    (case l10 => k_is)
    (case q10 => k_is)
    (case k10 => k_is)
    (case a11 => k_is)
    (case t11 => k_is)
    (case l11 => k_is)
    (case q11 => k_is)
    (case k11 => k_is)
    (case a12 => k_is)
    (case l12 => k_is)
    (case q12 => k_is)
    (case k12 => k_is)
    (case a13 => k_is)
    (case t13 => k_is)
    (case l13 => k_is)
    (case q13 => k_is)
    (case k13 => k_is)
    (case a14 => k_is)
    (case t14 => k_is)
    (case l14 => k_is)
    (case q14 => k_is)
    (case k14 => k_is)
    (case a15 => k_is)
    (case l15 => k_is)
    (case q15 => k_is)
    (case k15 => k_is)
    (case a16 => k_is)
    (case t16 => k_is)
    (case l16 => k_is)
    (case q16 => k_is)
    (case k16 => k_is)
    (case a17 => k_is)
    (case t17 => k_is)
    (case l17 => k_is)
    (case q17 => k_is)
    (case k17 => k_is)
    (case a18 => k_is)
    (case t18 => k_is)
    (case l18 => k_is)
    (case q18 => k_is)
    (case k18 => k_is)
    (case a19 => k_is)
    (case t19 => k_is)
    (case l19 => k_is)
    (case q19 => k_is)
    (case k19 => k_is)
    (case a20 => k_is)
    (case l20 => k_is)
    (case q20 => k_is)
    (case k20 => k_is)
    (case a21 => k_is)
    (case l21 => k_is)
    (case q21 => k_is)
    (case k21 => k_is)
    (case a22 => k_is)
    (case t22 => k_is)
    (case l22 => k_is)
    (case q22 => k_is)
    (case k22 => k_is)
    (case a23 => k_is)
    (case t23 => k_is)
    (case l23 => k_is)
    (case q23 => k_is)
    (case k23 => k_is)
    (case a24 => k_is)
    (case l24 => k_is)
    (case q24 => k_is)
    (case k24 => k_is)
    (case a25 => k_is)
    (case l25 => k_is)
    (case q25 => k_is)
    (case k25 => k_is)
    (case a26 => k_is)
    (case l26 => k_is)
    (case q26 => k_is)
    (case k26 => k_is)
    (case a27 => k_is)
    (case l27 => k_is)
    (case q27 => k_is)
    (case k27 => k_is)
    (case a28 => k_is)
    (case l28 => k_is)
    (case q28 => k_is)
    (case k28 => k_is)
    (case a29 => k_is)
    (case l29 => k_is)
    (case q29 => k_is)
    (case k29 => k_is)
    (case a30 => k_is)
    (case l30 => k_is)
    (case q30 => k_is)
    (case k30 => k_is)
    (case a31 => k_is)
    (case l31 => k_is)
    (case q31 => k_is)
    (case k31 => k_is)
    (case a32 => k_is)
    (case l32 => k_is)
    (case q32 => k_is)
    (case k32 => k_is)
    (case a33 => k_is)
    (case l33 => k_is)
    (case q33 => k_is)
    (case k33 => k_is)
    (case a34 => k_is)
    (case l34 => k_is)
    (case q34 => k_is)
    (case k34 => k_is)
    (case a35 => k_is)
    (case l35 => k_is)
    (case q35 => k_is)
    (case k35 => k_is)
    (case a36 => k_is)
    (case l36 => k_is)
    (case q36 => k_is)
    (case k36 => k_is)
    (case a37 => k_is)
    (case l37 => k_is)
    (case q37 => k_is)
    (case k37 => k_is)
    (case a38 => k_is)
    (case l38 => k_is)
    (case q38 => k_is)
    (case k38 => k_is)
    (case a39 => k_is)
    (case l39 => k_is)
    (case q39 => k_is)
    (case k39 => k_is)
    (case a40 => k_is)
    (case l40 => k_is)
    (case q40 => k_is)
    (case k40 => k_is)
    (case a41 => k_is)
    (case l41 => k_is)
    (case q41 => k_is)
    (case k41 => k_is)
    (case a42 => k_is)
    (case l42 => k_is)
    (case q42 => k_is)
    (case k42 => k_is)
    (case a43 => k_is)
    (case l43 => k_is)
    (case q43 => k_is)
    (case k43 => k_is)
    (case a44 => k_is)
    (case l44 => k_is)
    (case q44 => k_is)
    (case k44 => k_is)
    (case a45 => k_is)
    (case t45 => k_is)
    (case l45 => k_is)
    (case q45 => k_is)
    (case k45 => k_is)
    (case a46 => k_is)
    (case l46 => k_is)
    (case q46 => k_is)
    (case k46 => k_is)
    (case a47 => k_is)
    (case l47 => k_is)
    (case q47 => k_is)
    (case k47 => k_is)
    (case a48 => k_is)
    (case l48 => k_is)
    (case q48 => k_is)
    (case k48 => k_is)
    (case a49 => k_is)
    (case l49 => k_is)
    (case q49 => k_is)
    (case k49 => k_is)
    (case a50 => k_is)
    (case l50 => k_is)
    (case q50 => k_is)
    (case k50 => k_is)
    (case a51 => k_is)
    (case l51 => k_is)
    (case q51 => k_is)
    (case k51 => k_is)
    (case a52 => k_is)
    (case l52 => k_is)
    (case q52 => k_is)
    (case k52 => k_is)
    (case a53 => k_is)
    (case l53 => k_is)
    (case q53 => k_is)
    (case k53 => k_is)
    (case a54 => k_is)
    (case l54 => k_is)
    (case q54 => k_is)
    (case k54 => k_is)
    (case a55 => k_is)
    (case l55 => k_is)
    (case q55 => k_is)
    (case k55 => k_is)
    (case a56 => k_is)
    (case l56 => k_is)
    (case q56 => k_is)
    (case k56 => k_is)
    (case a57 => k_is)
    (case l57 => k_is)
    (case q57 => k_is)
    (case k57 => k_is)
    (case a58 => k_is)
    (case l58 => k_is)
    (case q58 => k_is)
    (case k58 => k_is)
