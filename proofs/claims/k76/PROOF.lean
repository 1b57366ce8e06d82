import PyProof.Rows.All
import Wide.All
import OpenK.AllK
import Wide.FinOn
import Lean
import PyProof.EqAt
import PyProof.EqKinds
import PyProof.TupleCall
import PyProof.ExcBaseAll.ValueError
import PyProof.P3Eq
import PyProof.NeData
import PyProof.DictTable
import KE.KEqDict
import PyProof.EnumFor
import PyProof.EnumMake
import PyProof.EnumStmt
import PyProof.NsDelKeeps
import KE.KListMore
import PyProof.Rows.SortWalk
import PyProof.ListRange
import PyProof.P3In
import PyProof.CollectIter
import PyProof.TupleOfStr
import KE.KIntText
import PyProof.StrLawsTight
import PyProof.Rows.StrSplitCount
import PyProof.JoinWalk
import OpenK.KTop
import PyProof.StrLawsFirst
import PyProof.MeetsStr
import PyProof.StrLawsChain
import PySem.Challenge.RW_knockwright_k76_whole_boxes_stay_apart
set_option Elab.async false
set_option linter.all false
set_option maxRecDepth 100000
namespace L2
open PySem PySem.Spec PyProof.Rows
noncomputable abbrev Key:=Sum Int Str
noncomputable def J7:Key->Value->Bool
 |.inl k,v=>Value.isInt k v
 |.inr x,v=>Value.isStrOf x v
noncomputable def keyH (w:World):Key->Int
 |.inl k=>hashInt k
 |.inr x=>hashStr w x
theorem z8:∀ {k:Key} {v:Value},J7 k v=true->(∃ i t,k=Sum.inl i/\v=Value.int i t)∨(∃ x t,k=Sum.inr x/\v=Value.str x t)
 |.inl i,v,h=>by
  obtain ⟨t,e⟩:=Value.isInt_shape (k:=i) (v:=v) h
  exact .inl ⟨i,t,rfl,e⟩
 |.inr x,v,h=>by
  obtain ⟨t,e⟩:=Value.isStrOf_shape (x:=x) (v:=v) h
  exact .inr ⟨x,t,rfl,e⟩
theorem keyIs_int (i:Int) (t:Tok):J7 (.inl i) (.int i t)=true:=by simp [J7,Value.isInt]
theorem keyIs_str (x:Str) (t:Tok):J7 (.inr x) (.str x t)=true:=by simp [J7,Value.isStrOf]
theorem key_ll (a b:Int):decide ((Sum.inl a:Key)=Sum.inl b)=(a == b):=by
 by_cases e:a=b
 ·subst e; simp
 ·have h:¬ (Sum.inl a:Key)=Sum.inl b:=fun q=>e (Sum.inl.inj q)
  rw [decide_eq_false h]
  exact (beq_eq_false_iff_ne.mpr e).symm
theorem key_rr (a b:Str):decide ((Sum.inr a:Key)=Sum.inr b)=decide (a=b):=by
 by_cases e:a=b
 ·subst e; simp
 ·have h:¬ (Sum.inr a:Key)=Sum.inr b:=fun q=>e (Sum.inr.inj q)
  rw [decide_eq_false h,decide_eq_false e]
theorem key_lr (a:Int) (b:Str):decide ((Sum.inl a:Key)=Sum.inr b)=false:=decide_eq_false (fun q=>nomatch q)
theorem key_rl (a:Str) (b:Int):decide ((Sum.inr a:Key)=Sum.inl b)=false:=decide_eq_false (fun q=>nomatch q)
noncomputable def yA (prog:Program) (w:World):PySem.KeyKind prog w Key where
 is:=J7
 hash:=keyH w
 inj:=fun v a b ha hb=>by
  rcases z8 ha with ⟨i,t,rfl,rfl⟩|⟨x,t,rfl,rfl⟩
  ·rcases z8 hb with ⟨j,u,rfl,e⟩|⟨y,u,rfl,e⟩
   ·injection e with e1 _; rw [e1]
   ·exact nomatch e
  ·rcases z8 hb with ⟨j,u,rfl,e⟩|⟨y,u,rfl,e⟩
   ·exact nomatch e
   ·injection e with e1 _; rw [e1]
 byValue:=fun k v h=>by
  rcases z8 h with ⟨i,t,rfl,rfl⟩|⟨x,t,rfl,rfl⟩<;>rfl
 pyHash:=fun hv h=>by
  rcases z8 hv with ⟨i,t,rfl,rfl⟩|⟨x,t,rfl,rfl⟩
  ·exact wpAny_pyHash_int h
  ·exact wpAny_pyHash_str h
 eqBool:=fun hu hv h=>by
  rcases z8 hu with ⟨i,t,rfl,rfl⟩|⟨x,t,rfl,rfl⟩
  ·rcases z8 hv with ⟨j,u,rfl,rfl⟩|⟨y,u,rfl,rfl⟩
   ·rw [key_ll] at h; exact wpAny_eqBool_int h
   ·rw [key_lr] at h; exact SeqAt.EqAt.int_str i t y u _ _ _ _ h
  ·rcases z8 hv with ⟨j,u,rfl,rfl⟩|⟨y,u,rfl,rfl⟩
   ·rw [key_rl] at h; exact SeqAt.EqAt.str_int x t j u _ _ _ _ h
   ·rw [key_rr] at h; exact wpAny_eqBool_str h
 «strs»:=fun k x t v h=>by
  rcases z8 h with ⟨i,u,rfl,e⟩|⟨y,u,rfl,e⟩
  ·exact nomatch e
  ·injection e with e1 _
   subst e1
   cases v<;>rfl
theorem mixKind_int (prog:Program) (w:World) (i:Int) (t:Tok):(yA prog w).is (.inl i) (.int i t)=true:=keyIs_int i t
theorem mixKind_str (prog:Program) (w:World) (x:Str) (t:Tok):(yA prog w).is (.inr x) (.str x t)=true:=keyIs_str x t
end L2
namespace L2
open PySem PySem.Spec PyProof.Rows
inductive V where
 |non|bl (b:Bool)|int (i:Int)|str (x:Str)|byt (b:Array UInt8)|flt (b:UInt64)|ref (a:Addr)|ty (n:String)
 deriving DecidableEq
noncomputable def RelV:V->Value->Prop
 |.non,u=>u=Value.none
 |.bl b,u=>u=Value.bool b
 |.int i,u=>∃ t,u=Value.int i t
 |.str x,u=>∃ t,u=Value.str x t
 |.byt b,u=>∃ t,u=Value.bytes b t
 |.flt b,u=>∃ t,u=Value.float b t
 |.ref a,u=>u=Value.ref a
 |.ty n,u=>u=Value.type n
noncomputable abbrev Vals:List V->List Value->Prop:=Paired RelV
theorem Vals.length {xs:List V} {us:List Value} (r:Vals xs us):xs.length=us.length:=Paired.length r
theorem Vals.get:∀ {xs:List V} {us:List Value} {i:Nat} {x:V},Vals xs us->xs[i]?=some x->∃ u,us[i]?=some u/\RelV x u
 |_,_,_,_,.nil,e=>by simp at e
 |_,_,0,_,.cons r _,e=>by simp at e; subst e; exact ⟨_,rfl,r⟩
 |_,_,i+1,x,.cons _ t,e=>by
  obtain ⟨u,h1,h2⟩:=Vals.get (i:=i) (x:=x) t (by simpa using e)
  exact ⟨u,by simpa using h1,h2⟩
theorem Vals.set {x:V} {u:Value} (r:RelV x u):∀ {xs:List V} {us:List Value} (i:Nat),Vals xs us->Vals (xs.set i x) (us.set i u)
 |_,_,_,.nil=>.nil
 |_,_,0,.cons _ t=>.cons r t
 |_,_,i+1,.cons q t=>.cons q (Vals.set r i t)
theorem Vals.append:∀ {xs ys:List V} {us ws:List Value},Vals xs us->Vals ys ws->Vals (xs++ys) (us++ws)
 |_,_,_,_,.nil,s=>s
 |_,_,_,_,.cons r t,s=>.cons r (Vals.append t s)
theorem Vals.take:∀ {xs:List V} {us:List Value} (n:Nat),Vals xs us->Vals (xs.take n) (us.take n)
 |_,_,0,_=>.nil
 |_,_,_+1,.nil=>.nil
 |_,_,n+1,.cons r t=>.cons r (Vals.take n t)
theorem Vals.drop:∀ {xs:List V} {us:List Value} (n:Nat),Vals xs us->Vals (xs.drop n) (us.drop n)
 |_,_,0,r=>r
 |_,_,_+1,.nil=>.nil
 |_,_,n+1,.cons _ t=>Vals.drop n t
noncomputable def RelO:Option V->Option Value->Prop
 |some v,some u=>RelV v u
 |none,none=>True
 |_,_=>False
noncomputable def KV {κ:Type}:List (κ × V)->List (κ × Value)->Prop:=Paired fun (p:κ × V) (q:κ × Value)=>p.1=q.1/\RelV p.2 q.2
noncomputable def kV:Key->V
 |.inl i=>.int i
 |.inr x=>.str x
inductive HO where
 |lst (xs:List V)
 |tup (xs:List V)
 |dK (kvs:List (Key × V))|dT (kvs:List (List Key × V))
 |set (S:Int->Bool) (n:Nat)
 |ins (C dx:Addr) (fs:List (Str × V))
 |own (x:Addr)
 |xd (fs:List (Str × V))
 |met (f x:Addr)
 |rng (lo hi:Int)
 |frz (o:Obj) (u:HO)
 |tbl (ps:Array Value)
 |ext (φ:Heap->Prop)
noncomputable abbrev Hp:=Addr->Option HO
noncomputable def upd (H:Hp) (a:Addr) (o:HO):Hp:=fun b=>if b=a then some o else H b
theorem zk {H:Hp} {a:Addr} {o:HO}:upd H a o a=some o:=by unfold upd; rw [if_pos rfl]
theorem zY {H:Hp} {a b:Addr} {o:HO} (h:b≠a):upd H a o b=H b:=by unfold upd; rw [if_neg h]
theorem upd_upd {H:Hp} {a:Addr} {o u:HO}:upd (upd H a o) a u=upd H a u:=by
 funext b; unfold upd; split<;>rfl
theorem zq {H:Hp} {a b:Addr} {o u:HO} (h:H a=some o) (h':H b=some u) (d:o≠u):a≠b:=by
 intro e; subst e; rw [h] at h'; exact d (Option.some.inj h')
theorem zO {H:Hp} {a b:Addr} {o:HO} (h:H a=some o) (h':H b=none):a≠b:=by
 intro e; subst e; rw [h] at h'; cases h'
section
variable (P:Program) (w:World)
noncomputable def zo (H:Hp) (h:Heap) (a:Addr):HO->Prop
 |.lst xs=>xs.length≤sizeLine∧∃ (its:List Value) (n:Nat),Vals xs its∧h.get? a=some {cls:=.type "list",data:=.seq its.toArray n}
 |.tup xs=>xs.length<=sizeLine/\∃ its:List Value,Vals xs its/\IsTup h a its.toArray
 |.dK kvs=>kvs.length<=sizeLine/\(a == sysModules)=false/\∃ vs,KV kvs vs/\h.DictOf (yA P w) a vs
 |.dT kvs=>kvs.length<=sizeLine/\(a == sysModules)=false/\∃ xs:List (List Key × Addr × Value),
   Paired (fun (p:List Key × V) (q:List Key × Addr × Value)=>p.1=q.1/\H q.2.1=some (.tup (p.1.map kV))/\RelV p.2 q.2.2) kvs xs∧
   ∃ o es ep,h.get? a=some o/\o.ExactDict/\o.data=.dict es ep/\es.toList=xs.map (entryOfKey (tupleKind (yA P w)))/\(xs.map (·.1)).Nodup
 |.set S n=>h.SetOf (intKind P w) a S n
 |.ins C dx fs=>H dx=some (.own a)/\fs.length<=1000/\dx≠a/\h.get? a=some (PySem.W.instObj C dx)∧
   ∃ mA,h.Ns1 dx mA/\(∀ f,RelO (fs.lookup f) (mA f))/\PySem.Within mA (fs.map (·.1))
 |.own _=>∃ o,h.get? a=some o
 |.xd fs=>∃ mA,h.Ns1 a mA/\∀ f,RelO (fs.lookup f) (mA f)
 |.rng lo hi=>∃ t u v,h.get? a=some {cls:=.type "range",data:=.fields #[.int lo t,.int hi u,.int 1 v]}
 |.frz o u=>h.get? a=some o/\zo H h a u
 |.tbl ps=>h.get? a=some {cls:=.none,data:=.fields ps}
 |.met f x=>h.get? a=some (PySem.W.methodObj (.ref f) (.ref x))
 |.ext φ=>φ h/\(∃ o,h.get? a=some o)/\∀ h1 h2:Heap,φ h1->(∀ o,h1.get? a=some o->h2.get? a=some o)->φ h2
noncomputable def HOk (H:Hp) (h:Heap):Prop:=∀ a o,H a=some o->zo P w H h a o
end
section
variable {P:Program} {w:World} {H H':Hp} {h h':Heap} {a:Addr} {o:HO}
theorem zo.lt (x:zo P w H h a o):a < h.objs.size:=by
 cases o with
 |lst xs=>obtain ⟨_,_,_,_,e⟩:=x; exact Heap.lt_size e
 |tup xs=>obtain ⟨_,_,_,p⟩:=x; exact p.lt
 |dK kvs=>obtain ⟨_,_,_,_,o,_,_,e,_⟩:=x; exact Heap.lt_size e
 |dT kvs=>obtain ⟨_,_,_,_,o,_,_,e,_⟩:=x; exact Heap.lt_size e
 |set S n=>obtain ⟨o,_,_,_,e,_⟩:=x; exact Heap.lt_size e
 |ins C dx fs=>obtain ⟨_,_,_,e,_⟩:=x; exact Heap.lt_size e
 |own y=>obtain ⟨_,e⟩:=x; exact Heap.lt_size e
 |xd fs=>obtain ⟨_,⟨_,_,_,e,_⟩,_⟩:=x; exact Heap.lt_size e
 |rng lo hi=>obtain ⟨_,_,_,e⟩:=x; exact Heap.lt_size e
 |frz ob u=>obtain ⟨e,_⟩:=x; exact Heap.lt_size e
 |tbl ps=>exact Heap.lt_size (show h.get? a=some _ from x)
 |met f y=>exact Heap.lt_size (show h.get? a=some _ from x)
 |ext φ=>obtain ⟨_,⟨_,e⟩,_⟩:=x; exact Heap.lt_size e
theorem Paired.mapP {α β:Type} {F G:α->β->Prop}:∀ {l₁:List α} {l₂:List β},Paired F l₁ l₂->(∀ a b,F a b->G a b)->Paired G l₁ l₂
 |_,_,.nil,_=>.nil
 |_,_,.cons r t,f=>.cons (f _ _ r) (Paired.mapP t f)
theorem zo.stay (x:zo P w H h a o) (k:∀ b u,(b=a∨H b=some (.own a))->h.get? b=some u->h'.get? b=some u)
  (ho:∀ b,H b=some (.own a)->H' b=some (.own a)) (ht:∀ b xs,H b=some (.tup xs)->H' b=some (.tup xs)):zo P w H' h' a o:=by
 induction o with
 |lst xs=>obtain ⟨z,its,n,r,e⟩:=x; exact ⟨z,its,n,r,k _ _ (.inl rfl) e⟩
 |tup xs=>obtain ⟨z,its,r,ob,e,c⟩:=x; exact ⟨z,its,r,ob,k _ _ (.inl rfl) e,c⟩
 |dK kvs=>obtain ⟨z,y,vs,r,ob,es,ep,e,c⟩:=x; exact ⟨z,y,vs,r,ob,es,ep,k _ _ (.inl rfl) e,c⟩
 |dT kvs=>
  obtain ⟨z,y,xs,r,ob,es,ep,e,c⟩:=x
  exact ⟨z,y,xs,Paired.mapP r fun p q z=>⟨z.1,ht _ _ z.2.1,z.2.2⟩,ob,es,ep,k _ _ (.inl rfl) e,c⟩
 |set S n=>obtain ⟨ob,es,ep,t,e,c⟩:=x; exact ⟨ob,es,ep,t,k _ _ (.inl rfl) e,c⟩
 |ins C dx fs=>
  obtain ⟨d,z,ne,e,mA,⟨od,es,ep,e2,c⟩,r⟩:=x
  exact ⟨ho _ d,z,ne,k _ _ (.inl rfl) e,mA,⟨od,es,ep,k _ _ (.inr d) e2,c⟩,r⟩
 |own y=>obtain ⟨ob,e⟩:=x; exact ⟨ob,k _ _ (.inl rfl) e⟩
 |xd fs=>obtain ⟨mA,⟨od,es,ep,e,c⟩,r⟩:=x; exact ⟨mA,⟨od,es,ep,k _ _ (.inl rfl) e,c⟩,r⟩
 |rng lo hi=>obtain ⟨t,u,v,e⟩:=x; exact ⟨t,u,v,k _ _ (.inl rfl) e⟩
 |frz ob u ih=>obtain ⟨e,q⟩:=x; exact ⟨k _ _ (.inl rfl) e,ih q⟩
 |tbl ps=>
  have e:h.get? a=some {cls:=.none,data:=.fields ps}:=x
  show h'.get? a=some {cls:=.none,data:=.fields ps}
  exact k a _ (.inl rfl) e
 |met f y=>
  have e:h.get? a=some (PySem.W.methodObj (.ref f) (.ref y)):=x
  show h'.get? a=some (PySem.W.methodObj (.ref f) (.ref y))
  exact k a _ (.inl rfl) e
 |ext φ=>obtain ⟨p,⟨o,e⟩,st⟩:=x; exact ⟨st _ _ p fun o q=>k _ _ (.inl rfl) q,⟨o,k _ _ (.inl rfl) e⟩,st⟩
theorem HOk.lt (x:HOk P w H h) (e:H a=some o):a < h.objs.size:=(x a o e).lt
theorem HOk.fresh (x:HOk P w H h) (e:h.objs.size<=a):H a=none:=by
 cases q:H a with
 |none=>rfl
 |some u=>exact absurd (Nat.lt_of_lt_of_le (x.lt q) e) (Nat.lt_irrefl _)
theorem HOk.kept (x:HOk P w H h) (k:∀ b u,h.get? b=some u->h'.get? b=some u):HOk P w H h':=fun a o e=>
 (x a o e).stay (fun b u _ q=>k b u q) (fun _ q=>q) fun _ _ q=>q
theorem HOk.laid (x:HOk P w H h) (k:∀ b u,h.get? b=some u->h'.get? b=some u) (hp:h.objs.size<=a) (new:zo P w (upd H a o) h' a o):HOk P w (upd H a o) h':=fun b u e=>by
 have hn:=x.fresh hp
 by_cases hb:b=a
 ·subst hb; rw [zk] at e; cases e; exact new
 ·rw [zY hb] at e
  exact (x b u e).stay (fun c v _ q=>k c v q) (fun c q=>by rw [zY (zO q hn)]; exact q) fun c xs q=>by rw [zY (zO q hn)]; exact q
end
noncomputable def Rd (H:Hp) (a:Addr) (u:HO):Prop:=H a=some u∨∃ o,H a=some (.frz o u)
theorem Rd.ok {P:Program} {w:World} {H:Hp} {h:Heap} {a:Addr} {u:HO} (r:Rd H a u) (x:HOk P w H h):zo P w H h a u:=by
 rcases r with r|⟨o,r⟩
 ·exact x a u r
 ·obtain ⟨_,q⟩:=x a _ r
  exact q
noncomputable def Mut:Option HO->Prop
 |some (.lst _)=>True
 |some (.dK _)=>True
 |some (.dT _)=>True
 |some (.set _ _)=>True
 |some (.ins _ _ _)=>True
 |some (.ext _)=>True
 |_=>False
section
variable {P:Program} {w:World} {H:Hp} {h h':Heap} {x e:Addr} {o':HO}
theorem HOk.write (ok:HOk P w H h) (mu:Mut (H x)) (he:e=x∨H e=some (.own x)) (k:∀ b u,b≠e->h.get? b=some u->h'.get? b=some u) (heo:∃ u,h'.get? e=some u)
  (new:zo P w (upd H x o') h' x o'):HOk P w (upd H x o') h':=fun b u q=>by
 have nown:∀ c y,H c=some (.own y)->c≠x:=fun c y r z=>by subst z; rw [r] at mu; exact mu
 have ntup:∀ c xs,H c=some (.tup xs)->c≠x:=fun c xs r z=>by subst z; rw [r] at mu; exact mu
 by_cases hb:b=x
 ·subst hb; rw [zk] at q; cases q; exact new
 ·rw [zY hb] at q
  by_cases hbe:b=e
  ·have q':H b=some (.own x):=by
    rcases he with z|z
    ·exact absurd (hbe.trans z) hb
    ·rw [hbe]; exact z
   rw [q] at q'; cases q'
   obtain ⟨v,hv⟩:=heo
   exact ⟨v,by rw [hbe]; exact hv⟩
  ·refine (ok b u q).stay (fun c v hc r=>k c v ?_ r) (fun c r=>by rw [zY (nown c b r)]; exact r) fun c xs r=>by rw [zY (ntup c xs r)]; exact r
   rcases hc with rfl|hc
   ·exact hbe
   ·rintro rfl
    rcases he with z|z
    ·exact nown c b hc z
    ·rw [hc] at z; cases z; exact hb rfl
end
structure Un (fs ex:List Addr) (H H':Hp) (h h':Heap):Prop where
 keep:∀ b o,h.get? b=some o->H b=none->b∉fs->b∉ex->h'.get? b=some o
 slot:∀ b o,h.get? b=some o->H b=none->b∈fs->b∉ex->∃ sl,h'.get? b=some {o with slots:=sl}
 free:∀ b o,h.get? b=some o->H b=none->b∉ex->H' b=none
 there:∀ b o,h.get? b=some o->b∉ex->∃ o',h'.get? b=some o'
 tups:∀ b xs,H b=some (.tup xs)->H' b=some (.tup xs)
 frzs:∀ b o u,H b=some (.frz o u)->H' b=some (.frz o u)
 tbls:∀ b ps,H b=some (.tbl ps)->∃ more,H' b=some (.tbl (ps++more))
section
variable {fs fs' ex ex':List Addr} {H H1 H2:Hp} {h h1 h2 h':Heap} {a x e:Addr} {o:HO}
theorem Un.any (u:Un fs ex H H1 h h1) {b:Addr} {ob:Obj} (q:h.get? b=some ob) (n:H b=none) (hx:b∉ex):∃ sl,h1.get? b=some {ob with slots:=sl}:=by
 by_cases hb:b∈fs
 ·exact u.slot b ob q n hb hx
 ·exact ⟨ob.slots,u.keep b ob q n hb hx⟩
theorem Un.kept (k:∀ b u,h.get? b=some u->h'.get? b=some u):Un fs ex H H h h':=
 ⟨fun b ob q _ _ _=>k b ob q,fun b ob q _ _ _=>⟨ob.slots,k b ob q⟩,fun _ _ _ n _=>n,fun b ob q _=>⟨ob,k b ob q⟩,fun _ _ q=>q,fun _ _ _ q=>q,fun _ ps q=>⟨#[],by rw [q]; simp⟩⟩
theorem Un.refl:Un fs ex H H h h:=Un.kept fun _ _ q=>q
theorem Un.laid (k:∀ b u,h.get? b=some u->h'.get? b=some u) (hp:h.objs.size<=a) (hn:H a=none):Un fs ex H (upd H a o) h h' where
 keep:=fun b u q _ _ _=>k b u q
 slot:=fun b u q _ _ _=>⟨u.slots,k b u q⟩
 free:=fun b u q n _=>by rw [zY (Nat.ne_of_lt (Nat.lt_of_lt_of_le (Heap.lt_size q) hp))]; exact n
 there:=fun b u q _=>⟨u,k b u q⟩
 tups:=fun b xs q=>by rw [zY (zO q hn)]; exact q
 frzs:=fun b u xs q=>by rw [zY (zO q hn)]; exact q
 tbls:=fun b ps q=>⟨#[],by rw [zY (zO q hn),q]; simp⟩
theorem Un.write (mu:Mut (H x)) (he:e=x∨H e=some (.own x)) (k:∀ b u,b≠e->h.get? b=some u->h'.get? b=some u) (heo:∃ u,h'.get? e=some u):Un fs ex H (upd H x o) h h':=by
 have hx:∀ b,H b=none->b≠x:=fun b n z=>by subst z; rw [n] at mu; exact mu
 have hb:∀ b,H b=none->b≠e:=fun b n z=>by
  subst z
  rcases he with r|r
  ·exact hx b n r
  ·rw [n] at r; cases r
 have hm:∀ b u,H b=some u->¬ Mut (some u)->b≠x:=fun b u q nm z=>by subst z; rw [q] at mu; exact nm mu
 refine ⟨fun b u q n _ _=>k b u (hb b n) q,fun b u q n _ _=>⟨u.slots,k b u (hb b n) q⟩,fun b u q n _=>by rw [zY (hx b n)]; exact n,fun b u q _=>?_,
  fun b xs q=>by rw [zY (hm b _ q fun z=>z)]; exact q,fun b u xs q=>by rw [zY (hm b _ q fun z=>z)]; exact q,fun b ps q=>⟨#[],by rw [zY (hm b _ q fun z=>z),q]; simp⟩⟩
 by_cases hbe:b=e
 ·subst hbe; exact heo
 ·exact ⟨u,k b u hbe q⟩
end
noncomputable def trk (h:Heap) (H:Hp):List Addr:=(List.range h.objs.size).filter fun a=>(H a).isSome
noncomputable def hidT (h:Heap) (H:Hp):Heap:=PySem.W.hideAll h (trk h H)
theorem hidT_size (h:Heap) (H:Hp):(hidT h H).objs.size=h.objs.size:=PySem.W.hideAll_size _ _
theorem hidT_get {h:Heap} {H:Hp} {b:Addr} {o:Obj} (e:h.get? b=some o) (n:H b=none):(hidT h H).get? b=some o:=
 PySem.W.hideAll_get _ e fun hm=>by
  have q:(H b).isSome=true:=(List.mem_filter.mp hm).2
  rw [n] at q; simp at q
theorem of_hidT {h:Heap} {H:Hp} {b:Addr} {o:Obj} (e:(hidT h H).get? b=some o):h.get? b=some o/\H b=none:=by
 have e':h.get? b=some o:=PySem.W.of_hideAll (trk h H) e
 refine ⟨e',?_⟩
 cases q:H b with
 |none=>rfl
 |some x=>
  have hm:b∈trk h H:=List.mem_filter.mpr ⟨List.mem_range.mpr (Heap.lt_size e'),by simp [q]⟩
  have z:(hidT h H).get? b=none:=PySem.W.hideAll_none (trk h H) hm
  rw [z] at e; cases e
end L2
namespace L2
open PySem PySem.Spec PyProof.Rows
structure Mod (K:PySem.W.Frag) (mg:Str->Option Value) (base:Heap):Prop where
 kin:K.In base
 glob:base.Ns mainGlobals mg
 blt:∃ mb,base.Ns builtinsNs mb∧∀ x:Str,x≠"__name__"→mb x=bootBuiltins x
 nolimit:base.NoLimit
structure Cx where
 prog:Program
 w:World
 K:PySem.W.Frag
 mg:Str->Option Value
 base:Heap
 A:Around
 N:List Str
 s₀:Shared
 H₀:Hp
 env:Env
 outer:List Env
 stack:List Env
 ex:List Addr
 fn:Str->Bool
 calm:Bool
 pn:List (Addr × Obj)
 xe:Value->Shared->Prop
noncomputable def frs (l:List Env):List Addr:=l.filterMap (·.frame)
noncomputable abbrev Cx.fs (X:Cx):List Addr:=frs X.outer
noncomputable def Vis (sc:Scope) (x:Str):Prop:=sc.names.lookup x=some .local∨sc.names.lookup x=some .cell∨sc.names.lookup x=some .free
noncomputable def Loc (sc:Scope) (x:Str):Prop:=sc.names.lookup x=some .local∨sc.names.lookup x=some .cell
noncomputable def Look (env:Env) (h:Heap) (m:Str->Option Value) (x:Str) (u:Value):Prop:=
 (env.kindOf x=some .local/\m x=some u)∨((env.kindOf x=some .cell∨env.kindOf x=some .free)/\∃ c,env.cells.lookup x=some c/\h.IsCell c (some u))
structure Cx.Ok (X:Cx):Prop where
 mod:Mod X.K X.mg X.base
 kind:X.env.scope.kind=.function
 glob:X.env.globals=mainGlobals
 blt:X.env.builtins=builtinsNs
 above:X.s₀.heap.objs.size<=X.env.locals
 inj:∀ x y c,X.env.cells.lookup x=some c->X.env.cells.lookup y=some c->x=y
 has:∀ x,(X.env.kindOf x=some .cell∨X.env.kindOf x=some .free)->∃ c,X.env.cells.lookup x=some c
 cab:∀ x c,X.fn x=true->X.env.cells.lookup x=some c->X.s₀.heap.objs.size<=c
 hd:X.calm=true->X.A.handled=none
 frames:X.A.frames=some X.stack
 stk:X.stack=X.outer∨(X.stack=X.env::X.outer/\X.env.frame=some X.env.locals)
 exf:∀ b∈X.ex,b≠X.env.locals/\∀ x c,X.env.cells.lookup x=some c->c≠b
 bs:∀ b o,X.base.get? b=some o->X.s₀.heap.get? b=some o/\X.H₀ b=none
 bsz:X.base.objs.size<=X.s₀.heap.objs.size
 noex:∀ b o,X.base.get? b=some o->b∉X.ex
 exfs:∀ b∈X.ex,b∉X.fs
 funs:X.s₀.heap.FunFrames X.base X.outer
 frf:∀ b∈X.fs,X.H₀ b=none
structure Inv (X:Cx) (pins:List (Addr × Obj)) (σ:List (Option V)) (H:Hp) (s:Shared):Prop where
 ok:X.Ok
 os:s.os=X.s₀.os
 bare:AllBare s.gens
 base:Un X.fs X.ex X.H₀ H X.s₀.heap s.heap
 loc:∃ m,s.heap.Ns X.env.locals m/\∀ (i:Nat) (x:Str) (v:V),X.N[i]?=some x->σ[i]?=some (some v)->Vis X.env.scope x->∃ u,RelV v u/\Look X.env s.heap m x u
 cell:∀ x c,X.env.cells.lookup x=some c->∃ v,s.heap.IsCell c v
 free:H X.env.locals=none
 freeC:∀ x c,X.env.cells.lookup x=some c->H c=none
 pin:∀ p∈X.pn++pins,s.heap.get? p.1=some p.2/\H p.1=none/\p.1≠X.env.locals/\p.1∉X.fs/\∀ v,p.2.data≠.cell v
 hok:HOk X.prog X.w H s.heap
 len:σ.length=X.N.length
section
variable {X:Cx} {pins:List (Addr × Obj)} {σ:List (Option V)} {H H':Hp} {s:Shared} {h':Heap}
theorem Cx.Ok.nofr (ok:X.Ok) {b:Addr} {o:Obj} (e:X.base.get? b=some o):b∉X.fs:=fun hb=>by
 have:=(ok.funs.mem hb).1
 rw [e] at this; cases this
theorem Inv.bs (I:Inv X pins σ H s):∀ b o,X.base.get? b=some o->s.heap.get? b=some o/\H b=none:=fun b o e=>
 ⟨I.base.keep b o (I.ok.bs b o e).1 (I.ok.bs b o e).2 (I.ok.nofr e) (I.ok.noex b o e),I.base.free b o (I.ok.bs b o e).1 (I.ok.bs b o e).2 (I.ok.noex b o e)⟩
theorem Inv.bk (I:Inv X pins σ H s):∀ b o,X.base.get? b=some o->s.heap.get? b=some o:=fun b o e=>(I.bs b o e).1
theorem Inv.mod (I:Inv X pins σ H s):Mod X.K X.mg X.base:=I.ok.mod
theorem Inv.kIn (I:Inv X pins σ H s):X.K.In s.heap:=I.ok.mod.kin.keeps I.bk
theorem Inv.lt (I:Inv X pins σ H s):X.env.locals < s.heap.objs.size:=let ⟨_,hn,_⟩:=I.loc; hn.lt
theorem Inv.sz (I:Inv X pins σ H s):X.s₀.heap.objs.size<=s.heap.objs.size:=Nat.le_trans I.ok.above (Nat.le_of_lt I.lt)
theorem Inv.nofs (I:Inv X pins σ H s) {a:Addr} (h:s.heap.objs.size<=a):a∉X.fs:=fun hb=>by
 obtain ⟨_,o,ho,_⟩:=I.ok.funs.mem hb
 exact absurd (Nat.lt_of_lt_of_le (Heap.lt_size ho) (Nat.le_trans I.sz h)) (Nat.lt_irrefl _)
theorem Inv.cne (I:Inv X pins σ H s):∀ x c,X.env.cells.lookup x=some c->c≠X.env.locals:=fun x c e z=>by
 obtain ⟨v,o,ho,hd⟩:=I.cell x c e
 obtain ⟨m,⟨o',es,ep,ho',hd',_⟩,_⟩:=I.loc
 rw [z,ho'] at ho; cases ho; rw [hd'] at hd; cases hd
theorem Inv.funs (I:Inv X pins σ H s):s.heap.FunFrames X.base X.outer:=by
 have all:∀ (l:List Env),(∀ b∈frs l,b∈X.fs)->X.s₀.heap.FunFrames X.base l->s.heap.FunFrames X.base l:=by
  intro l
  induction l with
  |nil=>intro _ _; trivial
  |cons env r ih=>
   intro hs hl
   obtain ⟨hk,⟨L,o,hf,hn,ho,hd⟩,hr⟩:=hl
   have hL:L∈X.fs:=hs L (by unfold frs; rw [List.filterMap_cons,hf]; exact List.mem_cons_self)
   obtain ⟨sl,e⟩:=I.base.slot L o ho (I.ok.frf L hL) hL fun z=>I.ok.exfs L z hL
   exact ⟨hk,⟨L,_,hf,hn,e,hd⟩,ih (fun b hb=>hs b (by unfold frs; rw [List.filterMap_cons,hf]; exact List.mem_cons_of_mem _ hb)) hr⟩
 exact all X.outer (fun _ hb=>hb) I.ok.funs
theorem Inv.stack (I:Inv X pins σ H s):s.heap.FunFrames X.base X.stack:=by
 rcases I.ok.stk with e|⟨e,hf⟩
 ·rw [e]; exact I.funs
 ·rw [e]
  obtain ⟨m,hn,_⟩:=I.loc
  refine .cons (by rw [I.ok.kind]; decide) hf hn ?_ I.funs
  exact Heap.get?_none_of_le (Nat.le_trans I.ok.bsz I.ok.above)
theorem Inv.stkSub (I:Inv X pins σ H s):∀ b∈frs X.stack,b∈X.env.locals::X.fs:=fun b hb=>by
 rcases I.ok.stk with e|⟨e,hf⟩
 ·rw [e] at hb; exact List.mem_cons_of_mem _ hb
 ·rw [e] at hb
  unfold frs at hb
  rw [List.filterMap_cons,hf] at hb
  exact hb
theorem Inv.stkFree (I:Inv X pins σ H s):∀ b∈frs X.stack,H b=none:=fun b hb=>by
 rcases List.mem_cons.mp (I.stkSub b hb) with e|hb
 ·rw [e]; exact I.free
 ·obtain ⟨_,o,ho,_⟩:=I.ok.funs.mem hb
  exact I.base.free b o ho (I.ok.frf b hb) fun z=>I.ok.exfs b z hb
theorem Inv.step {g':Array GenState} {t':Nat} {d':Drawn} {ch:List Addr} (I:Inv X pins σ H s)
  (hch:∀ b∈ch,(b∈X.ex∨X.s₀.heap.objs.size<=b)/\b≠X.env.locals/\(∀ x c,X.env.cells.lookup x=some c->c≠b)/\∀ p∈X.pn++pins,p.1≠b)
  (keep:∀ b o,b≠X.env.locals->b∉X.fs->b∉ch->s.heap.get? b=some o->H b=none->h'.get? b=some o)
  (slot:∀ b o,b≠X.env.locals->b∈X.fs->b∉ch->s.heap.get? b=some o->H b=none->∃ sl,h'.get? b=some {o with slots:=sl}) (free:∀ b o,b∉ch->s.heap.get? b=some o->H b=none->H' b=none)
  (there:∀ b o,b∉ch->s.heap.get? b=some o->∃ o',h'.get? b=some o')
  (tups:∀ b xs,H b=some (.tup xs)->H' b=some (.tup xs)) (frzs:∀ b o u,H b=some (.frz o u)->H' b=some (.frz o u)) (tbls:∀ b ps,H b=some (.tbl ps)->∃ more,H' b=some (.tbl (ps++more)))
  (ns:∀ m,s.heap.Ns X.env.locals m->h'.Ns X.env.locals m) (hok:HOk X.prog X.w H' h') (hg:AllBare g') :
  Inv X pins σ H' {s with heap:=h',gens:=g',drawn:=d',toks:=t'}:=by
 have neL:∀ b o,X.s₀.heap.get? b=some o->b≠X.env.locals:=fun b o e=>Nat.ne_of_lt (Nat.lt_of_lt_of_le (Heap.lt_size e) I.ok.above)
 have neC:∀ b o,X.s₀.heap.get? b=some o->b∉X.ex->b∉ch:=fun b o e hx hb=>by
  rcases (hch b hb).1 with z|z
  ·exact hx z
  ·exact absurd (Nat.lt_of_lt_of_le (Heap.lt_size e) z) (Nat.lt_irrefl _)
 have cellK:∀ x c,X.env.cells.lookup x=some c->∀ v,s.heap.IsCell c v->h'.IsCell c v:=fun x c e v ⟨o,ho,hd⟩=>by
  have nch:c∉ch:=fun z=>(hch c z).2.2.1 x c e rfl
  by_cases hc:c∈X.fs
  ·obtain ⟨sl,q⟩:=slot c o (I.cne x c e) hc nch ho (I.freeC x c e)
   exact ⟨_,q,hd⟩
  ·exact ⟨o,keep c o (I.cne x c e) hc nch ho (I.freeC x c e),hd⟩
 refine ⟨I.ok,I.os,hg,⟨fun b o e n hb hx=>?_,fun b o e n hb hx=>?_,fun b o e n hx=>?_,fun b o e hx=>?_,fun b xs e=>tups b xs (I.base.tups b xs e),fun b o xs e=>frzs b o xs (I.base.frzs b o xs e),fun b ps e=>?_⟩,?_,fun x c e=>?_,?_,fun x c e=>?_,fun p hp=>?_,hok,I.len⟩
 ·exact keep b o (neL b o e) hb (neC b o e hx) (I.base.keep b o e n hb hx) (I.base.free b o e n hx)
 ·obtain ⟨sl,e1⟩:=I.base.slot b o e n hb hx
  obtain ⟨sl',e2⟩:=slot b _ (neL b o e) hb (neC b o e hx) e1 (I.base.free b o e n hx)
  exact ⟨sl',e2⟩
 ·obtain ⟨o',e1⟩:=I.base.there b o e hx
  exact free b o' (neC b o e hx) e1 (I.base.free b o e n hx)
 ·obtain ⟨o',e1⟩:=I.base.there b o e hx
  exact there b o' (neC b o e hx) e1
 ·obtain ⟨m1,e1⟩:=I.base.tbls b ps e
  obtain ⟨m2,e2⟩:=tbls b _ e1
  exact ⟨m1++m2,by rw [e2,Array.append_assoc]⟩
 ·obtain ⟨m,hn,hl⟩:=I.loc
  refine ⟨m,ns m hn,fun i x v e1 e2 e3=>?_⟩
  obtain ⟨u,r,l⟩:=hl i x v e1 e2 e3
  refine ⟨u,r,?_⟩
  rcases l with l|⟨k,c,e,z⟩
  ·exact .inl l
  ·exact .inr ⟨k,c,e,cellK x c e _ z⟩
 ·obtain ⟨v,z⟩:=I.cell x c e
  exact ⟨v,cellK x c e v z⟩
 ·obtain ⟨m,⟨o,_,_,ho,_⟩,_⟩:=I.loc
  exact free _ o (fun z=>(hch _ z).2.1 rfl) ho I.free
 ·obtain ⟨v,o,ho,hd⟩:=I.cell x c e
  exact free c o (fun z=>(hch c z).2.2.1 x c e rfl) ho (I.freeC x c e)
 ·obtain ⟨e,n,ne,nf,d⟩:=I.pin p hp
  have nch:p.1∉ch:=fun z=>(hch p.1 z).2.2.2 p hp rfl
  exact ⟨keep p.1 p.2 ne nf nch e n,free p.1 p.2 nch e n,ne,nf,d⟩
theorem Inv.un {t':Nat} (I:Inv X pins σ H s) (u:Un X.fs [] H H' s.heap h') (hok:HOk X.prog X.w H' h'):Inv X pins σ H' {s with heap:=h',toks:=t'}:=by
 obtain ⟨m,⟨o,es,ep,ho,r⟩,_⟩:=id I.loc
 obtain ⟨sl,hL⟩:=u.any ho I.free (by simp)
 exact I.step (g':=s.gens) (d':=s.drawn) (ch:=[]) (fun _ z=>nomatch z) (fun b o _ hb _ e n=>u.keep b o e n hb (by simp)) (fun b o _ hb _ e n=>u.slot b o e n hb (by simp)) (fun b o _ e n=>u.free b o e n (by simp)) (fun b o _ e=>u.there b o e (by simp)) u.tups u.frzs u.tbls (fun m' hm=>by
  obtain ⟨o',es',ep',ho',r'⟩:=hm
  rw [ho] at ho'; cases ho'
  exact ⟨_,es',ep',hL,r'⟩) hok I.bare
theorem Inv.call {g':Array GenState} {t':Nat} {d':Drawn} {ch:List Addr} (I:Inv X pins σ H s) (u:Un (frs X.stack) ch H H' s.heap h') (hok:HOk X.prog X.w H' h') (hg:AllBare g')
  (hch:∀ b∈ch,(b∈X.ex∨X.s₀.heap.objs.size<=b)/\b≠X.env.locals/\(∀ x c,X.env.cells.lookup x=some c->c≠b)/\∀ p∈X.pn++pins,p.1≠b) :
  Inv X pins σ H' {s with heap:=h',gens:=g',drawn:=d',toks:=t'}:=by
 obtain ⟨m,⟨o,es,ep,ho,r⟩,_⟩:=id I.loc
 obtain ⟨sl,hL⟩:=u.any ho I.free fun z=>(hch _ z).2.1 rfl
 exact I.step (ch:=ch) hch (fun b o hL hb hc e n=>u.keep b o e n (fun z=>(List.mem_cons.mp (I.stkSub b z)).elim hL hb) hc) (fun b o _ _ hc e n=>u.any e n hc) (fun b o hc e n=>u.free b o e n hc) (fun b o hc e=>u.there b o e hc) u.tups u.frzs u.tbls (fun m' hm=>by
  obtain ⟨o',es',ep',ho',r'⟩:=hm
  rw [ho] at ho'; cases ho'
  exact ⟨_,es',ep',hL,r'⟩) hok hg
theorem Inv.turned {t':Nat} {it:Addr} (I:Inv X pins σ H s) (k:∀ b o,b≠it->s.heap.get? b=some o->h'.get? b=some o) (hn:H it=none) (hL:it≠X.env.locals)
  (h1:it∈X.ex∨X.s₀.heap.objs.size<=it) (h2:∀ x c,X.env.cells.lookup x=some c->c≠it) (h3:∀ p∈X.pn++pins,p.1≠it):Inv X pins σ H {s with heap:=h',toks:=t'}:=by
 have nit:∀ b u,H b=some u->b≠it:=fun b u e z=>by rw [z,hn] at e; cases e
 refine I.step (g':=s.gens) (d':=s.drawn) (ch:=[it]) (fun b hb=>?_) (fun b o _ _ hc e _=>k b o (fun z=>hc (by simp [z])) e) (fun b o _ _ hc e _=>⟨o.slots,k b o (fun z=>hc (by simp [z])) e⟩) (fun _ _ _ _ n=>n)
  (fun b o hc e=>⟨o,k b o (fun z=>hc (by simp [z])) e⟩) (fun _ _ e=>e) (fun _ _ _ e=>e) (fun b ps e=>⟨#[],by rw [e]; simp⟩) (fun m hm=>?_) (fun b u e=>?_) I.bare
 ·have e:b=it:=by simpa using hb
  subst e
  exact ⟨h1,hL,h2,h3⟩
 ·obtain ⟨o,es,ep,ho,r⟩:=hm
  exact ⟨o,es,ep,k _ o (Ne.symm hL) ho,r⟩
 ·refine (I.hok b u e).stay (fun c v hc q=>k c v ?_ q) (fun _ q=>q) fun _ _ q=>q
  rcases hc with z|z
  ·rw [z]; exact nit b u e
  ·exact nit c _ z
theorem Inv.tok (I:Inv X pins σ H s) (t:Nat):Inv X pins σ H {s with toks:=t}:=I.un (h':=s.heap) (t':=t) Un.refl I.hok
theorem Inv.kept {t':Nat} (I:Inv X pins σ H s) (k:∀ b u,s.heap.get? b=some u->h'.get? b=some u):Inv X pins σ H {s with heap:=h',toks:=t'}:=I.un (Un.kept k) (I.hok.kept k)
theorem Inv.laid {a:Addr} {o:HO} {t':Nat} (I:Inv X pins σ H s) (k:∀ b u,s.heap.get? b=some u->h'.get? b=some u) (hp:s.heap.objs.size<=a) (new:zo X.prog X.w (upd H a o) h' a o) :
  Inv X pins σ (upd H a o) {s with heap:=h',toks:=t'}:=I.un (Un.laid k hp (I.hok.fresh hp)) (I.hok.laid k hp new)
theorem Inv.write {x e:Addr} {o:HO} {t':Nat} (I:Inv X pins σ H s) (mu:Mut (H x)) (he:e=x∨H e=some (.own x)) (k:∀ b u,b≠e->s.heap.get? b=some u->h'.get? b=some u) (heo:∃ u,h'.get? e=some u)
  (new:zo X.prog X.w (upd H x o) h' x o):Inv X pins σ (upd H x o) {s with heap:=h',toks:=t'}:=I.un (Un.write mu he k heo) (I.hok.write mu he k heo new)
theorem Inv.pins_of {pins':List (Addr × Obj)} (I:Inv X pins σ H s) (h:∀ p∈pins',s.heap.get? p.1=some p.2/\H p.1=none/\p.1≠X.env.locals/\p.1∉X.fs/\∀ v,p.2.data≠.cell v):Inv X pins' σ H s:=
 ⟨I.ok,I.os,I.bare,I.base,I.loc,I.cell,I.free,I.freeC,fun p hp=>(List.mem_append.mp hp).elim (fun z=>I.pin p (List.mem_append_left _ z)) (h p),I.hok,I.len⟩
theorem nodup_ix {N:List Str} (hN:N.Nodup) {i j:Nat} {x:Str} (a:N[i]?=some x) (b:N[j]?=some x):i=j:=by
 obtain ⟨h1,e1⟩:=List.getElem?_eq_some_iff.mp a
 obtain ⟨h2,e2⟩:=List.getElem?_eq_some_iff.mp b
 exact (List.getElem_inj hN).mp (e1.trans e2.symm)
theorem J8 {M:Model} {A:Around} {E:Value->Shared->Prop} {i:Nat} {x:Str} {v:V} {u:Value} {Q:Unit->Shared->Prop} (I:Inv X pins σ H s) (hN:X.N.Nodup) (hi:X.N[i]?=some x) (hx:Loc X.env.scope x) (r:RelV v u)
  (h:∀ s',Inv X pins (σ.set i (some v)) H s'->(∃ a,Heap.SameBut a s.heap s'.heap/\(a=X.env.locals∨X.env.cells.lookup x=some a))->Q () s') (hf:X.fn x=true∨X.env.scope.names.lookup x=some .local:=by first|exact .inl rfl|exact .inr rfl|assumption):wpAny M A (storeName X.env x u) Q E s:=by
 obtain ⟨m,hn,hl⟩:=id I.loc
 have hcls:(X.env.scope.kind == .class || (X.env.scope.kind == .module && X.env.locals != X.env.globals))=false:=by rw [I.ok.kind]; rfl
 have hiσ:i < σ.length:=by rw [I.len]; exact (List.getElem?_eq_some_iff.mp hi).1
 have cne:=I.cne
 have tracked:∀ {a:Addr} {h':Heap},(∃ o,s.heap.get? a=some o/\H a=none)->Heap.SameBut a s.heap h'->HOk X.prog X.w H h':=fun {a h'} ha hs b ob e=>by
  obtain ⟨_,_,hfree⟩:=ha
  refine (I.hok b ob e).stay (fun c w' hc q=>(hs.2 c ?_).trans q) (fun _ q=>q) fun _ _ q=>q
  rintro rfl
  rcases hc with rfl|hc
  ·rw [hfree] at e; cases e
  ·rw [hfree] at hc; cases hc
 rcases hx with hk|hk
 ·refine wpAny_storeName_local hk hn (fun h' hn' hs=>?_) hcls
  obtain ⟨oL,_,_,hoL,_⟩:=id hn
  refine h _ ⟨I.ok,I.os,I.bare,⟨fun b o e n hb hx=>?_,fun b o e n hb hx=>?_,I.base.free,fun b o e hx=>?_,I.base.tups,I.base.frzs,I.base.tbls⟩,⟨_,hn',fun j y v' e1 e2 e3=>?_⟩,fun y c e=>?_,I.free,I.freeC,fun p hp=>?_,tracked ⟨oL,hoL,I.free⟩ hs,by simpa using I.len⟩ ⟨_,hs,.inl rfl⟩
  ·exact (hs.2 b (Nat.ne_of_lt (Nat.lt_of_lt_of_le (Heap.lt_size e) I.ok.above))).trans (I.base.keep b o e n hb hx)
  ·obtain ⟨sl,e1⟩:=I.base.slot b o e n hb hx
   exact ⟨sl,(hs.2 b (Nat.ne_of_lt (Nat.lt_of_lt_of_le (Heap.lt_size e) I.ok.above))).trans e1⟩
  ·obtain ⟨o',e1⟩:=I.base.there b o e hx
   exact ⟨o',(hs.2 b (Nat.ne_of_lt (Nat.lt_of_lt_of_le (Heap.lt_size e) I.ok.above))).trans e1⟩
  ·by_cases hj:j=i
   ·subst hj
    rw [hi] at e1; cases e1
    rw [List.getElem?_set_self hiσ] at e2
    cases e2
    exact ⟨u,r,.inl ⟨hk,by simp⟩⟩
   ·rw [List.getElem?_set_ne (Ne.symm hj)] at e2
    obtain ⟨u',r',q⟩:=hl j y v' e1 e2 e3
    refine ⟨u',r',?_⟩
    rcases q with ⟨k,e⟩|⟨k,c,e,z⟩
    ·refine .inl ⟨k,?_⟩
     have:y≠x:=fun e=>hj (nodup_ix hN e1 (e▸hi))
     simp [this,e]
    ·exact .inr ⟨k,c,e,z.sameBut hs (cne y c e)⟩
  ·obtain ⟨w',z⟩:=I.cell y c e
   exact ⟨w',z.sameBut hs (cne y c e)⟩
  ·obtain ⟨e,n,ne,nf,d⟩:=I.pin p hp
   exact ⟨(hs.2 p.1 ne).trans e,n,ne,nf,d⟩
 ·have hfn:X.fn x=true:=by
   rcases hf with z|z
   ·exact z
   ·rw [z] at hk; cases hk
  obtain ⟨c,hc⟩:=I.ok.has x (.inl hk)
  obtain ⟨w',z⟩:=I.cell x c hc
  refine wpAny_storeName_cell I.ok.kind hk hc z (fun h' hc' hs=>?_)
  obtain ⟨oc,hoc,hocd⟩:=id z
  refine h {s with heap:=h'} ⟨I.ok,I.os,I.bare,⟨fun b o e n hb hx=>?_,fun b o e n hb hx=>?_,I.base.free,fun b o e hx=>?_,I.base.tups,I.base.frzs,I.base.tbls⟩,⟨m,hn.sameBut hs (Ne.symm (cne x c hc)),fun j y v' e1 e2 e3=>?_⟩,fun y c' e=>?_,I.free,I.freeC,fun p hp=>?_,tracked ⟨oc,hoc,I.freeC x c hc⟩ hs,by simpa using I.len⟩ ⟨c,hs,.inr hc⟩
  ·exact (hs.2 b (Nat.ne_of_lt (Nat.lt_of_lt_of_le (Heap.lt_size e) (I.ok.cab x c hfn hc)))).trans (I.base.keep b o e n hb hx)
  ·obtain ⟨sl,e1⟩:=I.base.slot b o e n hb hx
   exact ⟨sl,(hs.2 b (Nat.ne_of_lt (Nat.lt_of_lt_of_le (Heap.lt_size e) (I.ok.cab x c hfn hc)))).trans e1⟩
  ·obtain ⟨o',e1⟩:=I.base.there b o e hx
   exact ⟨o',(hs.2 b (Nat.ne_of_lt (Nat.lt_of_lt_of_le (Heap.lt_size e) (I.ok.cab x c hfn hc)))).trans e1⟩
  ·by_cases hj:j=i
   ·subst hj
    rw [hi] at e1; cases e1
    rw [List.getElem?_set_self hiσ] at e2
    cases e2
    exact ⟨u,r,.inr ⟨.inl hk,c,hc,hc'⟩⟩
   ·rw [List.getElem?_set_ne (Ne.symm hj)] at e2
    obtain ⟨u',r',q⟩:=hl j y v' e1 e2 e3
    refine ⟨u',r',?_⟩
    rcases q with q|⟨k,c',e,z'⟩
    ·exact .inl q
    ·refine .inr ⟨k,c',e,z'.sameBut hs ?_⟩
     rintro rfl
     exact hj (nodup_ix hN e1 (I.ok.inj _ _ _ e hc▸hi))
  ·by_cases hcc:c'=c
   ·subst hcc; exact ⟨_,hc'⟩
   ·obtain ⟨w2,z2⟩:=I.cell y c' e
    exact ⟨w2,z2.sameBut hs hcc⟩
  ·obtain ⟨e,n,ne,nf,d⟩:=I.pin p hp
   refine ⟨(hs.2 p.1 ?_).trans e,n,ne,nf,d⟩
   intro q
   rw [q,hoc] at e
   have q':oc=p.2:=Option.some.inj e
   exact d w' (by rw [<- q']; exact hocd)
theorem YZ {M:Model} {A:Around} {E:Value->Shared->Prop} {i:Nat} {x:Str} {v:V} {u:Value} {Q:Unit->Shared->Prop} (I:Inv X pins σ H s) (hN:X.N.Nodup) (hi:X.N[i]?=some x) (hx:Loc X.env.scope x) (r:RelV v u)
  (h:∀ s',Inv X pins (σ.set i (some v)) H s'->Q () s') (hf:X.fn x=true∨X.env.scope.names.lookup x=some .local:=by first|exact .inl rfl|exact .inr rfl|assumption):wpAny M A (storeName X.env x u) Q E s:=
 J8 I hN hi hx r (fun s' I' _=>h s' I') hf
end
noncomputable abbrev XK:=Value->Option Addr->Hp->Prop
noncomputable abbrev St:=List (Option V)
noncomputable abbrev VK:=V->Hp->Prop
noncomputable abbrev TE:=St->Hp->VK->Prop
noncomputable abbrev TT:=St->Hp->(Bool->Hp->Prop)->Prop
noncomputable abbrev TA:=St->Hp->(List V->Hp->Prop)->Prop
structure Ends where
 nx:St->Hp->Prop
 rt:VK
 bk:St->Hp->Prop:=fun _ _=>False
 ct:St->Hp->Prop:=fun _ _=>False
noncomputable abbrev TS:=Ends->St->Hp->Prop
noncomputable def EP (X:Cx) (pins:List (Addr × Obj)) (σ:St) (Q:VK) (u:Value) (s':Shared):Prop:=∃ v H',Inv X pins σ H' s'/\RelV v u/\Q v H'
noncomputable def TP (X:Cx) (pins:List (Addr × Obj)) (σ:St) (Q:Bool->Hp->Prop) (b:Bool) (s':Shared):Prop:=∃ H',Inv X pins σ H' s'/\Q b H'
noncomputable def AP (X:Cx) (pins:List (Addr × Obj)) (σ:St) (Q:List V->Hp->Prop) (us:List Value) (s':Shared):Prop:=∃ vs H',Inv X pins σ H' s'/\Vals vs us/\Q vs H'
noncomputable def SP (X:Cx) (pins:List (Addr × Obj)) (D:Ends) (f:Flow) (s':Shared):Prop:=
 match f with
 |.next=>∃ σ' H',Inv X pins σ' H' s'/\D.nx σ' H'
 |.brk=>∃ σ' H',Inv X pins σ' H' s'/\D.bk σ' H'
 |.cont=>∃ σ' H',Inv X pins σ' H' s'/\D.ct σ' H'
 |.ret u=>∃ v σ' H',Inv X pins σ' H' s'/\RelV v u/\D.rt v H'
noncomputable def PE (X:Cx) (e:Expr) (t:TE):Prop:=
 ∀ (pins:List (Addr × Obj)) (s:Shared) (σ:St) (H:Hp) (Q:VK),Inv X pins σ H s->t σ H Q->wpAny (model X.prog X.w) X.A (eval e X.env) (EP X pins σ Q) X.xe s
noncomputable def PT (X:Cx) (e:Expr) (t:TT):Prop:=
 ∀ (pins:List (Addr × Obj)) (s:Shared) (σ:St) (H:Hp) (Q:Bool->Hp->Prop),Inv X pins σ H s->t σ H Q->wpAny (model X.prog X.w) X.A (isTrue e X.env (eval e X.env)) (TP X pins σ Q) X.xe s
noncomputable def PW (X:Cx) (e:Expr) (t:TT):Prop:=
 ∀ (whole:Sem Value) (pins:List (Addr × Obj)) (s:Shared) (σ:St) (H:Hp) (Q:Bool->Hp->Prop),Inv X pins σ H s->t σ H Q->wpAny (model X.prog X.w) X.A (isTrue e X.env whole) (TP X pins σ Q) X.xe s
theorem PW.pt {X:Cx} {e:Expr} {t:TT} (h:PW X e t):PT X e t:=h _
noncomputable def PA (X:Cx) (es:List Expr) (t:TA):Prop:=
 ∀ (pos:Pos) (pins:List (Addr × Obj)) (s:Shared) (σ:St) (H:Hp) (Q:List V->Hp->Prop),Inv X pins σ H s->t σ H Q->wpAny (model X.prog X.w) X.A (spliced (backTo pos (starEach es X.env))) (AP X pins σ Q) X.xe s
noncomputable def PS (X:Cx) (st:Stmt) (t:TS):Prop:=
 ∀ (pins:List (Addr × Obj)) (s:Shared) (σ:St) (H:Hp) (D:Ends),Inv X pins σ H s->t D σ H->wpAny (model X.prog X.w) X.A (exec st X.env) (SP X pins D) X.xe s
noncomputable def PSs (X:Cx) (st:List Stmt) (t:TS):Prop:=
 ∀ (pins:List (Addr × Obj)) (s:Shared) (σ:St) (H:Hp) (D:Ends),Inv X pins σ H s->t D σ H->wpAny (model X.prog X.w) X.A (execs st X.env) (SP X pins D) X.xe s
theorem thn {α:Type} {t:Sem α} {Q Q':α->Shared->Prop} {M:Model} {A:Around} {E:Value->Shared->Prop} {s:Shared} (h:wpAny M A t Q E s) (hQ:∀ a s,Q a s->Q' a s):wpAny M A t Q' E s:=wpAny_mono h hQ fun _ _ x=>x
end L2
namespace L2
open PySem PySem.Spec PyProof.Rows
section
variable {X:Cx}
noncomputable def tVar (i:Nat):TE:=fun σ H Q=>∃ v,σ[i]?=some (some v)/\Q v H
noncomputable def tC (v:V):TE:=fun _ H Q=>Q v H
theorem pe_var {i:Nat} {x:Str} {pos:Pos} (hN:X.N[i]?=some x) (hv:Vis X.env.scope x) (hd:(x == ("__debug__" : Str))=false:=by decide) (hcd:(x == ("__classdict__" : Str))=false:=by decide):PE X (.Name x pos) (tVar i):=by
 intro pins s σ H Q I h
 obtain ⟨v,e,h⟩:=h
 obtain ⟨m,hn,hl⟩:=I.loc
 obtain ⟨u,r,l⟩:=hl i x v hN e hv
 have fin:EP X pins σ Q u s:=⟨v,H,I,r,h⟩
 rcases l with ⟨hk,hm⟩|⟨hk,c,hc,hcell⟩
 ·exact wpAny_Name (wpAny_loadName_local I.ok.kind hk hn hm fin) hd
 ·rcases hk with hk|hk
  ·exact wpAny_Name (wpAny_loadName_cell I.ok.kind hk hc hcell fin) hd
  ·exact wpAny_Name (wpAny_loadName_free I.ok.kind hk hc hcell fin hcd) hd
theorem zB {i j pos}:PE X (.Constant (.int i) j pos) (tC (.int i)):=fun _ _ _ H _ I h=>wpAny_Constant_int ⟨.int i,H,I.tok _,⟨_,rfl⟩,h⟩
theorem yM {b j pos}:PE X (.Constant (.bool b) j pos) (tC (.bl b)):=fun _ _ _ H _ I h=>Constant_bool ⟨.bl b,H,I,rfl,h⟩
theorem yx {j pos}:PE X (.Constant .none j pos) (tC .non):=fun _ _ _ H _ I h=>Constant_none ⟨.non,H,I,rfl,h⟩
theorem pe_str {x j pos}:PE X (.Constant (.str x) j pos) (tC (.str x)):=fun _ _ _ H _ I h=>Calls.Constant_str ⟨.str x,H,I.tok _,⟨_,rfl⟩,h⟩
noncomputable def Gl (X:Cx) (x:Str):Prop:=X.env.kindOf x=some .globalImplicit
theorem ld_glob {E:Value->Shared->Prop} {pins:List (Addr × Obj)} {s:Shared} {σ:St} {H:Hp} {x:Str} {u:Value} {pos:Pos} {Q:Value->Shared->Prop} (I:Inv X pins σ H s) (hg:Gl X x) (hm:X.mg x=some u) (h:Q u s)
  (hd:(x == ("__debug__" : Str))=false:=by decide):wpAny (model X.prog X.w) X.A (eval (.Name x pos) X.env) Q E s:=
 Calls.Name_function_global I.ok.kind hg (Calls.loadGlobal_global (by rw [I.ok.glob]; exact I.mod.glob.keeps I.bk) hm h) hd
theorem ZQ {E:Value->Shared->Prop} {pins:List (Addr × Obj)} {s:Shared} {σ:St} {H:Hp} {x:Str} {u:Value} {pos:Pos} {Q:Value->Shared->Prop} (I:Inv X pins σ H s) (hg:Gl X x) (hm:X.mg x=none) (hv:bootBuiltins x=some u) (h:Q u s)
  (hn:x≠"__name__":=by decide) (hd:(x == ("__debug__" : Str))=false:=by decide):wpAny (model X.prog X.w) X.A (eval (.Name x pos) X.env) Q E s:=by
 obtain ⟨mb,h1,h2⟩:=I.mod.blt
 exact Calls.Name_function_global I.ok.kind hg (Calls.loadGlobal_builtin (by rw [I.ok.glob]; exact I.mod.glob.keeps I.bk) hm (by rw [I.ok.blt]; exact h1.keeps I.bk) ((h2 x hn).trans hv) h) hd
theorem pe_glob {x:Str} {v:V} {u:Value} {pos:Pos} (hg:Gl X x) (hm:X.mg x=some u) (r:RelV v u) (hd:(x == ("__debug__" : Str))=false:=by decide):PE X (.Name x pos) (tC v):=
 fun _ _ _ H _ I h=>ld_glob I hg hm ⟨v,H,I,r,h⟩ hd
theorem pe_bltn {x:Str} {v:V} {u:Value} {pos:Pos} (hg:Gl X x) (hm:X.mg x=none) (hv:bootBuiltins x=some u) (r:RelV v u) (hn:x≠"__name__":=by decide) (hd:(x == ("__debug__" : Str))=false:=by decide):PE X (.Name x pos) (tC v):=
 fun _ _ _ H _ I h=>ZQ I hg hm hv ⟨v,H,I,r,h⟩ hn hd
variable {a b:Expr} {ta tb:TE} {pos:Pos}
noncomputable def tB (t:TE):TT:=fun σ H Q=>t σ H fun x H1=>∃ c,x=.bl c/\Q c H1
theorem zf {e:Expr} {t:TE} (h:PE X e t) (he:∀ whole,isTrue e X.env whole=(do let v <- whole; standAt e.pos; holding [v] (truthy v)):=by intro _; rfl):PT X e (tB t):=by
 intro pins s σ H Q I hw
 refine isTrue_plain (thn (h pins s σ H _ I hw) fun v s1 ⟨x,H1,I1,r1,q1⟩=>?_) (he _)
 obtain ⟨d,rfl,q⟩:=q1
 cases r1
 exact wpAny_truthy_bool ⟨H1,I1,q⟩
variable {tA tB':TT} {rest:List Expr}
noncomputable def tAnd (t u:TT):TT:=fun σ H Q=>t σ H fun c H1=>if c=true then u σ H1 Q else Q false H1
noncomputable def tOr (t u:TT):TT:=fun σ H Q=>t σ H fun c H1=>if c=true then Q true H1 else u σ H1 Q
noncomputable def tNot (t:TT):TT:=fun σ H Q=>t σ H fun c H1=>Q (!c) H1
theorem jF (ha:PT X a tA):PW X (.BoolOp .And [a] pos) tA:=by
 intro wh pins s σ H Q I h
 refine isTrue_and (thn (ha pins s σ H Q I h) fun c s1 e=>?_)
 cases c with
 |true=>exact isTrue_and_nil e
 |false=>exact e
theorem yY (ha:PT X a tA):PW X (.BoolOp .Or [a] pos) tA:=by
 intro wh pins s σ H Q I h
 refine isTrue_or (thn (ha pins s σ H Q I h) fun c s1 e=>?_)
 cases c with
 |false=>exact isTrue_or_nil e
 |true=>exact e
theorem j8 (ha:PT X a tA) (hb:PW X (.BoolOp .And (b::rest) pos) tB'):PW X (.BoolOp .And (a::b::rest) pos) (tAnd tA tB'):=by
 intro wh pins s σ H Q I h
 refine isTrue_and (thn (ha pins s σ H _ I h) fun c s1 zz=>?_)
 obtain ⟨H1,I1,q1⟩:=zz
 cases c with
 |true=>exact hb wh pins s1 σ H1 Q I1 q1
 |false=>exact ⟨H1,I1,q1⟩
theorem y9 (ha:PT X a tA) (hb:PW X (.BoolOp .Or (b::rest) pos) tB'):PW X (.BoolOp .Or (a::b::rest) pos) (tOr tA tB'):=by
 intro wh pins s σ H Q I h
 refine isTrue_or (thn (ha pins s σ H _ I h) fun c s1 zz=>?_)
 obtain ⟨H1,I1,q1⟩:=zz
 cases c with
 |true=>exact ⟨H1,I1,q1⟩
 |false=>exact hb wh pins s1 σ H1 Q I1 q1
theorem z9 (ha:PT X a tA):PT X (.UnaryOp .Not a pos) (tNot tA):=by
 intro pins s σ H Q I h
 exact isTrue_not (ha pins s σ H (fun c H1=>Q (!c) H1) I h)
noncomputable def tAndV (ta tb:TE):TE:=fun σ H Q=>ta σ H fun x H1=>∃ c,x=.bl c/\if c=true then tb σ H1 Q else Q (.bl false) H1
noncomputable def tOrV (ta tb:TE):TE:=fun σ H Q=>ta σ H fun x H1=>∃ c,x=.bl c/\if c=true then Q (.bl true) H1 else tb σ H1 Q
noncomputable def tNotV (ta:TE):TE:=fun σ H Q=>ta σ H fun x H1=>∃ c,x=.bl c/\Q (.bl (!c)) H1
theorem yP {op} {t:TE} (h:PE X a t):PE X (.BoolOp op [a] pos) t:=fun pins s σ H Q I hw=>BoolOp_one (h pins s σ H Q I hw)
theorem yZ (ha:PE X a ta) (hb:PE X (.BoolOp .And (b::rest) pos) tb):PE X (.BoolOp .And (a::b::rest) pos) (tAndV ta tb):=by
 intro pins s σ H Q I h
 refine BoolOp_and (thn (ha pins s σ H _ I h) fun v s1 zz=>?_)
 obtain ⟨x,H1,I1,r1,q1⟩:=zz
 obtain ⟨c,rfl,q1⟩:=q1
 cases r1
 refine wpAny_truthy_bool ?_
 cases c with
 |true=>exact hb pins s1 σ H1 Q I1 q1
 |false=>exact ⟨.bl false,H1,I1,rfl,q1⟩
theorem pe_or (ha:PE X a ta) (hb:PE X (.BoolOp .Or (b::rest) pos) tb):PE X (.BoolOp .Or (a::b::rest) pos) (tOrV ta tb):=by
 intro pins s σ H Q I h
 refine BoolOp_or (thn (ha pins s σ H _ I h) fun v s1 zz=>?_)
 obtain ⟨x,H1,I1,r1,q1⟩:=zz
 obtain ⟨c,rfl,q1⟩:=q1
 cases r1
 refine wpAny_truthy_bool ?_
 cases c with
 |false=>exact hb pins s1 σ H1 Q I1 q1
 |true=>exact ⟨.bl true,H1,I1,rfl,q1⟩
theorem pe_not (ha:PE X a ta):PE X (.UnaryOp .Not a pos) (tNotV ta):=by
 intro pins s σ H Q I h
 refine UnaryOp_ (thn (ha pins s σ H _ I h) fun v s1 zz=>?_)
 obtain ⟨x,H1,I1,r1,q1⟩:=zz
 obtain ⟨c,rfl,q1⟩:=q1
 cases r1
 exact not_of (wpAny_truthy_bool ⟨.bl (!c),H1,I1,rfl,q1⟩)
noncomputable def tIf (t:TT) (ta tb:TE):TE:=fun σ H Q=>t σ H fun c H1=>if c=true then ta σ H1 Q else tb σ H1 Q
theorem Jp {c:Expr} (hc:PT X c tA) (ha:PE X a ta) (hb:PE X b tb):PE X (.IfExp c a b pos) (tIf tA ta tb):=by
 intro pins s σ H Q I h
 refine wpAny_IfExp (thn (hc pins s σ H _ I h) fun d s1 zz=>?_)
 obtain ⟨H1,I1,q1⟩:=zz
 cases d with
 |true=>exact ha pins s1 σ H1 Q I1 q1
 |false=>exact hb pins s1 σ H1 Q I1 q1
end
end L2
namespace L2
open PySem PySem.Spec PyProof.Rows
noncomputable def SqL (K:PySem.W.Frag) (H:Hp) (a:Addr) (xs:List V):Prop:=
 Rd H a (.lst xs)∨
  ∃ (o:Obj) (its:Array Value) (n:Nat),K.lookup a=some o∧o.cls=.type "list"∧o.dict=none∧o.data=.seq its n∧its.size≤sizeLine∧Vals xs its.toList
noncomputable def SqT (K:PySem.W.Frag) (H:Hp) (a:Addr) (xs:List V):Prop:=
 Rd H a (.tup xs)∨
  ∃ (o:Obj) (its:Array Value) (n:Nat),K.lookup a=some o∧o.cls=.type "tuple"∧o.data=.seq its n∧its.size≤sizeLine∧Vals xs its.toList
noncomputable def absV:Value->Option V
 |.none=>some .non
 |.bool b=>some (.bl b)
 |.int i _=>some (.int i)
 |.str x _=>some (.str x)
 |.bytes b _=>some (.byt b)
 |.float b _=>some (.flt b)
 |.ref a=>some (.ref a)
 |.type n=>some (.ty n)
 |_=>none
theorem RelV.abs {x:V} {u:Value} (r:RelV x u):absV u=some x:=by
 cases x with
 |non=>cases r; rfl
 |bl _=>cases r; rfl
 |int _=>obtain ⟨t,rfl⟩:=r; rfl
 |str _=>obtain ⟨t,rfl⟩:=r; rfl
 |byt _=>obtain ⟨t,rfl⟩:=r; rfl
 |flt _=>obtain ⟨t,rfl⟩:=r; rfl
 |ref _=>cases r; rfl
 |ty _=>cases r; rfl
theorem RelV.inj {x y:V} {u:Value} (r:RelV x u) (q:RelV y u):x=y:=Option.some.inj (r.abs.symm.trans q.abs)
theorem Vals.inj:∀ {xs ys:List V} {us:List Value},Vals xs us->Vals ys us->xs=ys
 |_,_,_,.nil,.nil=>rfl
 |_,_,_,.cons r t,.cons r' t'=>by rw [r.inj r',Vals.inj t t']
section
variable {X:Cx} {pins:List (Addr × Obj)} {σ:St} {H:Hp} {s:Shared} {a:Addr} {xs ys:List V}
theorem SqL.of {K:PySem.W.Frag} (h:H a=some (.lst xs)):SqL K H a xs:=.inl (.inl h)
theorem SqT.of {K:PySem.W.Frag} (h:H a=some (.tup xs)):SqT K H a xs:=.inl (.inl h)
theorem Inv.list (I:Inv X pins σ H s) (h:SqL X.K H a xs):∃ its:List Value,Vals xs its/\PlainL s.heap a its.toArray/\xs.length<=sizeLine:=by
 rcases h with h|⟨o,its,n,hk,hc,hd,hs,hz,r⟩
 ·obtain ⟨z,its,n,r,e⟩:=h.ok I.hok
  exact ⟨its,r,⟨_,n,e,rfl,rfl,rfl⟩,z⟩
 ·refine ⟨its.toList,r,⟨o,n,I.kIn a o hk,hc,hd,by simpa using hs⟩,?_⟩
  have e:=r.length
  simp only [Array.length_toList] at e
  omega
theorem Inv.tuple (I:Inv X pins σ H s) (h:SqT X.K H a xs):∃ its:List Value,Vals xs its/\IsTup s.heap a its.toArray/\xs.length<=sizeLine:=by
 rcases h with h|⟨o,its,n,hk,hc,hs,hz,r⟩
 ·obtain ⟨z,its,r,p⟩:=h.ok I.hok
  exact ⟨its,r,p,z⟩
 ·refine ⟨its.toList,r,⟨o,I.kIn a o hk,hc,n,by simpa using hs⟩,?_⟩
  have e:=r.length
  simp only [Array.length_toList] at e
  omega
theorem Inv.list_inj (I:Inv X pins σ H s) (h:SqL X.K H a xs) (h':SqL X.K H a ys):xs=ys:=by
 obtain ⟨its,r,⟨o,n,e,_,_,d⟩,_⟩:=I.list h
 obtain ⟨its',r',⟨o',n',e',_,_,d'⟩,_⟩:=I.list h'
 rw [e] at e'; cases e'
 rw [d] at d'
 injection d' with d1 _
 have:its=its':=by simpa using congrArg Array.toList d1
 subst this
 exact r.inj r'
theorem Inv.tuple_inj (I:Inv X pins σ H s) (h:SqT X.K H a xs) (h':SqT X.K H a ys):xs=ys:=by
 obtain ⟨its,r,⟨o,e,_,n,d⟩,_⟩:=I.tuple h
 obtain ⟨its',r',⟨o',e',_,n',d'⟩,_⟩:=I.tuple h'
 rw [e] at e'; cases e'
 rw [d] at d'
 injection d' with d1 _
 have:its=its':=by simpa using congrArg Array.toList d1
 subst this
 exact r.inj r'
end
noncomputable abbrev Cx.wish (X:Cx) (E:Value->Shared->Prop):Cx:={X with xe:=E}
noncomputable abbrev Cx.nox (X:Cx):Cx:=X.wish fun _ _=>False
theorem Cx.Ok.wish {X:Cx} (ok:X.Ok) (E:Value->Shared->Prop):(X.wish E).Ok:=
 ⟨ok.mod,ok.kind,ok.glob,ok.blt,ok.above,ok.inj,ok.has,ok.cab,ok.hd,ok.frames,ok.stk,ok.exf,ok.bs,ok.bsz,ok.noex,ok.exfs,ok.funs,ok.frf⟩
theorem Cx.Ok.unwish {X:Cx} {E:Value->Shared->Prop} (ok:(X.wish E).Ok):X.Ok:=
 ⟨ok.mod,ok.kind,ok.glob,ok.blt,ok.above,ok.inj,ok.has,ok.cab,ok.hd,ok.frames,ok.stk,ok.exf,ok.bs,ok.bsz,ok.noex,ok.exfs,ok.funs,ok.frf⟩
section
variable {X:Cx} {pins:List (Addr × Obj)} {σ:St} {H:Hp} {s:Shared} {E:Value->Shared->Prop}
theorem Inv.wish (I:Inv X pins σ H s) (E:Value->Shared->Prop):Inv (X.wish E) pins σ H s:=⟨I.ok.wish E,I.os,I.bare,I.base,I.loc,I.cell,I.free,I.freeC,I.pin,I.hok,I.len⟩
theorem Inv.unwish (I:Inv (X.wish E) pins σ H s):Inv X pins σ H s:=⟨I.ok.unwish,I.os,I.bare,I.base,I.loc,I.cell,I.free,I.freeC,I.pin,I.hok,I.len⟩
theorem SP.unwish {D:Ends} {f:Flow} {s':Shared} (h:SP (X.wish E) pins D f s'):SP X pins D f s':=by
 cases f with
 |next=>obtain ⟨σ',H',I,q⟩:=h; exact ⟨σ',H',I.unwish,q⟩
 |brk=>obtain ⟨σ',H',I,q⟩:=h; exact ⟨σ',H',I.unwish,q⟩
 |cont=>obtain ⟨σ',H',I,q⟩:=h; exact ⟨σ',H',I.unwish,q⟩
 |ret u=>obtain ⟨v,σ',H',I,r,q⟩:=h; exact ⟨v,σ',H',I.unwish,r,q⟩
theorem PSs.nox {st:List Stmt} {t:TS} (h:PSs X.nox st t):PSs X st t:=fun pins s σ H D I hw=>
 wpAny_mono (h pins s σ H D (I.wish _) hw) (fun _ _ q=>q.unwish) fun _ _ z=>False.elim z
end
section
variable {X:Cx} {st:Stmt} {rest:List Stmt} {t u:TS} {e:Expr} {te:TE} {pos:Pos}
noncomputable def tNext:TS:=fun D σ H=>D.nx σ H
noncomputable def tSeq (t u:TS):TS:=fun D σ H=>t {D with nx:=u D} σ H
theorem zS:PSs X [] tNext:=fun _ _ σ H _ I h=>wpAny_execs_nil ⟨σ,H,I,h⟩
theorem zE (h1:PS X st t) (h2:PSs X rest u):PSs X (st::rest) (tSeq t u):=by
 intro pins s σ H D I h
 refine wpAny_execs_cons (thn (h1 pins s σ H {D with nx:=u D} I h) fun f s1 q=>?_)
 cases f with
 |next=>
  obtain ⟨σ',H',I',q⟩:=q
  exact h2 pins s1 σ' H' D I' q
 |ret v=>exact q
 |brk=>exact q
 |cont=>exact q
theorem zG (h1:PS X st t):PSs X [st] t:=by
 intro pins s σ H D I h
 refine wpAny_execs_cons (thn (h1 pins s σ H D I h) fun f s1 q=>?_)
 cases f with
 |next=>exact wpAny_execs_nil q
 |ret v=>exact q
 |brk=>exact q
 |cont=>exact q
theorem Inv.quiet {pins:List (Addr × Obj)} {σ:St} {H:Hp} {s:Shared} (I:Inv X pins σ H s):interactive X.env=false:=by simp [interactive,I.ok.kind]
noncomputable def tDrop (te:TE):TS:=fun D σ H=>te σ H fun _ H1=>D.nx σ H1
theorem y3 (he:PE X e te) (hs:swapsWith e none pos.line X.env=pure false:=by rfl):PS X (.Expr e pos) (tDrop te):=by
 intro pins s σ H D I h
 exact wpAny_Expr_any (thn (he pins s σ H _ I h) fun v s1 ⟨x,H1,I1,r1,q1⟩=>⟨σ,H1,I1,q1⟩) I.quiet hs
noncomputable def tRet (te:TE):TS:=fun D σ H=>te σ H D.rt
theorem zL (he:PE X e te):PS X (.Return (some e) pos) (tRet te):=by
 intro pins s σ H D I h
 exact wpAny_Return_some (thn (he pins s σ H _ I h) fun v s1 ⟨x,H1,I1,r1,q1⟩=>⟨x,σ,H1,I1,r1,q1⟩)
noncomputable def tIfS (c:TT) (t u:TS):TS:=fun D σ H=>c σ H fun b H1=>if b=true then t D σ H1 else u D σ H1
theorem ze {c:Expr} {a b:List Stmt} {tc:TT} (hc:PT X c tc) (ha:PSs X a t) (hb:PSs X b u):PS X (.If c a b pos) (tIfS tc t u):=by
 intro pins s σ H D I h
 refine wpAny_If (thn (hc pins s σ H _ I h) fun d s1 zz=>?_)
 obtain ⟨H1,I1,q1⟩:=zz
 cases d with
 |true=>exact ha pins s1 σ H1 D I1 q1
 |false=>exact hb pins s1 σ H1 D I1 q1
noncomputable def tNever:TS:=fun _ _ _=>False
theorem y7:PS X st tNever:=fun _ _ _ _ _ _ h=>h.elim
theorem pss_never {sts:List Stmt}:PSs X sts tNever:=fun _ _ _ _ _ _ h=>h.elim
end
noncomputable abbrev TG:=V->St->Hp->(St->Hp->Prop)->Prop
noncomputable abbrev TGs:=List V->St->Hp->(St->Hp->Prop)->Prop
noncomputable def PG (X:Cx) (target:Expr) (t:TG):Prop:=
 ∀ (pins:List (Addr × Obj)) (s:Shared) (σ:St) (H:Hp) (v:V) (u:Value) (Q:St->Hp->Prop),Inv X pins σ H s->RelV v u->t v σ H Q->
  wpAny (model X.prog X.w) X.A (assign target X.env u) (fun _ s'=>∃ σ' H',Inv X pins σ' H' s'/\Q σ' H') X.xe s
noncomputable def PGs (X:Cx) (ts:List Expr) (t:TGs):Prop:=
 ∀ (pins:List (Addr × Obj)) (s:Shared) (σ:St) (H:Hp) (vs:List V) (us:List Value) (Q:St->Hp->Prop),Inv X pins σ H s->Vals vs us->t vs σ H Q->
  wpAny (model X.prog X.w) X.A (assignInOrder ((assignEach ts X.env).map (·.2)) us) (fun _ s'=>∃ σ' H',Inv X pins σ' H' s'/\Q σ' H') X.xe s
noncomputable abbrev TSet:=V->V->V->Hp->(Hp->Prop)->Prop
noncomputable def PSet (X:Cx) (t:TSet):Prop:=
 ∀ (pins:List (Addr × Obj)) (s:Shared) (σ:St) (H:Hp) (o i v:V) (ov iv u:Value) (Q:Hp->Prop),Inv X pins σ H s->RelV o ov->RelV i iv->RelV v u->t o i v H Q->
  wpAny (model X.prog X.w) X.A (setItem ov iv u) (fun _ s'=>∃ H',Inv X pins σ H' s'/\Q H') X.xe s
section
variable {X:Cx} {pos:Pos}
noncomputable def gName (i:Nat):TG:=fun v σ H Q=>Q (σ.set i (some v)) H
theorem zd {i:Nat} {x:Str} (hN:X.N.Nodup) (hi:X.N[i]?=some x) (hx:Loc X.env.scope x) (hf:X.fn x=true∨X.env.scope.names.lookup x=some .local:=by first|exact .inl rfl|exact .inr rfl|assumption):PG X (.Name x pos) (gName i):=by
 intro pins s σ H v u Q I r h
 exact wpAny_assign_Name (YZ I hN hi hx r (fun s' I'=>⟨_,H,I',h⟩) hf)
noncomputable def gNil:TGs:=fun vs σ H Q=>vs=[]/\Q σ H
noncomputable def gCons (t:TG) (u:TGs):TGs:=fun vs σ H Q=>∃ v r,vs=v::r/\t v σ H fun σ' H'=>u r σ' H' Q
theorem pgs_nil:PGs X [] gNil:=by
 intro pins s σ H vs us Q I r h
 obtain ⟨e,h⟩:=h
 subst e
 cases r
 exact assignInOrder_nil ⟨σ,H,I,h⟩
theorem YK {e:Expr} {es:List Expr} {t:TG} {u:TGs} (h1:PG X e t) (h2:PGs X es u)
  (hs:(assignEach (e::es) X.env).map (·.2)=assign e X.env::(assignEach es X.env).map (·.2):=by rfl):PGs X (e::es) (gCons t u):=by
 intro pins s σ H vs us Q I r h
 obtain ⟨v,vr,e1,h⟩:=h
 subst e1
 cases r with
 |cons r rr=>
  rw [hs]
  refine assignInOrder_cons (thn (h1 pins s σ H _ _ _ I r h) fun _ s1 zz=>?_)
  obtain ⟨σ1,H1,I1,q1⟩:=zz
  exact h2 pins s1 σ1 H1 _ _ Q I1 rr q1
noncomputable def gTup (K:PySem.W.Frag) (n:Nat) (t:TGs):TG:=fun v σ H Q=>∃ a xs,v=.ref a/\SqT K H a xs/\xs.length=n/\t xs σ H Q
theorem pg_tup {es:List Expr} {k:Nat} {t:TGs} {n:Nat} (hc:X.calm=true) (h:PGs X es t)
  (hn:(assignEach es X.env).length=n:=by rfl) (hst:(assignEach es X.env).findIdx? (·.1)=none:=by rfl):PG X (.Tuple es k pos) (gTup X.K n t):=by
 intro pins s σ H v u Q I r hw
 obtain ⟨a,xs,e1,hq,hl,hw⟩:=hw
 subst e1
 cases r
 obtain ⟨its,rv,ht,hz⟩:=I.tuple hq
 refine assign_Tuple_tuple (I.ok.hd hc) ht (by simp [hn,<- hl,rv.length]) hst fun h' hx=>?_
 have I1:Inv X pins σ H {s with heap:=h'}:=I.kept (t':=s.toks) fun b o e=>hx b o (Nat.ne_of_lt (Heap.lt_size e)) e
 exact h pins _ σ H xs _ Q I1 (by simpa using rv) hw
noncomputable def gSub (to ti:TE) (t:TSet):TG:=fun v σ H Q=>to σ H fun o H1=>ti σ H1 fun i H2=>t o i v H2 fun H3=>Q σ H3
theorem JV {o i:Expr} {to ti:TE} {t:TSet} (ho:PE X o to) (hi:PE X i ti) (hs:PSet X t)
  (ha:∀ v,assign (.Subscript o i pos) X.env v=(do
   let ov <- holding [v] (eval o X.env)
   let iv <- holding [v,ov] (eval i X.env)
   standAt pos
   holding [v,ov,iv] (setItem ov iv v)
   release [v,ov,iv] []):=by intro _; rfl):PG X (.Subscript o i pos) (gSub to ti t):=by
 intro pins s σ H v u Q I r h
 rw [ha]
 refine wpAny_bind (wpAny_holding (thn (ho pins s σ H _ I h) fun ov s1 zz=>?_))
 obtain ⟨x,H1,I1,r1,q1⟩:=zz
 refine wpAny_bind (wpAny_holding (thn (hi pins s1 σ H1 _ I1 q1) fun iv s2 zz=>?_))
 obtain ⟨y,H2,I2,r2,q2⟩:=zz
 refine wpAny_bind (wpAny_standAt (wpAny_bind (wpAny_holding (thn (hs pins s2 σ H2 x y v ov iv u _ I2 r1 r2 r q2) fun _ s3 zz=>?_))))
 obtain ⟨H3,I3,q3⟩:=zz
 exact wpAny_release ⟨σ,H3,I3,q3⟩
noncomputable def tAsg (te:TE) (g:TG):TS:=fun D σ H=>te σ H fun x H1=>g x σ H1 D.nx
theorem Yo {tg e:Expr} {te:TE} {g:TG} (he:PE X e te) (hg:PG X tg g) (hs:swapsWithSole [tg] e pos.line X.env=pure false:=by rfl) (hw:swappedStores [tg] e X.env=pure none:=by rfl)
  (h1:(assignEach [tg] X.env).map (·.2)=[assign tg X.env]:=by rfl):PS X (.Assign [tg] e pos) (tAsg te g):=by
 intro pins s σ H D I h
 refine wpAny_Assign_stores (thn (he pins s σ H _ I h) fun v s1 ⟨x,H1,I1,r1,q1⟩=>?_) hs hw
 rw [h1]
 exact thn (hg pins s1 σ H1 x v _ I1 r1 q1) fun _ s2 q=>q
theorem zM {i:Nat} {x:Str} {e:Expr} {te:TE} {pos':Pos} (hN:X.N.Nodup) (hi:X.N[i]?=some x) (hx:Loc X.env.scope x) (he:PE X e te) (hs:swapsWith e (some (.Name x pos')) pos.line X.env=pure false:=by rfl) (hf:X.fn x=true∨X.env.scope.names.lookup x=some .local:=by first|exact .inl rfl|exact .inr rfl|assumption) :
  PS X (.Assign [.Name x pos'] e pos) (tAsg te (gName i)):=by
 intro pins s σ H D I h
 refine wpAny_Assign_Name (thn (he pins s σ H _ I h) fun v s1 ⟨y,H1,I1,r1,q1⟩=>?_) hs
 exact YZ I1 hN hi hx r1 (fun s2 I2=>⟨_,H1,I2,q1⟩) hf
noncomputable def tPar (i j:Nat) (ta:TA):TS:=fun D σ H=>ta σ H fun vs H1=>∃ v w,vs=[v,w]/\D.nx ((σ.set i (some v)).set j (some w)) H1
theorem ps_par {i j:Nat} {x y:Str} {a b:Expr} {ta:TA} {px py pt:Pos} {kt k2 pt2} (hc:X.calm=true) (hN:X.N.Nodup) (hi:X.N[i]?=some x) (hj:X.N[j]?=some y) (hij:i≠j)
  (hx:X.env.scope.names.lookup x=some .local) (hy:X.env.scope.names.lookup y=some .local) (ha:PA X [a,b] ta)
  (hw:swappedStores [.Tuple [.Name x px,.Name y py] kt pt] (.Tuple [a,b] k2 pt2) X.env=pure (some [x,y]))
  (hs:swapsWithSole [.Tuple [.Name x px,.Name y py] kt pt] (.Tuple [a,b] k2 pt2) pos.line X.env=pure false:=by rfl) :
  PS X (.Assign [.Tuple [.Name x px,.Name y py] kt pt] (.Tuple [a,b] k2 pt2) pos) (tPar i j ta):=by
 intro pins s σ H D I h
 rw [exec_Assign_arm]
 refine wpAny_bind (wpAny_standAt ?_)
 rw [hs]
 refine wpAny_bind (wpAny_pure ?_)
 rw [if_neg (by decide)]
 refine wpAny_bind (Tuple_ (thn (ha _ pins s σ H _ I h) fun us s1 zz=>?_))
 obtain ⟨vs,H1,I1,r1,q1⟩:=zz
 obtain ⟨v,w,e1,q1⟩:=q1
 subst e1
 obtain ⟨u1,u2,rfl,rv,rw'⟩:∃ u1 u2,us=[u1,u2]/\RelV v u1/\RelV w u2:=by
  cases r1 with
  |cons p q=>
   cases q with
   |cons p' q'=>
    cases q'
    exact ⟨_,_,rfl,p,p'⟩
 refine wpAny_newObj_type ?_ (by show 2<=sizeLine; decide)
 have I2:Inv X pins σ H1 {s1 with heap:=s1.heap.push {cls:=.type "tuple",data:=.seq [u1,u2].toArray}}:=I1.kept (t':=s1.toks) fun b o e=>Heap.get?_push_of_some _ e
 rw [hw]
 refine wpAny_bind (wpAny_pure ?_)
 show wpAny (model X.prog X.w) X.A (do rule "assign.swapped-stores"; let items ← unpackItems (.ref s1.heap.objs.size) 2 none; assignInOrder [fun v=>bindName X.env y v,fun v=>bindName X.env x v] items.reverse; pure Flow.next) _ _ _
 refine wpAny_bind (wpAny_rule (wpAny_bind (unpackItems_tuple (items:=#[u1,u2]) (I.ok.hd hc) (IsTup.new s1.heap _) fun h' hx'=>?_)))
 have I3:=I2.kept (h':=h') (t':=s1.toks) fun b o e=>hx' b o (Nat.ne_of_lt (Heap.lt_size e)) e
 show wpAny _ _ (assignInOrder [fun v=>bindName X.env y v,fun v=>bindName X.env x v] [u2,u1] >>= fun _=>pure Flow.next) _ _ _
 refine wpAny_bind (assignInOrder_cons (wpAny_bindName (YZ I3 hN hj (.inl hy) rw' (fun s2 I4=>?_) (.inr hy))))
 refine assignInOrder_cons (wpAny_bindName (YZ I4 hN hi (.inl hx) rv (fun s3 I5=>assignInOrder_nil (wpAny_pure ?_)) (.inr hx)))
 rw [List.set_comm _ _ (Ne.symm hij)] at I5
 exact ⟨_,H1,I5,q1⟩
end
section
variable {X:Cx} {pos:Pos}
noncomputable def tWhile (c:TT) (tb:TS):TS:=fun D σ H=>∃ W:Nat->St->Hp->Prop,(∃ m,W m σ H)/\∀ m σ H,W m σ H->
 c σ H fun b H1=>if b=true then ∃ N:St->Hp->Prop,(∀ σ' H',N σ' H'->∃ m',m' < m/\W m' σ' H')/\tb {D with nx:=N,ct:=N,bk:=D.nx} σ H1 else D.nx σ H1
theorem Z8 {c:Expr} {body:List Stmt} {tc:TT} {tb:TS} (hp:PassesOwn (model X.prog X.w) X.A X.env X.xe) (hc:PT X c tc) (hb:PSs X body tb):PS X (.While c body [] pos) (tWhile tc tb):=by
 intro pins s σ H D I h
 obtain ⟨W,⟨m0,w0⟩,turn⟩:=h
 refine wpAny_While (codeAny_whileLoop (fun n s'=>∃ σ' H',Inv X pins σ' H' s'/\W n σ' H') ?_ m0 ⟨σ,H,I,w0⟩)
 rintro n s1 ⟨σ1,H1,I1,w1⟩
 refine wpAny_passesOwn hp (thn (hc pins s1 σ1 H1 _ I1 (turn n σ1 H1 w1)) fun b s2 zz=>?_)
 obtain ⟨H2,I2,q2⟩:=zz
 cases b with
 |true=>
  obtain ⟨N,hN,q2⟩:=q2
  rw [if_pos rfl]
  refine wpAny_passesOwn hp (thn (hb pins s2 σ1 H2 _ I2 q2) fun f s3 q3=>?_)
  cases f with
  |next=>
   obtain ⟨σ3,H3,I3,n3⟩:=q3
   obtain ⟨m',hm,w3⟩:=hN σ3 H3 n3
   exact ⟨m',hm,σ3,H3,I3,w3⟩
  |cont=>
   obtain ⟨σ3,H3,I3,n3⟩:=q3
   obtain ⟨m',hm,w3⟩:=hN σ3 H3 n3
   exact ⟨m',hm,σ3,H3,I3,w3⟩
  |brk=>exact q3
  |ret v=>exact q3
 |false=>
  rw [if_neg Bool.false_ne_true]
  exact wpAny_execs_nil ⟨σ1,H2,I2,q2⟩
end
structure It where
 go:Nat->Hp->Prop
 yld:Nat->Hp->V->Hp->Prop
 stop:Nat->Hp->Prop
noncomputable def FpOk (X:Cx) (pins:List (Addr × Obj)) (H:Hp) (b:Addr):Prop:=
 H b=none/\b≠X.env.locals/\b∉X.fs/\(b∈X.ex∨X.s₀.heap.objs.size<=b)/\(∀ x c,X.env.cells.lookup x=some c->c≠b)/\∀ p∈X.pn++pins,p.1≠b
theorem Inv.fpOk {X:Cx} {pins:List (Addr × Obj)} {σ:St} {H H':Hp} {s:Shared} {b:Addr} (I:Inv X pins σ H s) (hb:s.heap.objs.size<=b) (hn:H' b=none):FpOk X pins H' b:=by
 refine ⟨hn,Nat.ne_of_gt (Nat.lt_of_lt_of_le I.lt hb),I.nofs hb,.inr (Nat.le_trans I.sz hb),fun x c e z=>?_,fun p hp z=>?_⟩
 ·obtain ⟨v,q⟩:=I.cell x c e
  exact absurd (Nat.lt_of_lt_of_le q.lt (by rw [z]; exact hb)) (Nat.lt_irrefl _)
 ·exact absurd (Nat.lt_of_lt_of_le (Heap.lt_size (I.pin p hp).1) (by rw [z]; exact hb)) (Nat.lt_irrefl _)
structure Turn (P:Program) (w:World) (K:PySem.W.Frag) (tg:Expr) (J:It) (fp:List Addr) (it:Addr) (tn:Nat->Heap->Prop):Prop where
 mem:it∈fp
 obj:∀ i h,tn i h->∀ b∈fp,∃ o,h.get? b=some o/\∀ v,o.data≠.cell v
 keep:∀ i h h',tn i h->(∀ b∈fp,∀ o,h.get? b=some o->h'.get? b=some o)->tn i h'
 item:∀ (X:Cx),X.prog=P->X.w=w->X.K=K->X.calm=true->∀ (i:Nat) (pins:List (Addr × Obj)) (s:Shared) (σ:St) (H:Hp) (E:Value->Shared->Prop),Inv X pins σ H s->(∀ b∈fp,FpOk X pins H b)->tn i s.heap->J.go i H->
  wpAny (model P w) X.A (pyNext (.ref it)) (fun r s1=>∃ u,r=some u∧
   wpAny (model P w) X.A (letOwnedTupleGo tg (.ref it) u) (fun _ s2=>∃ x H',Inv X pins σ H' s2/\RelV x u/\J.yld i H x H'/\tn (i+1) s2.heap/\∀ b∈fp,H' b=none) E s1) E s
 done:∀ (X:Cx),X.prog=P->X.w=w->X.K=K->X.calm=true->∀ (i:Nat) (pins:List (Addr × Obj)) (s:Shared) (σ:St) (H:Hp) (E:Value->Shared->Prop),Inv X pins σ H s->(∀ b∈fp,FpOk X pins H b)->tn i s.heap->J.stop i H->
  wpAny (model P w) X.A (pyNext (.ref it)) (fun r s1=>r=none/\Inv X pins σ H s1) E s
 self:∀ (A:Around) (i:Nat) (s:Shared) (Q:Value->Shared->Prop) (E:Value->Shared->Prop),tn i s.heap->Q (.ref it) s->wpAny (model P w) A (pyIter (.ref it)) Q E s
noncomputable abbrev TI:=St->Hp->(It->Hp->Prop)->Prop
noncomputable def PIE (X:Cx) (pins:List (Addr × Obj)) (σ:St) (tg:Expr) (R:It->Hp->Prop) (itv:Value) (s2:Shared):Prop:=
 ∃ (it:Addr) (fp:List Addr) (tn:Nat->Heap->Prop) (J:It) (H':Hp),itv=.ref it/\Inv X pins σ H' s2/\Turn X.prog X.w X.K tg J fp it tn/\tn 0 s2.heap/\(∀ b∈fp,FpOk X pins H' b)/\R J H'
noncomputable def PI (X:Cx) (tg iter:Expr) (wi:TI):Prop:=
 ∀ (pins:List (Addr × Obj)) (s:Shared) (σ:St) (H:Hp) (R:It->Hp->Prop),Inv X pins σ H s->wi σ H R->
  wpAny (model X.prog X.w) X.A (eval iter X.env) (fun v s1=>wpAny (model X.prog X.w) X.A (pyIter v) (PIE X pins σ tg R) X.xe s1) X.xe s
theorem go_of {M:Model} {A:Around} {E:Value->Shared->Prop} {s:Shared} {tg:Expr} {it:Addr} {u:Value} {o:Obj} {n:String} {vs:Array Value} {Q:Unit->Shared->Prop} (ho:s.heap.get? it=some o) (hc:o.cls=.type n) (hd:o.data=.fields vs)
  (hn:["enumerate","zip","dict_itemiterator","dict_reverseitemiterator","odict_iterator","itertools.zip_longest","itertools.pairwise"].contains n=false) (hQ:Q () s):wpAny M A (letOwnedTupleGo tg (.ref it) u) Q E s:=by
 unfold letOwnedTupleGo
 cases tg<;>first
  |exact wpAny_pure hQ
  | (cases u<;>first
    |exact wpAny_pure hQ
    | (refine wpAny_bind (wpAny_load ho ?_)
       rw [hc,hd]
       show wpAny M A (if (["enumerate","zip","dict_itemiterator","dict_reverseitemiterator","odict_iterator","itertools.zip_longest","itertools.pairwise"].contains n && vs[0]? == some (rawInt _))=true then _ else _) Q E s
       rw [if_neg (by intro h; rw [hn,Bool.false_and] at h; cases h)]
       exact wpAny_pure hQ))
noncomputable def Itl (K:PySem.W.Frag) (a:Addr):It:=
 ⟨fun i H=>∃ xs x,SqL K H a xs/\xs[i]?=some x,fun i H x H'=>H'=H/\∀ xs,SqL K H a xs->xs[i]?=some x,fun i H=>∃ xs,SqL K H a xs/\xs.length<=i⟩
noncomputable def Itt (K:PySem.W.Frag) (a:Addr):It:=
 ⟨fun i H=>∃ xs x,SqT K H a xs/\xs[i]?=some x,fun i H x H'=>H'=H/\∀ xs,SqT K H a xs->xs[i]?=some x,fun i H=>∃ xs,SqT K H a xs/\xs.length<=i⟩
noncomputable def Itr (lo:Int) (n:Nat):It:=⟨fun i _=>i < n,fun i H x H'=>H'=H/\x=.int (lo+i),fun i _=>n<=i⟩
theorem turn_list {P:Program} {w:World} {K:PySem.W.Frag} {tg:Expr} (a it:Addr):Turn P w K tg (Itl K a) [it] it (fun i h=>h.IsListIter it a i) where
 mem:=by simp
 obj:=fun i h st b hb=>by
  have e:b=it:=by simpa using hb
  subst e
  obtain ⟨o,e,c,d⟩:=st
  exact ⟨o,e,fun v z=>by rw [d] at z; cases z⟩
 keep:=fun i h h' st k=>st.at fun o e=>k it (by simp) o e
 item:=by
  intro X hP hw hK hc i pins s σ H E I hf st hg
  subst hP hw hK
  obtain ⟨xs,x,hq,hx⟩:=hg
  obtain ⟨its,rv,p,hz⟩:=I.list hq
  obtain ⟨u,hu,ru⟩:=rv.get hx
  obtain ⟨f0,f1,f2,f3,f4,f5⟩:=hf it (by simp)
  refine wpAny_pyNext_list_item st p.isList (x:=u) (by simpa using hu) fun h' st' sb=>?_
  have I1:Inv X pins σ H {s with heap:=h'}:=I.turned (t':=s.toks) (fun b o hb e=>(sb.2 b hb).trans e) f0 f1 f3 f4 f5
  obtain ⟨o,e,c,d⟩:=id st'
  exact ⟨u,rfl,go_of (s:={s with heap:=h'}) e c d (by decide) ⟨x,H,I1,ru,⟨rfl,fun ys hy=>by rw [I.list_inj hy hq]; exact hx⟩,st',fun b hb=>(hf b hb).1⟩⟩
 done:=by
  intro X hP hw hK hc i pins s σ H E I hf st hg
  subst hP hw hK
  obtain ⟨xs,hq,hx⟩:=hg
  obtain ⟨its,rv,p,hz⟩:=I.list hq
  obtain ⟨f0,f1,f2,f3,f4,f5⟩:=hf it (by simp)
  have hl:=rv.length
  exact wpAny_pyNext_list_end (I.ok.hd hc) st p.isList (by simp; omega) fun h' eb=>⟨rfl,I.turned (t':=s.toks) (fun b o hb e=>eb b o hb e) f0 f1 f3 f4 f5⟩
 self:=fun _ _ _ _ _ st h=>wpAny_pyIter_listiter st h
theorem turn_tuple {P:Program} {w:World} {K:PySem.W.Frag} {tg:Expr} (a it:Addr):Turn P w K tg (Itt K a) [it] it (fun i h=>h.IsTupleIter it a i) where
 mem:=by simp
 obj:=fun i h st b hb=>by
  have e:b=it:=by simpa using hb
  subst e
  obtain ⟨o,e,c,d⟩:=st
  exact ⟨o,e,fun v z=>by rw [d] at z; cases z⟩
 keep:=fun i h h' st k=>st.at fun o e=>k it (by simp) o e
 item:=by
  intro X hP hw hK hc i pins s σ H E I hf st hg
  subst hP hw hK
  obtain ⟨xs,x,hq,hx⟩:=hg
  obtain ⟨its,rv,p,hz⟩:=I.tuple hq
  obtain ⟨u,hu,ru⟩:=rv.get hx
  obtain ⟨f0,f1,f2,f3,f4,f5⟩:=hf it (by simp)
  refine wpAny_pyNext_tuple_item st (show s.heap.IsTuple a its.toArray from p) (x:=u) (by simpa using hu) fun h' st' sb=>?_
  have I1:Inv X pins σ H {s with heap:=h'}:=I.turned (t':=s.toks) (fun b o hb e=>(sb.2 b hb).trans e) f0 f1 f3 f4 f5
  obtain ⟨o,e,c,d⟩:=id st'
  exact ⟨u,rfl,go_of (s:={s with heap:=h'}) e c d (by decide) ⟨x,H,I1,ru,⟨rfl,fun ys hy=>by rw [I.tuple_inj hy hq]; exact hx⟩,st',fun b hb=>(hf b hb).1⟩⟩
 done:=by
  intro X hP hw hK hc i pins s σ H E I hf st hg
  subst hP hw hK
  obtain ⟨xs,hq,hx⟩:=hg
  obtain ⟨its,rv,p,hz⟩:=I.tuple hq
  obtain ⟨f0,f1,f2,f3,f4,f5⟩:=hf it (by simp)
  have hl:=rv.length
  exact wpAny_pyNext_tuple_end (I.ok.hd hc) st (show s.heap.IsTuple a its.toArray from p) (by simp; omega) fun h' eb=>⟨rfl,I.turned (t':=s.toks) (fun b o hb e=>eb b o hb e) f0 f1 f3 f4 f5⟩
 self:=fun _ _ _ _ _ st h=>wpAny_pyIter_tupleiter st h
theorem turn_range {P:Program} {w:World} {K:PySem.W.Frag} {tg:Expr} (it:Addr) (lo:Int) (n:Nat):Turn P w K tg (Itr lo n) [it] it (fun i h=>IsRangeIter h it (lo+(i:Nat) * 1) ((n:Int) - (i:Nat)) 1) where
 mem:=by simp
 obj:=fun i h st b hb=>by
  have e:b=it:=by simpa using hb
  subst e
  exact ⟨_,st,fun v z=>by
   have z':Data.fields _=Data.cell v:=z
   cases z'⟩
 keep:=fun i h h' st k=>k it (by simp) _ st
 item:=by
  intro X hP hw hK hc i pins s σ H E I hf st hg
  subst hP hw hK
  obtain ⟨f0,f1,f2,f3,f4,f5⟩:=hf it (by simp)
  have W:=Walks.range (prog:=X.prog) (w:=X.w) (I.ok.hd hc) it lo 1 n
  refine W.item i s _ _ hg st fun v h' tk hv st' kk=>?_
  obtain ⟨t,rfl⟩:=hv
  have I1:Inv X pins σ H {s with heap:=h',toks:=tk}:=I.turned (fun b o hb e=>kk b o (by simpa using hb) e) f0 f1 f3 f4 f5
  refine ⟨_,rfl,go_of (s:={s with heap:=h',toks:=tk}) (n:="range_iterator") st' rfl rfl (by decide) ⟨.int (lo+i),H,I1,⟨t,?_⟩,⟨rfl,rfl⟩,st',fun b hb=>(hf b hb).1⟩⟩
  rw [Int.mul_one]
 done:=by
  intro X hP hw hK hc i pins s σ H E I hf st hg
  subst hP hw hK
  obtain ⟨f0,f1,f2,f3,f4,f5⟩:=hf it (by simp)
  exact wpAny_pyNext_range_end (I.ok.hd hc) st (by have:n<=i:=hg; omega) fun h' eb=>⟨rfl,I.turned (t':=s.toks) (fun b o hb e=>eb b o hb e) f0 f1 f3 f4 f5⟩
 self:=fun _ _ _ _ _ st h=>wpAny_pyIter_rangeiter st h
end L2
namespace L2
open PySem PySem.Spec PyProof.Rows
section
variable {X:Cx} {tg:Expr}
noncomputable def iList (K:PySem.W.Frag) (tl:TE):TI:=fun σ H R=>tl σ H fun x H1=>∃ a,x=.ref a/\(∃ xs,SqL K H1 a xs)/\R (Itl K a) H1
noncomputable def iTup (K:PySem.W.Frag) (tl:TE):TI:=fun σ H R=>tl σ H fun x H1=>∃ a,x=.ref a/\(∃ xs,SqT K H1 a xs)/\R (Itt K a) H1
theorem zw {l:Expr} {tl:TE} (hl:PE X l tl):PI X tg l (iList X.K tl):=by
 intro pins s σ H R I h
 refine thn (hl pins s σ H _ I h) fun v s1 zz=>?_
 obtain ⟨x,H1,I1,r1,q1⟩:=zz
 obtain ⟨a,e,⟨xs,hq⟩,q⟩:=q1
 subst e
 cases r1
 obtain ⟨its,rv,p,hz⟩:=I1.list hq
 refine wpAny_pyIter_list p.isList ?_
 refine ⟨s1.heap.objs.size,[s1.heap.objs.size],_,_,H1,rfl,I1.kept (t':=s1.toks) fun b o e=>Heap.get?_push_of_some _ e,turn_list a _,⟨_,Heap.get?_push_size _ rfl,rfl,rfl⟩,fun b hb=>?_,q⟩
 have e:b=s1.heap.objs.size:=by simpa using hb
 subst e
 exact I1.fpOk (Nat.le_refl _) (I1.hok.fresh (Nat.le_refl _))
theorem pi_tup {l:Expr} {tl:TE} (hl:PE X l tl):PI X tg l (iTup X.K tl):=by
 intro pins s σ H R I h
 refine thn (hl pins s σ H _ I h) fun v s1 zz=>?_
 obtain ⟨x,H1,I1,r1,q1⟩:=zz
 obtain ⟨a,e,⟨xs,hq⟩,q⟩:=q1
 subst e
 cases r1
 obtain ⟨its,rv,p,hz⟩:=I1.tuple hq
 refine wpAny_pyIter_tuple (show s1.heap.IsTuple a its.toArray from p) ?_
 refine ⟨s1.heap.objs.size,[s1.heap.objs.size],_,_,H1,rfl,I1.kept (t':=s1.toks) fun b o e=>Heap.get?_push_of_some _ e,turn_tuple a _,⟨_,Heap.get?_push_size _ rfl,rfl,rfl⟩,fun b hb=>?_,q⟩
 have e:b=s1.heap.objs.size:=by simpa using hb
 subst e
 exact I1.fpOk (Nat.le_refl _) (I1.hok.fresh (Nat.le_refl _))
theorem range_it {pins:List (Addr × Obj)} {σ:St} {H:Hp} {s:Shared} {R:It->Hp->Prop} {E:Value->Shared->Prop} {lo hi:Int} {t u v:Tok} {tk:Nat} (I:Inv X pins σ H s) (h1:-(2 ^ 62)<=lo) (h2:lo < 2 ^ 62) (h3:-(2 ^ 62)<=hi) (h4:hi < 2 ^ 62)
  (q:R (Itr lo (hi - lo).toNat) H):wpAny (model X.prog X.w) X.A (pyIter (.ref s.heap.objs.size)) (PIE X pins σ tg R) E {s with heap:=s.heap.push {cls:=.type "range",data:=.fields #[.int lo t,.int hi u,.int 1 v]},toks:=tk}:=by
 refine wpAny_pyIter_range (IsRange.new ..) (small_one h1 h2 h3 h4) ?_
 have I1:Inv X pins σ H {s with heap:=s.heap.push {cls:=.type "range",data:=.fields #[.int lo t,.int hi u,.int 1 v]},toks:=tk}:=I.kept fun b o e=>Heap.get?_push_of_some _ e
 refine ⟨(s.heap.push {cls:=.type "range",data:=.fields #[.int lo t,.int hi u,.int 1 v]}).objs.size,[(s.heap.push {cls:=.type "range",data:=.fields #[.int lo t,.int hi u,.int 1 v]}).objs.size],_,_,H,rfl,
  I1.kept (t':=tk) fun b o e=>Heap.get?_push_of_some _ e,turn_range _ lo (hi - lo).toNat,?_,fun b hb=>?_,q⟩
 ·have e1:lo+((0:Nat):Int) * 1=lo:=by simp
  have e2:(((hi - lo).toNat:Nat):Int) - ((0:Nat):Int)=Builtin.Range.rangeSize lo hi 1:=by rw [rangeSize_one]; split<;>omega
  show IsRangeIter _ _ (lo+((0:Nat):Int) * 1) ((((hi - lo).toNat:Nat):Int) - ((0:Nat):Int)) 1
  rw [e1,e2]
  exact Heap.get?_push_size _ rfl
 ·have e:b=(s.heap.push {cls:=.type "range",data:=.fields #[.int lo t,.int hi u,.int 1 v]}).objs.size:=by simpa using hb
  subst e
  exact I1.fpOk (Nat.le_refl _) (I1.hok.fresh (Nat.le_refl _))
noncomputable def iRng1 (ta:TA):TI:=fun σ H R=>ta σ H fun vs H1=>∃ j:Int,vs=[.int j]/\-(2 ^ 62)<=j/\j < 2 ^ 62/\R (Itr 0 j.toNat) H1
noncomputable def iRng2 (ta:TA):TI:=fun σ H R=>ta σ H fun vs H1=>∃ i j:Int,vs=[.int i,.int j]/\(-(2 ^ 62)<=i/\i < 2 ^ 62/\-(2 ^ 62)<=j/\j < 2 ^ 62)/\R (Itr i (j - i).toNat) H1
theorem yh {a:Expr} {ta:TA} {p pos:Pos} (hg:Gl X "range") (hm:X.mg "range"=none) (ha:PA X [a] ta) (hs:starEach [a] X.env=[(false,eval a X.env)]:=by rfl):PI X tg (.Call (.Name "range" p) [a] [] pos) (iRng1 ta):=by
 intro pins s σ H R I h
 refine Call_ (ZQ I hg hm boot_range (PyProof.Rows.callWith_type1 (thn (ha pos pins s σ H _ I h) fun us s1 ⟨vs,H1,I1,r1,q1⟩=>?_) hs rfl))
 obtain ⟨j,e,q1,q2,q⟩:=q1
 subst e
 cases r1 with
 |cons r rr=>
  cases rr
  obtain ⟨t,rfl⟩:=r
  exact call_range_1 (range_it I1 (by omega) (by omega) q1 q2 (by simpa using q))
theorem Ym {a b:Expr} {ta:TA} {p pos:Pos} (hg:Gl X "range") (hm:X.mg "range"=none) (ha:PA X [a,b] ta) (hs:starEach [a,b] X.env=[(false,eval a X.env),(false,eval b X.env)]:=by rfl) (hs2:starEach [b] X.env=[(false,eval b X.env)]:=by rfl) :
  PI X tg (.Call (.Name "range" p) [a,b] [] pos) (iRng2 ta):=by
 intro pins s σ H R I h
 refine Call_ (ZQ I hg hm boot_range (PyProof.Rows.callWith_type1 (thn (ha pos pins s σ H _ I h) fun us s1 ⟨vs,H1,I1,r1,q1⟩=>?_) (by rw [hs,hs2]) (by rw [hs2]; rfl)))
 obtain ⟨i,j,e,⟨q1,q2,q3,q4⟩,q⟩:=q1
 subst e
 cases r1 with
 |cons r rr=>
  cases rr with
  |cons r' rr=>
   cases rr
   obtain ⟨t,rfl⟩:=r
   obtain ⟨t',rfl⟩:=r'
   exact call_range_2 (range_it I1 q1 q2 q3 q4 q)
noncomputable def tFor (wi:TI) (g:TG) (tb:TS):TS:=fun D σ H=>wi σ H fun J H1=>∃ W:Nat->Nat->St->Hp->Prop,(∃ m,W 0 m σ H1)/\∀ i m σ H,W i m σ H->
 (J.stop i H/\D.nx σ H)∨(J.go i H/\∃ N:St->Hp->Prop,(∀ σ' H',N σ' H'->∃ m',m' < m/\W (i+1) m' σ' H')/\∀ x H',J.yld i H x H'->g x σ H' fun σ2 H2=>tb {D with nx:=N,ct:=N,bk:=D.nx} σ2 H2)
noncomputable def pinsAt (fp:List Addr) (h:Heap):List (Addr × Obj):=fp.filterMap fun b=>(h.get? b).map fun o=>(b,o)
theorem ZG {fp:List Addr} {h:Heap} {b:Addr} {o:Obj} (hb:b∈fp) (e:h.get? b=some o):(b,o)∈pinsAt fp h:=List.mem_filterMap.mpr ⟨b,hb,by rw [e]; rfl⟩
theorem of_pinsAt {fp:List Addr} {h:Heap} {p:Addr × Obj} (hp:p∈pinsAt fp h):p.1∈fp/\h.get? p.1=some p.2:=by
 obtain ⟨b,hb,e⟩:=List.mem_filterMap.mp hp
 cases q:h.get? b with
 |none=>rw [q] at e; cases e
 |some o=>
  rw [q] at e
  have e':(b,o)=p:=Option.some.inj e
  subst e'
  exact ⟨hb,q⟩
theorem Inv.pinned {pins:List (Addr × Obj)} {σ:St} {H:Hp} {s:Shared} {fp:List Addr} (I:Inv X pins σ H s) (hf:∀ b∈fp,FpOk X pins H b) (ho:∀ b∈fp,∃ o,s.heap.get? b=some o/\∀ v,o.data≠.cell v):Inv X (pins++pinsAt fp s.heap) σ H s:=
 I.pins_of fun p hp=>(List.mem_append.mp hp).elim (fun z=>I.pin p (List.mem_append_right _ z)) fun z=>by
  obtain ⟨hb,e⟩:=of_pinsAt z
  obtain ⟨f0,f1,f2,_⟩:=hf p.1 hb
  obtain ⟨o,e',d⟩:=ho p.1 hb
  rw [e] at e'; cases e'
  exact ⟨e,f0,f1,f2,d⟩
theorem Inv.unpinned {pins pl:List (Addr × Obj)} {σ:St} {H:Hp} {s:Shared} (I:Inv X (pins++pl) σ H s):Inv X pins σ H s:=I.pins_of fun p hp=>I.pin p (List.mem_append_right _ (List.mem_append_left _ hp))
theorem zr {iter:Expr} {body:List Stmt} {wi:TI} {g:TG} {tb:TS} {pos:Pos} (hp:PassesOwn (model X.prog X.w) X.A X.env X.xe) (hc:X.calm=true) (hi:PI X tg iter wi) (hg:PG X tg g) (hb:PSs X body tb)
  (hs:∀ x,foldedSetIterable iter X.env x=pure x:=by intro _; rfl):PS X (.For tg iter body [] pos) (tFor wi g tb):=by
 intro pins s σ H D I h
 refine wpAny_For (thn (hi pins s σ H _ I h) fun v s1 h1=>thn h1 fun itv s2 h2=>?_) hs
 obtain ⟨it,fp,tn,J,H2,e,I2,T,st2,f2,W,⟨m0,w0⟩,turn⟩:=h2
 subst e
 have stat:∀ {H':Hp},(∀ b∈fp,H' b=none)->∀ b∈fp,FpOk X pins H' b:=fun hn b hb=>⟨hn b hb,(f2 b hb).2⟩
 refine codeAny_forLoop_any (fun n s'=>∃ i σ' H',Inv X pins σ' H' s'/\tn i s'.heap/\(∀ b∈fp,H' b=none)/\W i n σ' H') ?_ m0 ⟨0,σ,H2,I2,st2,fun b hb=>(f2 b hb).1,w0⟩
 rintro n s3 ⟨i,σ3,H3,I3,st3,fr3,w3⟩
 rcases turn i n σ3 H3 w3 with ⟨stop,qn⟩|⟨go,N,hN,step⟩
 ·refine wpAny_passesOwn hp (thn (T.done X rfl rfl rfl hc i pins s3 σ3 H3 X.xe I3 (stat fr3) st3 stop) fun r s4 zz=>?_)
  obtain ⟨hr,I4⟩:=zz
  subst hr
  exact wpAny_execs_nil ⟨σ3,H3,I4,qn⟩
 ·refine wpAny_passesOwn hp (thn (T.item X rfl rfl rfl hc i pins s3 σ3 H3 X.xe I3 (stat fr3) st3 go) fun r s4 zz=>?_)
  obtain ⟨u,hr,h4⟩:=zz
  subst hr
  refine wpAny_passesOwn hp (thn h4 fun _ s5 zz=>?_)
  obtain ⟨x,H5,I5,r5,y5,st5,fr5⟩:=zz
  have I5':=I5.pinned (stat fr5) (T.obj _ _ st5)
  refine wpAny_passesOwn hp (thn (hg _ s5 σ3 H5 x u _ I5' r5 (step x H5 y5)) fun _ s6 zz=>?_)
  obtain ⟨σ6,H6,I6,q6⟩:=zz
  refine wpAny_passesOwn hp (thn (hb _ s6 σ6 H6 _ I6 q6) fun f s7 q7=>?_)
  have again:∀ {σ7:St} {H7:Hp},Inv X (pins++pinsAt fp s5.heap) σ7 H7 s7->N σ7 H7->∃ m,m < n/\∃ i σ' H',Inv X pins σ' H' s7/\tn i s7.heap/\(∀ b∈fp,H' b=none)/\W i m σ' H':=fun {σ7 H7} I7 n7=>by
   obtain ⟨m',hm,w7⟩:=hN σ7 H7 n7
   refine ⟨m',hm,i+1,σ7,H7,I7.unpinned,T.keep _ _ _ st5 fun b hb o e=>(I7.pin (b,o) (List.mem_append_right _ (List.mem_append_right _ (ZG hb e)))).1,fun b hb=>?_,w7⟩
   obtain ⟨o,e,d⟩:=T.obj _ _ st5 b hb
   exact (I7.pin (b,o) (List.mem_append_right _ (List.mem_append_right _ (ZG hb e)))).2.1
  cases f with
  |next=>obtain ⟨σ7,H7,I7,n7⟩:=q7; exact again I7 n7
  |cont=>obtain ⟨σ7,H7,I7,n7⟩:=q7; exact again I7 n7
  |brk=>obtain ⟨σ7,H7,I7,q7⟩:=q7; exact ⟨σ7,H7,I7.unpinned,q7⟩
  |ret v=>obtain ⟨x7,σ7,H7,I7,r7,q7⟩:=q7; exact ⟨x7,σ7,H7,I7.unpinned,r7,q7⟩
end
theorem jW {K:PySem.W.Frag} {a:Addr} {xs:List V} {g:TG} {tb:TS} {D:Ends} {σ:St} {H:Hp} (Pv:Nat->St->Hp->Prop) (h0:Pv 0 σ H) (hl:∀ i σ H,i<=xs.length->Pv i σ H->SqL K H a xs)
  (hs:∀ i x σ H,xs[i]?=some x->Pv i σ H->g x σ H fun σ2 H2=>tb {D with nx:=Pv (i+1),ct:=Pv (i+1),bk:=D.nx} σ2 H2) (hd:∀ σ H,Pv xs.length σ H->D.nx σ H) :
  ∃ W:Nat->Nat->St->Hp->Prop,(∃ m,W 0 m σ H)/\∀ i m σ H,W i m σ H->
   ((Itl K a).stop i H/\D.nx σ H)∨((Itl K a).go i H/\∃ N:St->Hp->Prop,(∀ σ' H',N σ' H'->∃ m',m' < m/\W (i+1) m' σ' H')/\∀ x H',(Itl K a).yld i H x H'->g x σ H' fun σ2 H2=>tb {D with nx:=N,ct:=N,bk:=D.nx} σ2 H2):=by
 refine ⟨fun i m σ H=>m=xs.length - i/\i<=xs.length/\Pv i σ H,⟨xs.length,by simp,Nat.zero_le _,h0⟩,?_⟩
 rintro i m σ H ⟨rfl,hi,p⟩
 have q:=hl i σ H hi p
 by_cases hlt:i < xs.length
 ·refine .inr ⟨⟨xs,xs[i],q,by simp [hlt]⟩,Pv (i+1),fun σ' H' p'=>⟨xs.length - (i+1),by omega,rfl,hlt,p'⟩,fun x H' y=>?_⟩
  obtain ⟨e,y⟩:=y
  subst e
  exact hs i x σ _ (y xs q) p
 ·have e:i=xs.length:=by omega
  subst e
  exact .inl ⟨⟨xs,q,Nat.le_refl _⟩,hd σ H p⟩
theorem for_tup {K:PySem.W.Frag} {a:Addr} {xs:List V} {g:TG} {tb:TS} {D:Ends} {σ:St} {H:Hp} (Pv:Nat->St->Hp->Prop) (h0:Pv 0 σ H) (hl:∀ i σ H,i<=xs.length->Pv i σ H->SqT K H a xs)
  (hs:∀ i x σ H,xs[i]?=some x->Pv i σ H->g x σ H fun σ2 H2=>tb {D with nx:=Pv (i+1),ct:=Pv (i+1),bk:=D.nx} σ2 H2) (hd:∀ σ H,Pv xs.length σ H->D.nx σ H) :
  ∃ W:Nat->Nat->St->Hp->Prop,(∃ m,W 0 m σ H)/\∀ i m σ H,W i m σ H->
   ((Itt K a).stop i H/\D.nx σ H)∨((Itt K a).go i H/\∃ N:St->Hp->Prop,(∀ σ' H',N σ' H'->∃ m',m' < m/\W (i+1) m' σ' H')/\∀ x H',(Itt K a).yld i H x H'->g x σ H' fun σ2 H2=>tb {D with nx:=N,ct:=N,bk:=D.nx} σ2 H2):=by
 refine ⟨fun i m σ H=>m=xs.length - i/\i<=xs.length/\Pv i σ H,⟨xs.length,by simp,Nat.zero_le _,h0⟩,?_⟩
 rintro i m σ H ⟨rfl,hi,p⟩
 have q:=hl i σ H hi p
 by_cases hlt:i < xs.length
 ·refine .inr ⟨⟨xs,xs[i],q,by simp [hlt]⟩,Pv (i+1),fun σ' H' p'=>⟨xs.length - (i+1),by omega,rfl,hlt,p'⟩,fun x H' y=>?_⟩
  obtain ⟨e,y⟩:=y
  subst e
  exact hs i x σ _ (y xs q) p
 ·have e:i=xs.length:=by omega
  subst e
  exact .inl ⟨⟨xs,q,Nat.le_refl _⟩,hd σ H p⟩
theorem yC {lo:Int} {n:Nat} {g:TG} {tb:TS} {D:Ends} {σ:St} {H:Hp} (Pv:Nat->St->Hp->Prop) (h0:Pv 0 σ H)
  (hs:∀ i σ H,i < n->Pv i σ H->g (.int (lo+i)) σ H fun σ2 H2=>tb {D with nx:=Pv (i+1),ct:=Pv (i+1),bk:=D.nx} σ2 H2) (hd:∀ σ H,Pv n σ H->D.nx σ H) :
  ∃ W:Nat->Nat->St->Hp->Prop,(∃ m,W 0 m σ H)/\∀ i m σ H,W i m σ H->
   ((Itr lo n).stop i H/\D.nx σ H)∨((Itr lo n).go i H/\∃ N:St->Hp->Prop,(∀ σ' H',N σ' H'->∃ m',m' < m/\W (i+1) m' σ' H')/\∀ x H',(Itr lo n).yld i H x H'->g x σ H' fun σ2 H2=>tb {D with nx:=N,ct:=N,bk:=D.nx} σ2 H2):=by
 refine ⟨fun i m σ H=>m=n - i/\i<=n/\Pv i σ H,⟨n,by simp,Nat.zero_le _,h0⟩,?_⟩
 rintro i m σ H ⟨rfl,hi,p⟩
 by_cases hlt:i < n
 ·refine .inr ⟨hlt,Pv (i+1),fun σ' H' p'=>⟨n - (i+1),by omega,rfl,hlt,p'⟩,fun x H' y=>?_⟩
  obtain ⟨e,y⟩:=y
  subst e y
  exact hs i σ _ hlt p
 ·have e:i=n:=by omega
  subst e
  exact .inl ⟨Nat.le_refl _,hd σ H p⟩
end L2
namespace L2
open PySem PySem.Spec PyProof.Rows
noncomputable abbrev R2:=V->V->Hp->VK->Prop
noncomputable def OpR (X:Cx) (f:Value->Value->Sem Value) (r:R2):Prop:=
 ∀ (pins:List (Addr × Obj)) (s:Shared) (σ:St) (H:Hp) (x y:V) (v u:Value) (Q:VK),Inv X pins σ H s->RelV x v->RelV y u->r x y H Q->
  wpAny (model X.prog X.w) X.A (f v u) (EP X pins σ Q) X.xe s
noncomputable def UnR (X:Cx) (f:Value->Sem Value) (r:V->Hp->VK->Prop):Prop:=
 ∀ (pins:List (Addr × Obj)) (s:Shared) (σ:St) (H:Hp) (x:V) (v:Value) (Q:VK),Inv X pins σ H s->RelV x v->r x H Q->
  wpAny (model X.prog X.w) X.A (f v) (EP X pins σ Q) X.xe s
noncomputable def jE (X:Cx) (f:Value) (r:List V->Hp->VK->Prop):Prop:=
 ∀ (pins:List (Addr × Obj)) (s:Shared) (σ:St) (H:Hp) (xs:List V) (us:List Value) (Q:VK),Inv X pins σ H s->Vals xs us->r xs H Q->
  wpAny (model X.prog X.w) X.A (call f us) (EP X pins σ Q) X.xe s
noncomputable def tOp (r:R2) (ta tb:TE):TE:=fun σ H Q=>ta σ H fun x H1=>tb σ H1 fun y H2=>r x y H2 Q
noncomputable def tUn (r:V->Hp->VK->Prop) (ta:TE):TE:=fun σ H Q=>ta σ H fun x H1=>r x H1 Q
noncomputable def rI (C:Int->Int->Prop) (g:Int->Int->V):R2:=fun x y H Q=>∃ i j,x=.int i/\y=.int j/\C i j/\Q (g i j) H
noncomputable def rI0 (g:Int->Int->V):R2:=fun x y H Q=>∃ i j,x=.int i/\y=.int j/\Q (g i j) H
noncomputable def rU (g:Int->V):V->Hp->VK->Prop:=fun x H Q=>∃ i,x=.int i/\Q (g i) H
section
variable {X:Cx} {a b c:Expr} {ta tb tc:TE} {pos:Pos}
theorem binT (ha:PE X a ta) (hb:PE X b tb) {pins:List (Addr × Obj)} {s:Shared} {σ:St} {H:Hp} {R:V->V->Hp->Prop} (I:Inv X pins σ H s)
  (h:ta σ H fun x H1=>tb σ H1 fun y H2=>R x y H2) {Q:Value->Shared->Prop} {f:Value->Value->Sem Value}
  (hf:∀ v u s2 x y H2,Inv X pins σ H2 s2->RelV x v->RelV y u->R x y H2->wpAny (model X.prog X.w) X.A (f v u) Q X.xe s2) :
  wpAny (model X.prog X.w) X.A (eval a X.env) (fun v s₁=>wpAny (model X.prog X.w) X.A (eval b X.env) (fun u s₂=>wpAny (model X.prog X.w) X.A (f v u) Q X.xe s₂) X.xe s₁) X.xe s:=by
 refine thn (ha pins s σ H _ I h) fun v s1 zz=>?_
 obtain ⟨x,H1,I1,r1,q1⟩:=zz
 refine thn (hb pins s1 σ H1 _ I1 q1) fun u s2 zz=>?_
 obtain ⟨y,H2,I2,r2,q2⟩:=zz
 exact hf v u s2 x y H2 I2 r1 r2 q2
theorem zN {op:Operator} {r:R2} (ho:OpR X (binaryOp op) r) (ha:PE X a ta) (hb:PE X b tb):PE X (.BinOp a op b pos) (tOp r ta tb):=by
 intro pins s σ H Q I h
 exact wpAny_BinOp (binT ha hb I h fun v u s2 x y H2 I2 rx ry q=>ho pins s2 σ H2 x y v u Q I2 rx ry q)
theorem pe_un {op:UnaryOp} {r:V->Hp->VK->Prop} (ho:UnR X (unaryOp op) r) (ha:PE X a ta):PE X (.UnaryOp op a pos) (tUn r ta):=by
 intro pins s σ H Q I h
 exact UnaryOp_ (thn (ha pins s σ H _ I h) fun v s1 ⟨x,H1,I1,r1,q1⟩=>ho pins s1 σ H1 x v Q I1 r1 q1)
theorem opI {f:Value->Value->Sem Value} {C:Int->Int->Prop} {g:Int->Int->Int}
  (rule:∀ (i j:Int) (t u:Tok) (s:Shared) (Q:Value->Shared->Prop) (E:Value->Shared->Prop),C i j->Q (.int (g i j) s.toks) {s with toks:=s.toks+1}->wpAny (model X.prog X.w) X.A (f (.int i t) (.int j u)) Q E s) :
  OpR X f (rI C fun i j=>.int (g i j)):=by
 intro pins s σ H x y v u Q I rx ry h
 obtain ⟨i,j,rfl,rfl,hc,q⟩:=h
 obtain ⟨t,rfl⟩:=rx
 obtain ⟨t',rfl⟩:=ry
 exact rule i j t t' s _ _ hc ⟨.int (g i j),H,I.tok _,⟨_,rfl⟩,q⟩
theorem opI0 {f:Value->Value->Sem Value} {g:Int->Int->Int}
  (rule:∀ (i j:Int) (t u:Tok) (s:Shared) (Q:Value->Shared->Prop) (E:Value->Shared->Prop),Q (.int (g i j) s.toks) {s with toks:=s.toks+1}->wpAny (model X.prog X.w) X.A (f (.int i t) (.int j u)) Q E s) :
  OpR X f (rI0 fun i j=>.int (g i j)):=by
 intro pins s σ H x y v u Q I rx ry h
 obtain ⟨i,j,rfl,rfl,q⟩:=h
 obtain ⟨t,rfl⟩:=rx
 obtain ⟨t',rfl⟩:=ry
 exact rule i j t t' s _ _ ⟨.int (g i j),H,I.tok _,⟨_,rfl⟩,q⟩
theorem opB0 {f:Value->Value->Sem Value} {g:Int->Int->Bool}
  (rule:∀ (i j:Int) (t u:Tok) (s:Shared) (Q:Value->Shared->Prop) (E:Value->Shared->Prop),Q (.bool (g i j)) s->wpAny (model X.prog X.w) X.A (f (.int i t) (.int j u)) Q E s) :
  OpR X f (rI0 fun i j=>.bl (g i j)):=by
 intro pins s σ H x y v u Q I rx ry h
 obtain ⟨i,j,rfl,rfl,q⟩:=h
 obtain ⟨t,rfl⟩:=rx
 obtain ⟨t',rfl⟩:=ry
 exact rule i j t t' s _ _ ⟨.bl (g i j),H,I,rfl,q⟩
theorem zj:OpR X (binaryOp .Add) (rI0 fun i j=>.int (i+j)):=opI0 fun _ _ _ _ _ _ _ q=>add_int q
theorem ZY:OpR X (binaryOp .Sub) (rI0 fun i j=>.int (i - j)):=opI0 fun _ _ _ _ _ _ _ q=>sub_int q
theorem Jm:OpR X (binaryOp .Mod) (rI (fun _ j=>0 < j) fun i j=>.int (i % j)):=opI fun i j _ _ _ _ _ hc q=>by
 have h1:(0:Int) < j:=hc
 exact mod_int' (by omega) (by rw [Int.fmod_eq_emod_of_nonneg i (by omega)]; exact q)
theorem unI {f:Value->Sem Value} {g:Int->Int}
  (rule:∀ (i:Int) (t:Tok) (s:Shared) (Q:Value->Shared->Prop) (E:Value->Shared->Prop),Q (.int (g i) s.toks) {s with toks:=s.toks+1}->wpAny (model X.prog X.w) X.A (f (.int i t)) Q E s) :
  UnR X f (rU fun i=>.int (g i)):=by
 intro pins s σ H x v Q I rx h
 obtain ⟨i,rfl,q⟩:=h
 obtain ⟨t,rfl⟩:=rx
 exact rule i t s _ _ ⟨.int (g i),H,I.tok _,⟨_,rfl⟩,q⟩
theorem Yr:UnR X (unaryOp .USub) (rU fun i=>.int (-i)):=unI fun _ _ _ _ _ q=>neg_int q
end
noncomputable def scal:V->V->Bool
 |.non,.non=>true|.non,.int _=>true|.int _,.non=>true|.non,.bl _=>true|.bl _,.non=>true|.non,.str _=>true|.str _,.non=>true
 |.int _,.int _=>true|.bl _,.bl _=>true|.str _,.str _=>true|.byt _,.byt _=>true
 |.int _,.str _=>true|.str _,.int _=>true|.bl _,.str _=>true|.str _,.bl _=>true
 |_,_=>false
noncomputable def rEq:R2:=fun x y H Q=>scal x y=true/\Q (.bl (decide (x=y))) H
noncomputable def rNe:R2:=fun x y H Q=>scal x y=true/\Q (.bl (!decide (x=y))) H
theorem dec_int {i j:Int}:decide (V.int i=V.int j)=(i == j):=by
 rw [Bool.eq_iff_iff]
 simp
theorem dec_bl {i j:Bool}:decide (V.bl i=V.bl j)=(i == j):=by
 rw [Bool.eq_iff_iff]
 simp
theorem dec_str {i j:Str}:decide (V.str i=V.str j)=(i == j):=by
 rw [Bool.eq_iff_iff]
 simp
theorem dec_byt {i j:Array UInt8}:decide (V.byt i=V.byt j)=(i.toList == j.toList):=by
 rw [Bool.eq_iff_iff]
 cases i
 cases j
 simp
section
variable {X:Cx} {a b c:Expr} {ta tb tc:TE} {pos:Pos}
theorem zg {pins:List (Addr × Obj)} {σ:St} {H:Hp} {s:Shared} {Q:VK} {k k':Bool} (I:Inv X pins σ H s) (q:Q (.bl k) H) (e:k=k'):EP X pins σ Q (.bool k') s:=by
 subst e
 exact ⟨.bl k,H,I,rfl,q⟩
theorem Zm:OpR X (compareOp .Eq) rEq:=by
 intro pins s σ H x y v u Q I rx ry h
 obtain ⟨hs,q⟩:=h
 cases x with
 |non=>
  cases rx
  cases y with
  |non=>cases ry; exact PySem.EqNone.eq_none_none (zg I q (by simp))
  |bl j=>cases ry; exact PySem.EqNone.eq_none_bool (zg I q (by simp))
  |int j=>obtain ⟨t',rfl⟩:=ry; exact PySem.EqNone.eq_none_int (zg I q (by simp))
  |str j=>obtain ⟨t',rfl⟩:=ry; exact PySem.EqNone.eq_none_str (zg I q (by simp))
  |_=>exact absurd (show false=true from hs) Bool.false_ne_true
 |bl i=>
  cases rx
  cases y with
  |non=>cases ry; exact PySem.EqNone.eq_bool_none (zg I q (by simp))
  |bl j=>cases ry; exact eq_bool (zg I q dec_bl)
  |str j=>obtain ⟨t',rfl⟩:=ry; exact PySem.EqMixed.eq_bool_str (zg I q (by simp))
  |_=>exact absurd (show false=true from hs) Bool.false_ne_true
 |int i=>
  obtain ⟨t,rfl⟩:=rx
  cases y with
  |non=>cases ry; exact PySem.EqNone.eq_int_none (zg I q (by simp))
  |int j=>obtain ⟨t',rfl⟩:=ry; exact eq_int (zg I q dec_int)
  |str j=>obtain ⟨t',rfl⟩:=ry; exact PySem.EqMixed.eq_int_str (zg I q (by simp))
  |_=>exact absurd (show false=true from hs) Bool.false_ne_true
 |str i=>
  obtain ⟨t,rfl⟩:=rx
  cases y with
  |non=>cases ry; exact PySem.EqNone.eq_str_none (zg I q (by simp))
  |bl j=>cases ry; exact PySem.EqMixed.eq_str_bool (zg I q (by simp))
  |int j=>obtain ⟨t',rfl⟩:=ry; exact PySem.EqMixed.eq_str_int (zg I q (by simp))
  |str j=>obtain ⟨t',rfl⟩:=ry; exact eq_str (zg I q dec_str)
  |_=>exact absurd (show false=true from hs) Bool.false_ne_true
 |byt i=>
  obtain ⟨t,rfl⟩:=rx
  cases y with
  |byt j=>obtain ⟨t',rfl⟩:=ry; exact PySem.W.eq_bytes (zg I q dec_byt)
  |_=>exact absurd (show false=true from hs) Bool.false_ne_true
 |_=>cases y<;>exact absurd (show false=true from hs) Bool.false_ne_true
theorem op_ne:OpR X (compareOp .NotEq) rNe:=by
 intro pins s σ H x y v u Q I rx ry h
 obtain ⟨hs,q⟩:=h
 cases x with
 |non=>
  cases rx
  cases y with
  |non=>cases ry; exact PySem.EqNone.ne_none_none (zg I q (by simp))
  |bl j=>cases ry; exact PySem.EqNone.ne_none_bool (zg I q (by simp))
  |int j=>obtain ⟨t',rfl⟩:=ry; exact PySem.EqNone.ne_none_int (zg I q (by simp))
  |str j=>obtain ⟨t',rfl⟩:=ry; exact PySem.EqNone.ne_none_str (zg I q (by simp))
  |_=>exact absurd (show false=true from hs) Bool.false_ne_true
 |bl i=>
  cases rx
  cases y with
  |non=>cases ry; exact PySem.EqNone.ne_bool_none (zg I q (by simp))
  |bl j=>cases ry; exact ne_bool (zg I q (congrArg not dec_bl))
  |str j=>obtain ⟨t',rfl⟩:=ry; exact PySem.EqMixed.ne_bool_str (zg I q (by simp))
  |_=>exact absurd (show false=true from hs) Bool.false_ne_true
 |int i=>
  obtain ⟨t,rfl⟩:=rx
  cases y with
  |non=>cases ry; exact PySem.EqNone.ne_int_none (zg I q (by simp))
  |int j=>obtain ⟨t',rfl⟩:=ry; exact ne_int (zg I q (congrArg not dec_int))
  |str j=>obtain ⟨t',rfl⟩:=ry; exact PySem.EqMixed.ne_int_str (zg I q (by simp))
  |_=>exact absurd (show false=true from hs) Bool.false_ne_true
 |str i=>
  obtain ⟨t,rfl⟩:=rx
  cases y with
  |non=>cases ry; exact PySem.EqNone.ne_str_none (zg I q (by simp))
  |bl j=>cases ry; exact PySem.EqMixed.ne_str_bool (zg I q (by simp))
  |int j=>obtain ⟨t',rfl⟩:=ry; exact PySem.EqMixed.ne_str_int (zg I q (by simp))
  |str j=>obtain ⟨t',rfl⟩:=ry; exact ne_str (zg I q (congrArg not dec_str))
  |_=>exact absurd (show false=true from hs) Bool.false_ne_true
 |byt i=>
  obtain ⟨t,rfl⟩:=rx
  cases y with
  |byt j=>obtain ⟨t',rfl⟩:=ry; exact PySem.W.ne_bytes (zg I q (congrArg not dec_byt))
  |_=>exact absurd (show false=true from hs) Bool.false_ne_true
 |_=>cases y<;>exact absurd (show false=true from hs) Bool.false_ne_true
theorem Zy:OpR X (compareOp .Lt) (rI0 fun i j=>.bl (decide (i < j))):=opB0 fun _ _ _ _ _ _ _ q=>lt_int q
theorem JS:OpR X (compareOp .LtE) (rI0 fun i j=>.bl (decide (i<=j))):=opB0 fun _ _ _ _ _ _ _ q=>le_int q
theorem op_gt:OpR X (compareOp .Gt) (rI0 fun i j=>.bl (decide (j < i))):=opB0 fun _ _ _ _ _ _ _ q=>gt_int q
theorem Z9:OpR X (compareOp .GtE) (rI0 fun i j=>.bl (decide (j<=i))):=opB0 fun _ _ _ _ _ _ _ q=>ge_int q
theorem JR:OpR X (compareOp .Is) (fun x y H Q=>y=.non/\Q (.bl (decide (x=.non))) H):=by
 intro pins s σ H x y v u Q I rx ry h
 obtain ⟨rfl,q⟩:=h
 cases ry
 refine is_none_gen (zg I q ?_)
 cases x<;>first
  | (cases rx; rfl)
  | (obtain ⟨t,rfl⟩:=rx; rfl)
theorem op_notN:OpR X (compareOp .IsNot) (fun x y H Q=>y=.non/\Q (.bl (!decide (x=.non))) H):=by
 intro pins s σ H x y v u Q I rx ry h
 obtain ⟨rfl,q⟩:=h
 cases ry
 refine isnot_none_gen (zg I q ?_)
 cases x<;>first
  | (cases rx; rfl)
  | (obtain ⟨t,rfl⟩:=rx; rfl)
theorem zT (b:Expr) {op:CmpOp} (h:op≠.In:=by decide) (h2:op≠.NotIn:=by decide):behindInMarks op b=false:=by
 have e1:(op == CmpOp.In)=false:=by cases op<;>first|rfl|exact absurd rfl h
 have e2:(op == CmpOp.NotIn)=false:=by cases op<;>first|rfl|exact absurd rfl h2
 cases b<;>simp [behindInMarks,e1,e2]
theorem yv {op:CmpOp} {r:R2} (ho:OpR X (compareOp op) r) (ha:PE X a ta) (hb:PE X b tb) (hm:behindInMarks op b=false):PE X (.Compare a [op] [b] pos) (tOp r ta tb):=by
 intro pins s σ H Q I h
 exact wpAny_Compare1 (binT ha hb I h fun v u s2 x y H2 I2 rx ry q=>ho pins s2 σ H2 x y v u Q I2 rx ry q) hm
noncomputable def tTest (t:TE):TT:=fun σ H Q=>t σ H fun x H'=>∃ k,x=.bl k/\Q k H'
theorem zR {op:CmpOp} {r:R2} (ho:OpR X (compareOp op) r) (ha:PE X a ta) (hb:PE X b tb) (hm:behindInMarks op b=false):PT X (.Compare a [op] [b] pos) (tTest (tOp r ta tb)):=by
 intro pins s σ H Q I h
 refine wpAny_isTrue_Compare1 (thn (ha pins s σ H _ I h) fun v s1 ⟨x,H1,I1,r1,q1⟩=>thn (hb pins s1 σ H1 _ I1 q1) fun u s2 ⟨y,H2,I2,r2,q2⟩=>
  thn (ho pins s2 σ H2 x y v u _ I2 r1 r2 q2) fun c s3 ⟨z,H3,I3,r3,k,e,q3⟩=>?_) hm
 subst e
 cases r3
 exact wpAny_truthy_bool ⟨H3,I3,q3⟩
noncomputable def tChain (r r':R2) (ta tb tc:TE):TE:=fun σ H Q=>ta σ H fun x H1=>tb σ H1 fun y H2=>r x y H2 fun z H3=>∃ k,z=.bl k∧
 (if k=true then tc σ H3 fun w' H4=>r' y w' H4 Q else Q (.bl false) H3)
theorem pe_chain {op op':CmpOp} {r r':R2} (ho:OpR X (compareOp op) r) (ho':OpR X (compareOp op') r') (ha:PE X a ta) (hb:PE X b tb) (hc:PE X c tc)
  (hm:lastMarks [op,op'] [b,c]=false:=by with_unfolding_all rfl):PE X (.Compare a [op,op'] [b,c] pos) (tChain r r' ta tb tc):=by
 intro pins s σ H Q I h
 refine Compare_chain (thn (ha pins s σ H _ I h) fun v s1 ⟨x,H1,I1,r1,q1⟩=>chain_link (thn (hb pins s1 σ H1 _ I1 q1) fun u s2 ⟨y,H2,I2,r2,q2⟩=>
  thn (ho pins s2 σ H2 x y v u _ I2 r1 r2 q2) fun d s3 ⟨z,H3,I3,r3,k,e,q3⟩=>?_)) hm
 subst e
 cases r3
 refine wpAny_truthy_bool ?_
 cases k with
 |false=>exact ite_ff ⟨.bl false,H3,I3,rfl,q3⟩
 |true=>exact ite_tt (chain_last (thn (hc pins s3 σ H3 _ I3 q3) fun w' s4 ⟨z',H4,I4,r4,q4⟩=>ho' pins s4 σ H4 y z' u w' Q I4 r2 r4 q4))
theorem pt_chain {op op':CmpOp} {r r':R2} (ho:OpR X (compareOp op) r) (ho':OpR X (compareOp op') r') (ha:PE X a ta) (hb:PE X b tb) (hc:PE X c tc)
  (hm:lastMarks [op,op'] [b,c]=false:=by with_unfolding_all rfl):PT X (.Compare a [op,op'] [b,c] pos) (tTest (tChain r r' ta tb tc)):=by
 intro pins s σ H Q I h
 refine isTrue_chain (thn (ha pins s σ H _ I h) fun v s1 ⟨x,H1,I1,r1,q1⟩=>test_link (thn (hb pins s1 σ H1 _ I1 q1) fun u s2 ⟨y,H2,I2,r2,q2⟩=>
  thn (ho pins s2 σ H2 x y v u _ I2 r1 r2 q2) fun d s3 ⟨z,H3,I3,r3,k,e,q3⟩=>?_)) hm
 subst e
 cases r3
 refine wpAny_truthy_bool ?_
 cases k with
 |false=>
  obtain ⟨k',e',q'⟩:=q3
  cases e'
  exact ite_ff ⟨H3,I3,q'⟩
 |true=>
  refine ite_tt (test_last (thn (hc pins s3 σ H3 _ I3 q3) fun w' s4 ⟨z',H4,I4,r4,q4⟩=>thn (ho' pins s4 σ H4 y z' u w' _ I4 r2 r4 q4) fun d' s5 zz=>?_))
  obtain ⟨z2,H5,I5,r5,k2,e2,q5⟩:=zz
  subst e2
  cases r5
  exact wpAny_truthy_bool ⟨H5,I5,q5⟩
theorem line63:(sizeLine:Nat) < 2 ^ 63:=by rw [sizeLine_eq]; decide
theorem Zz {x:V} {us:List Value} (r:Vals [x] us):∃ u,us=[u]/\RelV x u:=by
 cases r with
 |cons r1 r2=>cases r2; exact ⟨_,rfl,r1⟩
theorem vals2 {x y:V} {us:List Value} (r:Vals [x,y] us):∃ u w',us=[u,w']/\RelV x u/\RelV y w':=by
 cases r with
 |cons r1 r2=>
  cases r2 with
  |cons r3 r4=>cases r4; exact ⟨_,_,rfl,r1,r3⟩
theorem Yb:jE X (.builtin "abs") (fun xs H Q=>∃ i,xs=[.int i]∧Q (.int (if i < 0 then -i else i)) H):=by
 intro pins s σ H xs us Q I r h
 obtain ⟨i,rfl,q⟩:=h
 obtain ⟨u,rfl,t,rfl⟩:=Zz r
 exact call_abs_int fun u tk=>⟨.int (if i < 0 then -i else i),H,I.tok _,⟨_,rfl⟩,q⟩
theorem call_max2 (hc:X.calm=true):jE X (.builtin "max") (fun xs H Q=>∃ i j,xs=[.int i,.int j]∧Q (.int (if j > i then j else i)) H):=by
 intro pins s σ H xs us Q I r h
 obtain ⟨i,j,rfl,q⟩:=h
 obtain ⟨u,w',rfl,⟨t,rfl⟩,⟨t',rfl⟩⟩:=vals2 r
 refine max_two_ints (I.ok.hd hc) fun h' tk k=>⟨_,H,I.kept k,?_,q⟩
 by_cases hj:j > i
 ·rw [if_pos hj,if_pos hj]; exact ⟨_,rfl⟩
 ·rw [if_neg hj,if_neg hj]; exact ⟨_,rfl⟩
theorem call_min2 (hc:X.calm=true):jE X (.builtin "min") (fun xs H Q=>∃ i j,xs=[.int i,.int j]∧Q (.int (if j < i then j else i)) H):=by
 intro pins s σ H xs us Q I r h
 obtain ⟨i,j,rfl,q⟩:=h
 obtain ⟨u,w',rfl,⟨t,rfl⟩,⟨t',rfl⟩⟩:=vals2 r
 refine min_two_ints (I.ok.hd hc) fun h' tk k=>⟨_,H,I.kept k,?_,q⟩
 by_cases hj:j < i
 ·rw [if_pos hj,if_pos hj]; exact ⟨_,rfl⟩
 ·rw [if_neg hj,if_neg hj]; exact ⟨_,rfl⟩
noncomputable def LenV (K:PySem.W.Frag) (x:V) (H:Hp) (n:Nat):Prop:=
 match x with
 |.str y=>y.length<=sizeLine/\n=y.length
 |.byt y=>y.size<=sizeLine/\n=y.size
 |.ref p=>(∃ xs,SqL K H p xs/\n=xs.length)∨∃ xs,SqT K H p xs/\n=xs.length
 |_=>False
theorem yD:jE X (.builtin "len") (fun xs H Q=>∃ x n,xs=[x]∧LenV X.K x H n∧Q (.int n) H):=by
 intro pins s σ H xs us Q I r h
 obtain ⟨x,n,rfl,e,q⟩:=h
 obtain ⟨u,rfl,rx⟩:=Zz r
 have hl:=line63
 have hs:sizeLine=16777216:=sizeLine_eq
 cases x with
 |str y=>
  obtain ⟨t,rfl⟩:=rx
  obtain ⟨hy,e'⟩:y.length<=sizeLine/\n=y.length:=e
  subst e'
  exact len_str (by omega) ⟨.int _,H,I.tok _,⟨_,rfl⟩,q⟩
 |byt y=>
  obtain ⟨t,rfl⟩:=rx
  obtain ⟨hy,e'⟩:y.size<=sizeLine/\n=y.size:=e
  subst e'
  exact PySem.W.len_bytes (by omega) ⟨.int _,H,I.tok _,⟨_,rfl⟩,q⟩
 |ref p=>
  cases rx
  have e':(∃ xs,SqL X.K H p xs/\n=xs.length)∨∃ xs,SqT X.K H p xs/\n=xs.length:=e
  rcases e' with ⟨xs,hx,e'⟩|⟨xs,hx,e'⟩
  ·subst e'
   obtain ⟨its,r',pl,hz⟩:=I.list hx
   have hlen:=r'.length
   exact Calls.call_len_list pl.isList (by simp only [List.size_toArray]; omega) ⟨.int xs.length,H,I.tok _,⟨_,by simp only [List.size_toArray]; rw [hlen]⟩,q⟩
  ·subst e'
   obtain ⟨its,r',pl,hz⟩:=I.tuple hx
   have hlen:=r'.length
   exact len_tuple pl (by simp only [List.size_toArray]; omega) ⟨.int xs.length,H,I.tok _,⟨_,by simp only [List.size_toArray]; rw [hlen]⟩,q⟩
 |_=>exact (show False from e).elim
end
end L2
namespace L2
open PySem PySem.Spec PyProof.Rows
structure ObjM (h:Heap) (x dx C:Addr) (mA:Str->Option Value):Prop where
 obj:h.get? x=some (PySem.W.instObj C dx)
 ns:h.Ns1 dx mA
 ne:dx≠x
theorem lookIn_ns {h:Heap} {dx:Addr} {mA:Str->Option Value} (n:h.Ns1 dx mA):∃ od,h.get? dx=some od/\∀ name,PySem.W.lookIn name od=some (mA name):=by
 obtain ⟨o,es,ep,ho,hd,hk,_,hm⟩:=n
 refine ⟨o,ho,fun name=>?_⟩
 have e:=hm name
 unfold nsFind findBy at e
 rw [<- Array.find?_toList] at e
 unfold PySem.W.lookIn
 rw [hd]
 dsimp only
 split
 ·rename_i y q
  rw [q] at e
  exact congrArg some e
 ·rename_i q
  rw [q] at e
  have a:es.toList.any (·.refKey)=false:=by
   rw [List.any_eq_false]
   intro y hy
   obtain ⟨z,t,hkey⟩:=hk y (Array.mem_toList_iff.mp hy)
   simp [DictEntry.refKey,hkey]
  have a':¬ es.toList.any (·.refKey)=true:=by rw [a]; exact Bool.false_ne_true
  rw [if_neg a']
  exact congrArg some e
theorem ObjM.look {h:Heap} {x dx C:Addr} {mA:Str->Option Value} (I:ObjM h x dx C mA):∃ od,PySem.W.InstAt h x (PySem.W.instObj C dx) C (some od)/\∀ name,PySem.W.lookIn name od=some (mA name):=
 let ⟨od,ho,hl⟩:=lookIn_ns I.ns
 ⟨od,⟨I.obj,rfl,rfl,ho⟩,hl⟩
section
variable {prog:Program} {w:World} {A:Around} {E:Value->Shared->Prop} {s:Shared} {K:PySem.W.Frag} {x dx C f:Addr} {mA:Str->Option Value} {name:Str} {v:Value}
theorem get_map {expr:Bool} {Q:Value->Shared->Prop} (X:K.In s.heap) (I:ObjM s.heap x dx C mA) (hg:PySem.W.plainGet K C name=true) (hh:PySem.W.hasDictIn K C=true)
  (ha:PySem.W.findIn K (.ref C) name=some none) (hv:mA name=some v) (hv':PySem.W.handedIn v=true) (h:Q v {s with toks:=s.toks+1}) :
  wpAny (model prog w) A (getAttr (.ref x) name expr) Q E s:=by
 obtain ⟨od,J,hl⟩:=I.look
 exact PySem.W.get_value X J (PySem.W.plainGet_of hg).1 (PySem.W.findObj_own hh ha rfl (by rw [hl,hv])) hv' h
theorem get_meth {pl:Sem Bool} {Q:Value × List Value->Shared->Prop} (X:K.In s.heap) (I:ObjM s.heap x dx C mA) (hg:PySem.W.plainGet K C name=true)
  (hf:PySem.W.findIn K (.ref C) name=some (some (.ref f))) (ht:PySem.W.isFn K (.ref f)=true) (hv:mA name=none) (h:Q (.ref f,[.ref x]) s) :
  wpAny (model prog w) A (getMethod (.ref x) name pl) Q E s:=by
 obtain ⟨od,J,hl⟩:=I.look
 exact PySem.W.method_fn X J (PySem.W.plainGet_of hg).1 (PySem.W.plainGet_of hg).2 hf (beq_iff_eq.mp ht) (by show (PySem.W.lookIn name od).map (·.isSome)=some false; rw [hl,hv]; rfl) h
theorem set_map {ns:List Str} {Q:Unit->Shared->Prop} (X:K.In s.heap) (I:ObjM s.heap x dx C mA)
  (hs:PySem.W.findIn K (.ref C) "__setattr__"=some (some (.builtin "object.__setattr__"))) (hp:PySem.W.plainOver K C=true) (ht:PySem.W.takerIn K C name=some none) (hh:PySem.W.hasDictIn K C=true)
  (hw:PySem.Within mA ns) (hsz:ns.length<=sizeLine)
  (h:∀ h',ObjM h' x dx C (fun y=>if y=name then some v else mA y)->Heap.SameBut dx s.heap h'->Q () {s with heap:=h',toks:=s.toks+2}) :
  wpAny (model prog w) A (setAttr (.ref x) name v) Q E s:=by
 obtain ⟨od,J,hl⟩:=I.look
 refine PySem.W.set_plain X J hs (PySem.W.osa_open (s:={s with toks:=s.toks+1}) (r:=none) X J hp ht fun b=>?_)
 obtain ⟨cd,hc,hd'⟩:=PySem.W.any_some hh
 have hx:s.heap.get? x=some ⟨.ref C,some dx,.plain,#[]⟩:=I.obj
 refine wpAny_bind (wpAny_pure (wpAny_bind (wpAny_bind (wpAny_loadPart hx (wpAny_bind (PySem.W.Looks.here (s:={s with toks:=s.toks+1}) (PySem.W.looks_clsIn X hc) ?_))))))
 rw [hd']
 refine wpAny_pure (a:=some dx) (wpAny_bind (wpAny_pure (wpAny_bind ?_)))
 refine wpAny_nsSet1 (s:={s with toks:=s.toks+1}) I.ns fun h' hn2 hs2=>?_
 obtain ⟨oD,esD,epD,hoD,hdD,hcD⟩:=hn2.count (PySem.Within.cons name v hw)
 refine wpAny_bind (wpAny_lookBehind hoD (by rw [hdD]; exact pastItsLine_dict (Nat.le_trans hcD (by rw [List.length_cons]; omega))) ?_)
 exact wpAny_pure (h _ ⟨(hs2.2 _ (Ne.symm I.ne)).trans I.obj,hn2,I.ne⟩ hs2)
theorem make_map {R:Result->Shared->Prop} {vs:List Value} {kw:List (Str × Value)} (X:K.In s.heap) (hm:PySem.W.makesIn K C=true)
  (hi:PySem.W.findIn K (.ref C) "__init__"=some (some (.ref f))) (hf:PySem.W.typeIn K (.ref f)=some (.type "function"))
  (h:codeAny (model prog w) (A.under (.builtin "type.__call__" ⟨.ref C::vs,kw⟩)) (.call (.ref f) ⟨.ref (s.heap.objs.size+1)::vs,kw⟩) (PySem.W.InitBack (s.heap.objs.size+1) R)
   {s with heap:=(s.heap.push PySem.W.emptyDict).push (PySem.W.instObj C s.heap.objs.size)}) :
  codeAny (model prog w) A (.call (.ref C) ⟨vs,kw⟩) R s:=by
 obtain ⟨hh,g,d,t,os⟩:=s
 exact PySem.W.make_core (PySem.W.makes_of X hm) (PySem.W.looks_findIn X hi) (fun self=>PySem.W.bind_fn X self hf) (.inl rfl) h
end
noncomputable def putF (f:Str) (v:V):List (Str × V)->List (Str × V)
 |[]=>[(f,v)]
 | (g,x)::r=>if g=f then (g,v)::r else (g,x)::putF f v r
theorem Yz (f g:Str) (v:V):∀ fs:List (Str × V),(putF f v fs).lookup g=if g=f then some v else fs.lookup g
 |[]=>by
  show List.lookup g [(f,v)]=_
  by_cases h:g=f
  ·have hb:(g == f)=true:=beq_iff_eq.mpr h
   simp only [List.lookup,hb,if_pos h]
  ·have hb:(g == f)=false:=beq_eq_false_iff_ne.mpr h
   simp only [List.lookup,hb,if_neg h]
 | (k,x)::r=>by
  have ih:=Yz f g v r
  rw [show putF f v ((k,x)::r)=(if k=f then (k,v)::r else (k,x)::putF f v r) from rfl]
  by_cases hk:k=f
  ·rw [if_pos hk]
   by_cases h:g=k
   ·have hb:(g == k)=true:=beq_iff_eq.mpr h
    simp only [List.lookup,hb,if_pos (h.trans hk)]
   ·have hb:(g == k)=false:=beq_eq_false_iff_ne.mpr h
    simp only [List.lookup,hb,if_neg (fun e:g=f=>h (e.trans hk.symm))]
  ·rw [if_neg hk]
   by_cases h:g=k
   ·have hb:(g == k)=true:=beq_iff_eq.mpr h
    simp only [List.lookup,hb,if_neg (fun e:g=f=>hk (h.symm.trans e))]
   ·have hb:(g == k)=false:=beq_eq_false_iff_ne.mpr h
    simp only [List.lookup,hb]
    exact ih
theorem Yp (f:Str) (v:V):∀ fs:List (Str × V),f∈(putF f v fs).map (·.1)/\∀ g,g∈fs.map (·.1)->g∈(putF f v fs).map (·.1)
 |[]=>⟨by simp [putF],fun g h=>by simp at h⟩
 | (k,x)::r=>by
  obtain ⟨i1,i2⟩:=Yp f v r
  rw [show putF f v ((k,x)::r)=(if k=f then (k,v)::r else (k,x)::putF f v r) from rfl]
  by_cases hk:k=f
  ·rw [if_pos hk]
   subst hk
   exact ⟨by simp,fun g h=>by simpa using h⟩
  ·rw [if_neg hk]
   refine ⟨?_,fun g h=>?_⟩
   ·rw [List.map_cons]
    exact List.mem_cons_of_mem _ i1
   ·rw [List.map_cons] at h ⊢
    rcases List.mem_cons.mp h with e|e
    ·exact List.mem_cons.mpr (.inl e)
    ·exact List.mem_cons_of_mem _ (i2 g e)
theorem Yy (f:Str) (v:V):∀ fs:List (Str × V),(putF f v fs).length<=fs.length+1
 |[]=>by simp [putF]
 | (k,x)::r=>by
  have ih:=Yy f v r
  rw [show putF f v ((k,x)::r)=(if k=f then (k,v)::r else (k,x)::putF f v r) from rfl]
  by_cases hk:k=f
  ·rw [if_pos hk,List.length_cons,List.length_cons]; omega
  ·rw [if_neg hk,List.length_cons,List.length_cons]; omega
theorem RelO.some_of {v:V} {o:Option Value} (r:RelO (some v) o):∃ u,o=some u/\RelV v u:=by
 cases o with
 |none=>exact (show False from r).elim
 |some u=>exact ⟨u,rfl,r⟩
theorem RelO.none_of {o:Option Value} (r:RelO none o):o=none:=by
 cases o with
 |none=>rfl
 |some u=>exact (show False from r).elim
theorem handed_of {v:V} {u:Value} (r:RelV v u):PySem.W.handedIn u=true:=by
 cases v with
 |non=>cases (show u=Value.none from r); rfl
 |bl b=>cases (show u=Value.bool b from r); rfl
 |int i=>obtain ⟨t,e⟩:=(show ∃ t,u=Value.int i t from r); cases e; rfl
 |str x=>obtain ⟨t,e⟩:=(show ∃ t,u=Value.str x t from r); cases e; rfl
 |byt b=>obtain ⟨t,e⟩:=(show ∃ t,u=Value.bytes b t from r); cases e; rfl
 |flt b=>obtain ⟨t,e⟩:=(show ∃ t,u=Value.float b t from r); cases e; rfl
 |ref a=>cases (show u=Value.ref a from r); rfl
 |ty n=>cases (show u=Value.type n from r); rfl
section
variable {P:Program} {w:World} {H H':Hp} {h h':Heap} {a C dx:Addr} {fs fs':List (Str × V)}
theorem JD (hok:HOk P w H h) (e:H a=some (.ins C dx fs)):∃ mA,ObjM h a dx C mA/\(∀ f,RelO (fs.lookup f) (mA f))/\PySem.Within mA (fs.map (·.1))/\fs.length<=1000/\H dx=some (.own a):=by
 obtain ⟨d,z,ne,ob,mA,n,r,q⟩:=(show zo P w H h a (.ins C dx fs) from hok a _ e)
 exact ⟨mA,⟨ob,n,ne⟩,r,q,z,d⟩
end
structure Cls (K:PySem.W.Frag) (C:Addr):Prop where
 pg:PySem.W.plainGet K C Str.empty=true
 hd:PySem.W.hasDictIn K C=true
 po:PySem.W.plainOver K C=true
 sa:PySem.W.findIn K (.ref C) "__setattr__"=some (some (.builtin "object.__setattr__"))
theorem Cls.get {K:PySem.W.Frag} {C:Addr} (c:Cls K C) (f:Str):PySem.W.plainGet K C f=true:=c.pg
noncomputable def yj (K:PySem.W.Frag) (C:Addr) (f:Str):Prop:=PySem.W.findIn K (.ref C) f=some none
theorem yj.taker {K:PySem.W.Frag} {C:Addr} {f:Str} (n:yj K C f):PySem.W.takerIn K C f=some none:=by
 unfold PySem.W.takerIn
 rw [show PySem.W.findIn K (.ref C) f=some none from n]
 rfl
structure Meth (K:PySem.W.Frag) (C:Addr) (m:Str) (f:Addr):Prop where
 at_:PySem.W.findIn K (.ref C) m=some (some (.ref f))
 fn:PySem.W.isFn K (.ref f)=true
 kp:PySem.W.keepIn K (.ref f)=true
section
variable {X:Cx} {pins:List (Addr × Obj)} {σ:St} {H:Hp} {s:Shared} {a C dx:Addr} {fs:List (Str × V)} {f:Str} {v:V} {A:Around} {E:Value->Shared->Prop}
theorem JZ {b:Bool} {Q:Value->Shared->Prop} (I:Inv X pins σ H s) (e:H a=some (.ins C dx fs)) (c:Cls X.K C) (n:yj X.K C f) (l:fs.lookup f=some v)
  (h:∀ u s',Inv X pins σ H s'->RelV v u->Q u s'):wpAny (model X.prog X.w) A (getAttr (.ref a) f b) Q E s:=by
 obtain ⟨mA,O,r,_,_,_⟩:=JD I.hok e
 obtain ⟨u,hu,ru⟩:=RelO.some_of (v:=v) (o:=mA f) (by rw [<- l]; exact r f)
 exact get_map I.kIn O (c.get f) c.hd n hu (handed_of ru) (h u _ (I.tok _) ru)
theorem JO {m:Str} {g:Addr} {pl:Sem Bool} {Q:Value × List Value->Shared->Prop} (I:Inv X pins σ H s) (e:H a=some (.ins C dx fs)) (c:Cls X.K C) (k:Meth X.K C m g) (l:fs.lookup m=none)
  (h:Q (.ref g,[.ref a]) s):wpAny (model X.prog X.w) A (getMethod (.ref a) m pl) Q E s:=by
 obtain ⟨mA,O,r,_,_,_⟩:=JD I.hok e
 have hn:mA m=none:=RelO.none_of (by rw [<- l]; exact r m)
 exact get_meth I.kIn O (c.get m) k.at_ k.fn hn h
theorem Jj {y:V} {u:Value} {Q:Unit->Shared->Prop} (I:Inv X pins σ H s) (e:H a=some (.ins C dx fs)) (c:Cls X.K C) (n:yj X.K C f) (hl:fs.length < 1000) (ry:RelV y u)
  (h:∀ s',Inv X pins σ (upd H a (.ins C dx (putF f y fs))) s'->Q () s'):wpAny (model X.prog X.w) A (setAttr (.ref a) f u) Q E s:=by
 obtain ⟨mA,O,r,wi,_,ho⟩:=JD I.hok e
 have hz:(fs.map (·.1)).length<=sizeLine:=by rw [List.length_map,sizeLine_eq]; omega
 refine set_map I.kIn O c.sa c.po n.taker c.hd wi hz fun h' O' sb=>h _ ?_
 have hd:∃ o,h'.get? dx=some o:=let ⟨o,_,_,e',_⟩:=O'.ns; ⟨o,e'⟩
 refine I.write (x:=a) (e:=dx) (by rw [e]; exact True.intro) (.inr ho) (fun b q hb z=>(sb.2 b hb).trans z) hd ?_
 refine ⟨by rw [zY O.ne]; exact ho,?_,O.ne,O'.obj,_,O'.ns,fun g=>?_,fun g hg=>?_⟩
 ·have:=Yy f y fs; omega
 ·show RelO ((putF f y fs).lookup g) (if g=f then some u else mA g)
  rw [Yz]
  by_cases q:g=f
  ·rw [if_pos q,if_pos q]; exact ry
  ·rw [if_neg q,if_neg q]; exact r g
 ·by_cases q:g=f
  ·rw [q]; exact (Yp f y fs).1
  ·refine (Yp f y fs).2 g (wi g fun z=>hg ?_)
   show (if g=f then some u else mA g)=none
   rw [if_neg q]; exact z
theorem Inv.made (I:Inv X pins σ H s):Inv X pins σ (upd (upd H s.heap.objs.size (.own (s.heap.objs.size+1))) (s.heap.objs.size+1) (.ins C s.heap.objs.size []))
  {s with heap:=(s.heap.push PySem.W.emptyDict).push (PySem.W.instObj C s.heap.objs.size)}:=by
 have e1:(s.heap.push PySem.W.emptyDict).get? s.heap.objs.size=some PySem.W.emptyDict:=Heap.get?_push_size s.heap rfl
 have e2:((s.heap.push PySem.W.emptyDict).push (PySem.W.instObj C s.heap.objs.size)).get? (s.heap.objs.size+1)=some (PySem.W.instObj C s.heap.objs.size):=by
  have:=Heap.get?_push_size (s.heap.push PySem.W.emptyDict) (o:=PySem.W.instObj C s.heap.objs.size) rfl
  rwa [Heap.size_push] at this
 have e3:(s.heap.push PySem.W.emptyDict).Ns s.heap.objs.size (fun _=>none):=⟨PySem.W.emptyDict,#[],_,e1,rfl,(fun e he=>absurd he (by simp)),fun _=>rfl⟩
 have I1:=I.laid (a:=s.heap.objs.size) (o:=.own (s.heap.objs.size+1)) (h':=s.heap.push PySem.W.emptyDict) (t':=s.toks) (fun b u q=>Heap.get?_push_of_some _ q) (Nat.le_refl _) ⟨_,e1⟩
 refine I1.laid (a:=s.heap.objs.size+1) (o:=.ins C s.heap.objs.size []) (t':=s.toks) (fun b u q=>Heap.get?_push_of_some _ q) (Nat.le_of_eq (Heap.size_push _ _)) ?_
 have ne:s.heap.objs.size≠s.heap.objs.size+1:=Nat.ne_of_lt (Nat.lt_succ_self _)
 refine ⟨by rw [zY ne,zk],Nat.zero_le _,ne,e2,fun _=>none,(Heap.Ns1.of_empty e3).at fun o q=>Heap.get?_push_of_some _ q,fun _=>True.intro,fun y hy=>absurd rfl hy⟩
theorem attr_of {prog:Program} {w:World} {env:Env} {e:Expr} {f:Str} {pos:Pos} {s:Shared} {Q:Value->Shared->Prop} (hb:attributeBase e f env (eval e env)=eval e env)
  (h:wpAny (model prog w) A (eval e env) (fun o s₁=>wpAny (model prog w) A (getAttr o f true) Q E s₁) E s):wpAny (model prog w) A (eval (.Attribute e f pos) env) Q E s:=
 Attribute_any_ h (by rw [arm_eval_Attribute,hb])
end
noncomputable def InOp (X:Cx) (op:Operator) (rd:V->V->Hp->VK->Prop):Prop:=
 ∀ (pins:List (Addr × Obj)) (s:Shared) (σ:St) (H:Hp) (x y:V) (u v:Value) (Q:VK),Inv X pins σ H s->RelV x u->RelV y v->rd x y H Q->wpAny (model X.prog X.w) X.A (inplaceOp op u v) (EP X pins σ Q) X.xe s
section
variable {X:Cx} {o e value:Expr} {f:Str} {pos pos' tpos:Pos} {ta tv:TE}
noncomputable def rAdd:V->V->Hp->VK->Prop:=fun x y H Q=>∃ i j,x=.int i/\y=.int j/\Q (.int (i+j)) H
theorem in_add:InOp X .Add rAdd:=by
 rintro pins s σ H x y u v Q I rx ry ⟨i,j,rfl,rfl,q⟩
 obtain ⟨t,rfl⟩:=(show ∃ t,u=Value.int i t from rx)
 obtain ⟨t',rfl⟩:=(show ∃ t',v=Value.int j t' from ry)
 exact PyProof.Rows.iadd_int ⟨.int (i+j),H,I.tok _,⟨_,rfl⟩,q⟩
end
section
variable {X:Cx} {pins:List (Addr × Obj)} {σ:St} {H:Hp} {s:Shared} {A:Around} {E:Value->Shared->Prop} {Q:Value->Shared->Prop} {c:Value} {b:Bool}
inductive TyOf (K:PySem.W.Frag) (H:Hp):V->Value->Prop where
 |non:TyOf K H .non (.type "NoneType")
 |bl (x:Bool):TyOf K H (.bl x) (.type "bool")
 |int (i:Int):TyOf K H (.int i) (.type "int")
 |str (x:Str):TyOf K H (.str x) (.type "str")
 |flt (x:UInt64):TyOf K H (.flt x) (.type "float")
 |lst {a:Addr} {xs:List V} (e:H a=some (.lst xs)):TyOf K H (.ref a) (.type "list")
 |frz {a:Addr} {o:Obj} {xs:List V} (e:H a=some (.frz o (.lst xs))):TyOf K H (.ref a) (.type "list")
 |tup {a:Addr} {xs:List V} (e:H a=some (.tup xs)):TyOf K H (.ref a) (.type "tuple")
 |dK {a:Addr} {kvs:List (Key × V)} (e:H a=some (.dK kvs)):TyOf K H (.ref a) (.type "dict")
 |dT {a:Addr} {kvs:List (List Key × V)} (e:H a=some (.dT kvs)):TyOf K H (.ref a) (.type "dict")
 |ins {a C dx:Addr} {fs:List (Str × V)} (e:H a=some (.ins C dx fs)) (cl:Cls K C) (ha:PySem.W.findIn K (.ref C) "__class__"=some (some (.builtin "object.__class__")))
   (hn:PySem.W.specialIn K (.builtin "object.__class__") "__get__"=some (some (.builtin "getset_descriptor.__get__"))) (htk:PySem.W.takesIn K (.builtin "object.__class__")=some true)
   (hm:PySem.W.mroIn K C (.type "object")=some true):TyOf K H (.ref a) (.ref C)
theorem isinst_ok {x:V} {u t:Value} (I:Inv X pins σ H s) (rx:RelV x u) (ty:TyOf X.K H x t) (e:PySem.W.kitOne X.K t c=some b) (h:∀ tk,Q (.bool b) {s with toks:=tk}) :
  wpAny (model X.prog X.w) A (call (.builtin "isinstance") [u,c]) Q E s:=by
 cases ty with
 |non=>cases (show u=Value.none from rx); exact PySem.W.kia_one PySem.W.kitx_none I.kIn True.intro e (fun z=>nomatch z) h
 |bl y=>cases (show u=Value.bool y from rx); exact PySem.W.kia_one PySem.W.kitx_bool I.kIn True.intro e (fun z=>nomatch z) h
 |int i=>obtain ⟨t,q⟩:=(show ∃ t,u=Value.int i t from rx); cases q; exact PySem.W.kia_one PySem.W.kitx_int I.kIn True.intro e (fun z=>nomatch z) h
 |str y=>obtain ⟨t,q⟩:=(show ∃ t,u=Value.str y t from rx); cases q; exact PySem.W.kia_one PySem.W.kitx_str I.kIn True.intro e (fun z=>nomatch z) h
 |flt y=>obtain ⟨t,q⟩:=(show ∃ t,u=Value.float y t from rx); cases q; exact PySem.W.kia_one PySem.W.kitx_float I.kIn True.intro e (fun z=>nomatch z) h
 |@lst a xs ea=>
  cases (show u=Value.ref a from rx)
  obtain ⟨_,_,n,_,h1⟩:=(show zo X.prog X.w H s.heap a (.lst xs) from I.hok a _ ea)
  exact PySem.W.kia_one PySem.W.kitx_list I.kIn ⟨_,h1,rfl⟩ e (fun z=>nomatch z) h
 |@frz a ob xs ea=>
  cases (show u=Value.ref a from rx)
  obtain ⟨_,_,_,n,_,h1⟩:=(show zo X.prog X.w H s.heap a (.frz ob (.lst xs)) from I.hok a _ ea)
  exact PySem.W.kia_one PySem.W.kitx_list I.kIn ⟨_,h1,rfl⟩ e (fun z=>nomatch z) h
 |@tup a xs ea=>
  cases (show u=Value.ref a from rx)
  obtain ⟨_,_,_,p⟩:=(show zo X.prog X.w H s.heap a (.tup xs) from I.hok a _ ea)
  obtain ⟨o,h1,h2,_⟩:=p
  exact PySem.W.kia_one PySem.W.kitx_tuple I.kIn ⟨o,h1,h2⟩ e (fun z=>nomatch z) h
 |@dK a kvs ea=>
  cases (show u=Value.ref a from rx)
  obtain ⟨_,_,vs,_,p⟩:=(show zo X.prog X.w H s.heap a (.dK kvs) from I.hok a _ ea)
  obtain ⟨o,es,ep,h1,h2,_⟩:=p
  exact PySem.W.kia_one PySem.W.kitx_dict I.kIn ⟨o,h1,h2.1⟩ e (fun z=>nomatch z) h
 |@dT a kvs ea=>
  cases (show u=Value.ref a from rx)
  obtain ⟨_,_,xs,_,o,es,ep,h1,h2,_⟩:=(show zo X.prog X.w H s.heap a (.dT kvs) from I.hok a _ ea)
  exact PySem.W.kia_one PySem.W.kitx_dict I.kIn ⟨o,h1,h2.1⟩ e (fun z=>nomatch z) h
 |@ins a C dx fs ea cl ha hn htk hm=>
  cases (show u=Value.ref a from rx)
  obtain ⟨mA,O,_⟩:=JD I.hok ea
  obtain ⟨od,J,_⟩:=O.look
  exact PySem.W.kia_one (PySem.W.kitx_own (cl.get _) cl.hd ha hn htk hm) I.kIn J e (fun z=>nomatch z) h
end
end L2
namespace L2
open PySem PySem.Spec PyProof.Rows
structure Room (k:Nat) (A:Around):Prop where
 hd:A.handled=none
 dp:A.depth+3 * k+5 < recursionLimit
 un:A.units+16 * k+200 < cLine
theorem Room.mono {j k:Nat} {A:Around} (r:Room k A) (h:j<=k):Room j A:=⟨r.hd,by have:=r.dp; omega,by have:=r.un; omega⟩
theorem Room.deeper {k:Nat} {A:Around} (r:Room (k+1) A) (env:Env):Room k (A.deeper env):=
 ⟨r.hd,by have:=r.dp; show A.depth+1+3 * k+5 < _; omega,by have:=r.un; show A.units+3+16 * k+200 < _; omega⟩
theorem make_depth {A:Around} {C:Addr} {us:List Value} {kw:List (Str × Value)}:(A.under (.builtin "type.__call__" ⟨.ref C::us,kw⟩)).depth=A.depth+1:=by
 first|rfl|simp [Around.under,Code.weight,Code.isCreation,Code.isGuard,Code.isCaller,Code.frames,Code.isFrame,guardIds]
theorem make_units {A:Around} {C:Addr} {us:List Value} {kw:List (Str × Value)}:(A.under (.builtin "type.__call__" ⟨.ref C::us,kw⟩)).units=A.units+1:=by
 first|rfl|simp [Around.under,Code.cUnits,Code.frames,Code.isFrame]
theorem Room.make {k:Nat} {A:Around} (r:Room (k+1) A) (C:Addr) (us:List Value) (kw:List (Str × Value)):Room k (A.under (.builtin "type.__call__" ⟨.ref C::us,kw⟩)):=
 ⟨r.hd,by have:=r.dp; rw [make_depth]; omega,by have:=r.un; rw [make_units]; omega⟩
theorem Room.depth {k:Nat} {A:Around} (r:Room k A):A.depth < recursionLimit:=by have:=r.dp; omega
noncomputable def tNil:TA:=fun _ H Q=>Q [] H
noncomputable def ZU (ta:TE) (tr:TA):TA:=fun σ H Q=>ta σ H fun x H1=>tr σ H1 fun xs H2=>Q (x::xs) H2
section
variable {X:Cx} {e:Expr} {es:List Expr} {te:TE} {t:TA} {pos:Pos}
theorem zC:PA X [] tNil:=fun _ _ _ _ H Q I h=>Calls.spliced_nil ⟨[],H,I,.nil,h⟩
theorem zA (ha:PE X e te) (hr:PA X es t) (hs:starEach (e::es) X.env=(false,eval e X.env)::starEach es X.env:=by rfl):PA X (e::es) (ZU te t):=by
 intro pos pins s σ H Q I h
 rw [hs]
 show wpAny _ _ (spliced ((false,eval e X.env)::backTo pos (starEach es X.env))) _ _ s
 refine Calls.spliced_cons (thn (ha pins s σ H _ I h) fun u s1 zz=>?_)
 obtain ⟨x,H1,I1,r1,q1⟩:=zz
 exact thn (hr pos pins s1 σ H1 _ I1 q1) fun us s2 ⟨xs,H2,I2,r2,q2⟩=>⟨x::xs,H2,I2,.cons r1 r2,q2⟩
noncomputable def tTup (t:TA):TE:=fun σ H Q=>t σ H fun xs H1=>xs.length<=sizeLine/\∀ p,H1 p=none->Q (.ref p) (upd H1 p (.tup xs))
noncomputable def tLst (t:TA):TE:=fun σ H Q=>t σ H fun xs H1=>xs.length<=sizeLine/\∀ p,H1 p=none->Q (.ref p) (upd H1 p (.lst xs))
theorem zV {x1} (h:PA X es t):PE X (.Tuple es x1 pos) (tTup t):=by
 intro pins s σ H Q I hq
 refine wpAny_Tuple_spliced (thn (h pos pins s σ H _ I hq) fun us s1 ⟨xs,H1,I1,r,z,q⟩=>⟨by rw [<- r.length]; exact z,?_⟩)
 have hf:H1 s1.heap.objs.size=none:=I1.hok.fresh (Nat.le_refl _)
 refine ⟨.ref s1.heap.objs.size,upd H1 s1.heap.objs.size (.tup xs),I1.laid (t':=s1.toks) (fun b u e=>Heap.get?_push_of_some _ e) (Nat.le_refl _) ?_,rfl,q _ hf⟩
 exact ⟨z,us,r,⟨_,Heap.get?_push_size _ rfl,rfl,_,rfl⟩⟩
theorem yy (h:PA X es t):PE X (.List es pos) (tLst t):=by
 intro pins s σ H Q I hq
 refine wpAny_List_spliced (thn (h pos pins s σ H _ I hq) fun us s1 ⟨xs,H1,I1,r,z,q⟩=>⟨by rw [<- r.length]; exact z,?_⟩)
 have hf:H1 s1.heap.objs.size=none:=I1.hok.fresh (Nat.le_refl _)
 refine ⟨.ref s1.heap.objs.size,upd H1 s1.heap.objs.size (.lst xs),I1.laid (t':=s1.toks) (fun b u e=>Heap.get?_push_of_some _ e) (Nat.le_refl _) ?_,rfl,q _ hf⟩
 exact ⟨z,us,0,r,Heap.get?_push_size _ rfl⟩
end
noncomputable abbrev Sp:=List V->Hp->VK->XK->Prop
noncomputable abbrev CXT:=List Env->Hp->Shared->XK->Value->Shared->Prop
structure Env0 (P:Program) (w:World) (K:PySem.W.Frag) (mg:Str->Option Value) (base:Heap) (A:Around) (outer:List Env) (s:Shared) (H:Hp):Prop where
 frames:A.frames=some outer
 mod:Mod K mg base
 bs:∀ b o,base.get? b=some o->s.heap.get? b=some o/\H b=none
 bsz:base.objs.size<=s.heap.objs.size
 funs:s.heap.FunFrames base outer
 frf:∀ b∈frs outer,H b=none
 hok:HOk P w H s.heap
 bare:AllBare s.gens
noncomputable def CE (outer:List Env) (P:Program) (w:World) (H:Hp) (s:Shared) (Q:VK) (u:Value) (s':Shared):Prop:=
 ∃ v H',s'.os=s.os/\AllBare s'.gens/\Un (frs outer) [] H H' s.heap s'.heap/\HOk P w H' s'.heap/\RelV v u/\Q v H'
noncomputable def CR (CX:CXT) (outer:List Env) (P:Program) (w:World) (H:Hp) (s:Shared) (Q:VK) (E:XK) (r:Result) (s':Shared):Prop:=
 match r with
 |.ok (.ret u)=>CE outer P w H s Q u s'
 |.ok _=>False
 |.error e=>CX outer H s E e s'
structure FnOk (P:Program) (w:World) (K:PySem.W.Frag) (mg:Str->Option Value) (base:Heap) (CX:CXT) (k:Nat) (f:Addr) (fd:FuncData) (ps:List Str) (sp:Sp):Prop where
 len:∀ vs H Q E,sp vs H Q E->vs.length=ps.length
 run:∀ (A:Around) (outer:List Env) (s:Shared) (H:Hp) (args:Args) (us:List Value) (vs:List V) (Q:VK) (E:XK),Room k A->Env0 P w K mg base A outer s H->BindsTo s fd args (ps.zip us)->Vals vs us->sp vs H Q E->
  codeAny (model P w) A (.call (.ref f) args) (CR CX outer P w H s Q E) s
theorem FnOk.imp {P:Program} {w:World} {K:PySem.W.Frag} {mg:Str->Option Value} {base:Heap} {CX:CXT} {k:Nat} {f:Addr} {fd:FuncData} {ps:List Str} {sp sp':Sp} (F:FnOk P w K mg base CX k f fd ps sp)
  (h:∀ vs H Q E,sp' vs H Q E->sp vs H Q E):FnOk P w K mg base CX k f fd ps sp':=
 ⟨fun vs H Q E q=>F.len vs H Q E (h _ _ _ _ q),fun A outer s H args us vs Q E hr he hb hv hs=>F.run A outer s H args us vs Q E hr he hb hv (h _ _ _ _ hs)⟩
theorem Env0.make {P:Program} {w:World} {K:PySem.W.Frag} {mg:Str->Option Value} {base:Heap} {A:Around} {outer:List Env} {s:Shared} {H:Hp} (e:Env0 P w K mg base A outer s H) (C:Addr) (us:List Value) (kw:List (Str × Value)) :
  Env0 P w K mg base (A.under (.builtin "type.__call__" ⟨.ref C::us,kw⟩)) outer s H:=⟨by first|exact e.frames|(simpa [Around.under,Code.envs,Code.isFrame,pushEnvs] using e.frames),e.mod,e.bs,e.bsz,e.funs,e.frf,e.hok,e.bare⟩
section
variable {X:Cx} {pins:List (Addr × Obj)} {σ:St} {H:Hp} {s s':Shared}
theorem Inv.env0 (I:Inv X pins σ H s):Env0 X.prog X.w X.K X.mg X.base X.A X.stack s H:=
 ⟨I.ok.frames,I.ok.mod,I.bs,Nat.le_trans I.ok.bsz I.sz,I.stack,I.stkFree,I.hok,I.bare⟩
theorem Inv.after {Q:VK} {u:Value} (I:Inv X pins σ H s) (h:CE X.stack X.prog X.w H s Q u s'):EP X pins σ Q u s':=by
 obtain ⟨v,H',os,bare,un,hok,r,q⟩:=h
 obtain ⟨hh,g,d,t,os'⟩:=s'
 obtain rfl:os'=s.os:=os
 exact ⟨v,H',I.call (h':=hh) (g':=g) (d':=d) (t':=t) (ch:=[]) un hok bare (fun b z=>absurd z (by simp)),r,q⟩
end
noncomputable def tCall (sp:Sp) (dvs:List V) (E:XK) (t:TA):TE:=fun σ H Q=>t σ H fun vs H1=>sp (vs++dvs) H1 Q E
noncomputable def tMeth (C:Addr) (m:Str) (sp:Sp) (dvs:List V) (E:XK) (ta:TE) (t:TA):TE:=fun σ H Q=>ta σ H fun x H1=>∃ a dx fs,x=.ref a/\H1 a=some (.ins C dx fs)/\fs.lookup m=none∧
 t σ H1 fun vs H2=>sp (x::(vs++dvs)) H2 Q E
noncomputable def tMake (C:Addr) (sp:Sp) (dvs:List V) (E:XK) (t:TA):TE:=fun σ H Q=>t σ H fun vs H1=>∀ x dx,H1 x=none->H1 dx=none->dx≠x->
 sp (.ref x::(vs++dvs)) (upd (upd H1 dx (.own x)) x (.ins C dx [])) (fun v H2=>v=.non/\Q (.ref x) H2) E
noncomputable def ZN (K:PySem.W.Frag) (fd:FuncData) (ps:List Str) (ds:List Value):Prop:=
 ∀ (s:Shared) (us:List Value),K.In s.heap->(us++ds).length=ps.length->BindsTo s fd ⟨us,[]⟩ (ps.zip (us++ds))
theorem ZN.all {K:PySem.W.Frag} {fd:FuncData} {ps:List Str} (h:∀ us:List Value,us.length=ps.length->bindArgs fd ⟨us,[]⟩=pure (ps.zip us)):ZN K fd ps []:=fun s us _ hl=>by
 rw [List.append_nil] at hl ⊢
 exact .of_eq (h us hl)
noncomputable def jO (CX:CXT) (X:Cx) (E:XK):Prop:=∀ (pins:List (Addr × Obj)) (σ:St) (H:Hp) (s:Shared) (e:Value) (s':Shared),Inv X pins σ H s->CX X.stack H s E e s'->X.xe e s'
section
variable {X:Cx} {CX:CXT} {k:Nat} {f C:Addr} {fd:FuncData} {ps:List Str} {sp:Sp} {dvs:List V} {ds:List Value} {E:XK} {x m:Str} {p pos apos:Pos} {e o:Expr} {es:List Expr} {ta:TE} {t:TA}
theorem run_fn {pins:List (Addr × Obj)} {σ:St} {H:Hp} {s:Shared} {Q:VK} {us:List Value} {vs:List V} (F:FnOk X.prog X.w X.K X.mg X.base CX k f fd ps sp) (hr:Room k X.A) (hb:ZN X.K fd ps ds) (hd:Vals dvs ds) (hx:jO CX X E)
  (I:Inv X pins σ H s) (r:Vals vs us) (h:sp (vs++dvs) H Q E):wpAny (model X.prog X.w) X.A (call (.ref f) us) (EP X pins σ Q) X.xe s:=by
 have r2:Vals (vs++dvs) (us++ds):=r.append hd
 have hl:(us++ds).length=ps.length:=by rw [<- r2.length]; exact F.len _ _ _ _ h
 refine wpAny_call (codeAny_mono (F.run X.A X.stack s H ⟨us,[]⟩ (us++ds) (vs++dvs) Q E hr I.env0 (hb s us I.kIn hl) r2 h) fun r s' hq=>?_)
 cases r with
 |error e=>exact hx pins σ H s e s' I hq
 |ok fl=>
  cases fl with
  |ret u=>exact I.after hq
  |next=>exact False.elim hq
  |brk=>exact False.elim hq
  |cont=>exact False.elim hq
theorem pe_call (F:FnOk X.prog X.w X.K X.mg X.base CX k f fd ps sp) (hr:Room k X.A) (hg:Gl X x) (hm:X.mg x=some (.ref f)) (hk:PySem.W.keepIn X.K (.ref f)=true) (hb:ZN X.K fd ps ds) (hd:Vals dvs ds) (hx:jO CX X E)
  (ha:PA X (e::es) t) (hdb:(x == ("__debug__" : Str))=false:=by decide) (he:starEach (e::es) X.env=(false,eval e X.env)::starEach es X.env:=by rfl) (hpl:(backTo pos (starEach es X.env)).any (·.1)=false:=by rfl) :
  PE X (.Call (.Name x p) (e::es) [] pos) (tCall sp dvs E t):=by
 intro pins s σ H Q I h
 refine wpAny_Call_Name_kw (ld_glob I hg hm ?_ hdb)
 refine PySem.W.callWith_K (h₀:=X.base) I.ok.mod.kin hk (thn (ha pos pins s σ H _ I h) fun us s1 ⟨vs,H1,I1,r,q⟩=>⟨I1.kIn,?_⟩) he hpl
 exact run_fn F hr hb hd hx I1 r q
theorem pe_meth {pl:Sem Bool} (he:PE X o ta) (c:Cls X.K C) (hm:Meth X.K C m f) (F:FnOk X.prog X.w X.K X.mg X.base CX k f fd ps sp) (hr:Room k X.A) (hb:ZN X.K fd ps ds) (hd:Vals dvs ds) (hx:jO CX X E) (ha:PA X (e::es) t)
  (hst:starEach (e::es) X.env=(false,eval e X.env)::starEach es X.env:=by rfl) (hpl:(backTo pos (starEach es X.env)).any (·.1)=false:=by rfl)
  (ht:eval (.Call (.Attribute o m apos) (e::es) [] pos) X.env=(do
   let ov <- eval o X.env
   standAt apos.atName
   let (f,first) <- holding [ov] (getMethod ov m pl)
   callWith pos f first (backTo pos (starEach (e::es) X.env)) (backToKw pos (keywordEach [] X.env))):=by rfl) :
  PE X (.Call (.Attribute o m apos) (e::es) [] pos) (tMeth C m sp dvs E ta t):=by
 intro pins s σ H Q I h
 refine PySem.W.methodCall_KW (pl:=pl) (thn (he pins s σ H _ I h) fun u s1 ⟨x,H1,I1,rx,a,dx,fs,ex,ea,l,q⟩=>?_) ht
 subst ex
 obtain rfl:u=Value.ref a:=rx
 refine JO I1 ea c hm l ?_
 refine PySem.W.callWith_K (first:=[.ref a]) (h₀:=X.base) I.ok.mod.kin hm.kp (thn (ha pos pins s1 σ H1 _ I1 q) fun us s2 ⟨vs,H2,I2,r,q2⟩=>⟨I2.kIn,?_⟩) hst hpl
 exact run_fn (us:=.ref a::us) (vs:=.ref a::vs) F hr hb hd hx I2 (.cons rfl r) q2
theorem pe_meth0 {pl:Sem Bool} (he:PE X o ta) (c:Cls X.K C) (hm:Meth X.K C m f) (F:FnOk X.prog X.w X.K X.mg X.base CX k f fd ps sp) (hr:Room k X.A) (hb:ZN X.K fd ps ds) (hd:Vals dvs ds) (hx:jO CX X E)
  (ht:eval (.Call (.Attribute o m apos) [] [] pos) X.env=(do
   let ov <- eval o X.env
   standAt apos.atName
   let (f,first) <- holding [ov] (getMethod ov m pl)
   callWith pos f first (backTo pos (starEach [] X.env)) (backToKw pos (keywordEach [] X.env))):=by rfl) :
  PE X (.Call (.Attribute o m apos) [] [] pos) (tMeth C m sp dvs E ta tNil):=by
 intro pins s σ H Q I h
 refine PySem.W.methodCall_KW (pl:=pl) (thn (he pins s σ H _ I h) fun u s1 ⟨x,H1,I1,rx,a,dx,fs,ex,ea,l,q⟩=>?_) ht
 subst ex
 obtain rfl:u=Value.ref a:=rx
 refine JO I1 ea c hm l ?_
 exact PySem.W.callWith_K0 (first:=[.ref a]) I1.kIn hm.kp (run_fn (us:=[.ref a]) (vs:=[.ref a]) F hr hb hd hx I1 (.cons rfl .nil) q)
structure Mk (K:PySem.W.Frag) (C f:Addr):Prop where
 makes:PySem.W.makesIn K C=true
 init:PySem.W.findIn K (.ref C) "__init__"=some (some (.ref f))
 fn:PySem.W.isFn K (.ref f)=true
 kp:PySem.W.keepIn K (.ref C)=true
theorem run_make {pins:List (Addr × Obj)} {σ:St} {H:Hp} {s:Shared} {Q:VK} {us:List Value} {vs:List V} (M:Mk X.K C f) (F:FnOk X.prog X.w X.K X.mg X.base CX k f fd ps sp) (hr:Room (k+1) X.A) (hb:ZN X.K fd ps ds) (hd:Vals dvs ds)
  (hx:jO CX X E) (I:Inv X pins σ H s) (r:Vals vs us)
  (h:∀ x dx,H x=none->H dx=none->dx≠x->sp (.ref x::(vs++dvs)) (upd (upd H dx (.own x)) x (.ins C dx [])) (fun v H2=>v=.non/\Q (.ref x) H2) E) :
  wpAny (model X.prog X.w) X.A (call (.ref C) us) (EP X pins σ Q) X.xe s:=by
 have hq:=h (s.heap.objs.size+1) s.heap.objs.size (I.hok.fresh (Nat.le_succ _)) (I.hok.fresh (Nat.le_refl _)) (Nat.ne_of_lt (Nat.lt_succ_self _))
 have I2:=Inv.made (C:=C) I
 have r2:Vals (V.ref (s.heap.objs.size+1)::(vs++dvs)) (Value.ref (s.heap.objs.size+1)::(us++ds)):=.cons rfl (r.append hd)
 have hl:(Value.ref (s.heap.objs.size+1)::us++ds).length=ps.length:=by
  have e:=r2.length
  rw [F.len _ _ _ _ hq] at e
  exact e.symm
 refine wpAny_call (make_map (f:=f) I.kIn M.makes M.init (beq_iff_eq.mp M.fn) (codeAny_mono (F.run _ X.stack _ _ ⟨Value.ref (s.heap.objs.size+1)::us,[]⟩ (Value.ref (s.heap.objs.size+1)::(us++ds)) _ _ E (hr.make C us [])
  (I2.env0.make C us []) (hb _ (Value.ref (s.heap.objs.size+1)::us) I2.kIn hl) r2 hq) fun r s' hq'=>?_))
 cases r with
 |error e=>exact hx pins σ _ _ e s' I2 hq'
 |ok fl=>
  cases fl with
  |ret u=>
   obtain ⟨v,H',I3,rv,ev,q3⟩:=I2.after hq'
   subst ev
   exact ⟨rv,⟨V.ref (s.heap.objs.size+1),H',I3,rfl,q3⟩⟩
  |next=>exact False.elim hq'
  |brk=>exact False.elim hq'
  |cont=>exact False.elim hq'
theorem pe_make (M:Mk X.K C f) (F:FnOk X.prog X.w X.K X.mg X.base CX k f fd ps sp) (hr:Room (k+1) X.A) (hg:Gl X x) (hm:X.mg x=some (.ref C)) (hb:ZN X.K fd ps ds) (hd:Vals dvs ds) (hx:jO CX X E)
  (ha:PA X (e::es) t) (hdb:(x == ("__debug__" : Str))=false:=by decide) (he:starEach (e::es) X.env=(false,eval e X.env)::starEach es X.env:=by rfl) (hpl:(backTo pos (starEach es X.env)).any (·.1)=false:=by rfl) :
  PE X (.Call (.Name x p) (e::es) [] pos) (tMake C sp dvs E t):=by
 intro pins s σ H Q I h
 refine wpAny_Call_Name_kw (ld_glob I hg hm ?_ hdb)
 refine PySem.W.callWith_K (h₀:=X.base) I.ok.mod.kin M.kp (thn (ha pos pins s σ H _ I h) fun us s1 ⟨vs,H1,I1,r,q⟩=>⟨I1.kIn,?_⟩) he hpl
 exact run_make M F hr hb hd hx I1 r q
end
section
variable {X:Cx} {CX:CXT} {k:Nat} {f C:Addr} {fd:FuncData} {ps ks:List Str} {sp:Sp} {E:XK} {x m:Str} {p pos apos kpos:Pos} {e o:Expr} {es:List Expr} {kws:List Keyword} {te ta:TE} {t tk:TA} {nm:Option Str}
variable {g:List Value->List Value->List Value} {gV:List V->List V->List V}
end
structure FnScope (N P:List Str) (sc:Scope):Prop where
 kind:sc.kind=.function
 co:sc.isCoroutine=false
 gen:sc.isGenerator=false
 nd:N.Nodup
 pre:N.take P.length=P
 par:∀ x∈P,sc.names.lookup x=some .local∨sc.names.lookup x=some .cell
 nofree:∀ y∈sc.names,y.2≠.free
theorem bindL_out {kindOf:Str->Option NameKind} {x:Str}:∀ {binds:List (Str × Value)} {m:Str->Option Value},(∀ v,(x,v)∉binds)->bindL kindOf binds m x=m x
 |[],_,_=>rfl
 | (n,v)::r,m,h=>by
  unfold bindL
  rw [bindL_out fun w hw=>h w (List.mem_cons_of_mem _ hw)]
  split
  ·have:x≠n:=by rintro rfl; exact h v List.mem_cons_self
   simp [this]
  ·rfl
theorem J6 {kindOf:Str->Option NameKind} {x:Str}:∀ {binds:List (Str × Value)} {m:Str->Option Value},(∀ v,(x,v)∉binds)->bindC kindOf binds m x=m x
 |[],_,_=>rfl
 | (n,v)::r,m,h=>by
  unfold bindC
  rw [J6 fun w hw=>h w (List.mem_cons_of_mem _ hw)]
  split
  ·rfl
  ·have:x≠n:=by rintro rfl; exact h v List.mem_cons_self
   simp [this]
theorem Jt {kindOf:Str->Option NameKind} {x:Str} {v:Value}:∀ {P:List Str} {vs:List Value} {i:Nat} {m:Str->Option Value},P.Nodup->P[i]?=some x->vs[i]?=some v->kindOf x=some .local->
  bindL kindOf (P.zip vs) m x=some v
 |[],_,_,_,_,h,_,_=>by simp at h
 |_::_,[],_,_,_,_,h,_=>by simp at h
 |p::P,w::vs,0,m,nd,h1,h2,hk=>by
  simp at h1 h2; subst h1; subst h2
  show bindL kindOf ((p,w)::P.zip vs) m p=_
  unfold bindL
  rw [bindL_out fun v hv=>(List.nodup_cons.mp nd).1 (List.of_mem_zip hv).1,if_pos hk]
  simp
 |p::P,w::vs,i+1,m,nd,h1,h2,hk=>by
  show bindL kindOf ((p,w)::P.zip vs) m x=_
  unfold bindL
  exact Jt (i:=i) (List.nodup_cons.mp nd).2 (by simpa using h1) (by simpa using h2) hk
theorem Ju {kindOf:Str->Option NameKind} {x:Str} {v:Value}:∀ {P:List Str} {vs:List Value} {i:Nat} {m:Str->Option Value},P.Nodup->P[i]?=some x->vs[i]?=some v->kindOf x≠some .local->
  bindC kindOf (P.zip vs) m x=some v
 |[],_,_,_,_,h,_,_=>by simp at h
 |_::_,[],_,_,_,_,h,_=>by simp at h
 |p::P,w::vs,0,m,nd,h1,h2,hk=>by
  simp at h1 h2; subst h1; subst h2
  show bindC kindOf ((p,w)::P.zip vs) m p=_
  unfold bindC
  rw [J6 fun v hv=>(List.nodup_cons.mp nd).1 (List.of_mem_zip hv).1,if_neg hk]
  simp
 |p::P,w::vs,i+1,m,nd,h1,h2,hk=>by
  show bindC kindOf ((p,w)::P.zip vs) m x=_
  unfold bindC
  exact Ju (i:=i) (List.nodup_cons.mp nd).2 (by simpa using h1) (by simpa using h2) hk
noncomputable def YX (N:List Str) (vs:List V):St:=vs.map some++List.replicate (N.length - vs.length) none
noncomputable def cxOf (CX:CXT) (P:Program) (w:World) (K:PySem.W.Frag) (mg:Str->Option Value) (base:Heap) (N:List Str) (qual:Str) (scope:Scope) (f:Addr) (cd:Value) (A:Around) (outer:List Env) (s:Shared) (H:Hp) (E:XK):Cx where
 prog:=P
 w:=w
 K:=K
 mg:=mg
 base:=base
 A:=A.deeper (envOfC qual scope s.heap.objs.size f cd)
 N:=N
 s₀:=s
 H₀:=H
 env:=envOfC qual scope s.heap.objs.size f cd
 outer:=outer
 stack:=envOfC qual scope s.heap.objs.size f cd::outer
 ex:=[]
 calm:=true
 fn:=fun _=>true
 pn:=[]
 xe:=fun e s'=>wpAny (model P w) (A.deeper (envOfC qual scope s.heap.objs.size f cd)) (leaving (envOfC qual scope s.heap.objs.size f cd) e) (fun _ s''=>CX outer H s E e s'') (fun e' s''=>CX outer H s E e' s'') s'
theorem cell_has {sc:Scope} {n:Nat} {x:Str} (h:sc.names.lookup x=some .cell):∃ c,(cellsFrom n sc.names []).lookup x=some c:=by
 have q:=PySem.W.cellsFrom_some sc.names n [] (.inl h)
 exact Option.isSome_iff_exists.mp q
theorem inv_start {CX:CXT} {P:Program} {w:World} {K:PySem.W.Frag} {mg:Str->Option Value} {base:Heap} {N ps:List Str} {qual:Str} {scope:Scope} {f:Addr} {cd:Value} {A:Around} {outer:List Env} {s s1:Shared} {H:Hp} {E:XK} {us:List Value} {vs:List V}
  (S:FnScope N ps scope) (hd:A.handled=none) (e0:Env0 P w K mg base A outer s H) (hl:vs.length=ps.length) (r:Vals vs us)
  (x:InCallC s s.heap.objs.size (bindL (envOfC qual scope s.heap.objs.size f cd).kindOf (ps.zip us) fun _=>none) (cellsFrom (s.heap.objs.size+1) scope.names []) (bindC (envOfC qual scope s.heap.objs.size f cd).kindOf (ps.zip us) fun _=>none) s1) :
  Inv (cxOf CX P w K mg base N qual scope f cd A outer s H E) [] (YX N vs) H s1:=by
 have hpl:ps.length<=N.length:=by have:=congrArg List.length S.pre; rw [List.length_take] at this; omega
 obtain ⟨h1,tk,rfl,hk⟩:=x.done
 have noA:∀ b:Addr,b∉(cxOf CX P w K mg base N qual scope f cd A outer s H E).ex:=fun b z=>absurd (show b∈([]:List Addr) from z) (by simp)
 refine ⟨⟨e0.mod,S.kind,rfl,rfl,Nat.le_refl _,fun y z c h1 h2=>?_,fun y hy=>?_,fun y c _ h=>?_,fun _=>hd,Around.frames_deeper e0.frames,.inr ⟨rfl,rfl⟩,fun b z=>absurd z (noA b),e0.bs,e0.bsz,fun b _ _=>noA b,fun b z=>absurd z (noA b),e0.funs,e0.frf⟩,
  rfl,e0.bare,Un.kept hk,⟨_,x.toInCall.ns,fun i y v h1 h2 h3=>?_⟩,fun y c h=>⟨_,x.cell y c h⟩,e0.hok.fresh (Nat.le_refl _),fun y c h=>?_,fun p hp=>absurd (show p∈([]:List (Addr × Obj)) from hp) (by simp),e0.hok.kept hk,?_⟩
 ·exact name_of_addr x.apart (PySem.mem_of_lookup h1) (PySem.mem_of_lookup h2)
 ·have hy:scope.names.lookup y=some .cell∨scope.names.lookup y=some .free:=hy
  rcases hy with hy|hy
  ·exact cell_has hy
  ·exact absurd rfl (S.nofree _ (PySem.mem_of_lookup hy))
 ·exact Nat.le_of_lt (x.above y c (PySem.mem_of_lookup h))
 ·have hi:i < vs.length:=by
   unfold YX at h2
   by_cases hi:i < vs.length
   ·exact hi
   ·rw [List.getElem?_append_right (by simpa using hi)] at h2
    rw [List.getElem?_replicate] at h2
    split at h2<;>cases h2
  have ha:vs[i]?=some v:=by
   unfold YX at h2
   rw [List.getElem?_append_left (by simpa using hi),List.getElem?_map] at h2
   cases e:vs[i]? with
   |none=>rw [e] at h2; cases h2
   |some a=>rw [e] at h2; cases h2; rfl
  obtain ⟨u,hu,rv⟩:=r.get ha
  have hp:ps[i]?=some y:=by
   rw [<- S.pre,List.getElem?_take_of_lt (by omega)]; exact h1
  have ndP:ps.Nodup:=by rw [<- S.pre]; exact S.nd.sublist (List.take_sublist _ _)
  refine ⟨u,rv,?_⟩
  rcases S.par y (List.mem_of_getElem? hp) with k|k
  ·exact .inl ⟨k,Jt ndP hp hu k⟩
  ·obtain ⟨c,e⟩:=cell_has (n:=s.heap.objs.size+1) k
   refine .inr ⟨.inl k,c,e,?_⟩
   have q:=x.cell y c e
   rw [Ju ndP hp hu (by show scope.names.lookup y≠_; rw [k]; decide)] at q
   exact q
 ·exact e0.hok.fresh (Nat.le_of_lt (x.above y c (PySem.mem_of_lookup h)))
 ·unfold YX
  show _=N.length
  rw [List.length_append,List.length_map,List.length_replicate]
  omega
theorem fn_of {CX:CXT} {P:Program} {w:World} {K:PySem.W.Frag} {mg:Str->Option Value} {base:Heap} {k:Nat} {f:Addr} {name qual:Str} {params:Arguments} {body:List Stmt} {scope:Scope} {dV kV doc pm cdv ct oc:Value} {an od:Option Addr}
  {osl:Array (Option Value)} {N ps:List Str} {sp:Sp} (lk:K.lookup f=some ⟨oc,od,.func (PySem.W.fnOf name qual params body scope dV kV doc pm an cdv ct),osl⟩) (hcd:PySem.W.codeIn K cdv qual=true) (S:FnScope N ps scope)
  (len:∀ vs H Q E,sp vs H Q E->vs.length=ps.length)
  (hbody:∀ (A:Around) (outer:List Env) (s:Shared) (H:Hp) (vs:List V) (Q:VK) (E:XK),Room k (A.deeper (envOfC qual scope s.heap.objs.size f cdv))->sp vs H Q E->
   ∃ t,PSs (cxOf CX P w K mg base N qual scope f cdv A outer s H E) body t/\t {nx:=fun _ H'=>Q .non H',rt:=Q} (YX N vs) H) :
  FnOk P w K mg base CX (k+1) f (PySem.W.fnOf name qual params body scope dV kV doc pm an cdv ct) ps sp:=by
 refine ⟨len,fun A outer s H args us vs Q E hr e0 hb r hsp=>?_⟩
 have hl:=len _ _ _ _ hsp
 have KX:K.In s.heap:=e0.mod.kin.keeps fun b o e=>(e0.bs b o e).1
 have lim:s.heap.NoLimit:=e0.mod.nolimit.keeps fun b o e=>(e0.bs b o e).1
 have hkind:∀ y∈ps.zip us,scope.names.lookup y.1=some .local∨(scope.names.lookup y.1=some .cell/\((cellsFrom (s.heap.objs.size+1) scope.names []).lookup y.1).isSome=true):=fun ⟨n,v⟩ hy=>by
  rcases S.par n (List.of_mem_zip hy).1 with q|q
  ·exact .inl q
  ·exact .inr ⟨q,PySem.W.cellsFrom_some _ _ _ (.inl q)⟩
 refine codeAny_call_function hr.depth (KX _ _ lk) rfl S.co S.gen rfl (PySem.W.codeRec_of KX hcd) (hb _ _ _ _ ?_)
 refine wpAny_newFunctionEnv_cells S.kind hkind fun env he s1 x=>?_
 subst he
 refine ⟨lim.keeps x.toInCall.keep,codeAny_func ?_⟩
 obtain ⟨t,ht,hq⟩:=hbody A outer s H vs Q E (hr.deeper _) hsp
 have I:Inv (cxOf CX P w K mg base N qual scope f cdv A outer s H E) [] (YX N vs) H s1:=inv_start S hr.hd e0 hl r x
 refine wpAny_mono (ht [] s1 (YX N vs) H _ I hq) (fun fl s' hs=>?_) fun e s' hs=>hs
 have fin:∀ {σ':St} {H':Hp} {v:V} {u:Value},Inv (cxOf CX P w K mg base N qual scope f cdv A outer s H E) [] σ' H' s'->RelV v u->Q v H'->CE outer P w H s Q u s':=
  fun {σ' H' v u} J rv q=>⟨v,H',J.os,J.bare,J.base,J.hok,rv,q⟩
 cases fl with
 |ret u=>
  obtain ⟨v,σ',H',J,rv,q⟩:=hs
  exact fin J rv q
 |next=>
  obtain ⟨σ',H',J,q⟩:=hs
  exact fin (v:=V.non) (u:=Value.none) J rfl q
 |brk=>
  obtain ⟨_,_,_,q⟩:=hs
  exact False.elim q
 |cont=>
  obtain ⟨_,_,_,q⟩:=hs
  exact False.elim q
end L2
namespace L2
open PySem PySem.Spec PyProof.Rows
section
variable {X:Cx} {x:Str} {p pos:Pos} {e:Expr} {es:List Expr} {t:TA} {id T:String} {r:List V->Hp->VK->Prop}
noncomputable def tCB (r:List V->Hp->VK->Prop) (t:TA):TE:=fun σ H Q=>t σ H fun vs H1=>r vs H1 Q
theorem zW (hc:jE X (.builtin id) r) (hg:Gl X x) (hm:X.mg x=none) (hv:bootBuiltins x=some (.builtin id)) (ha:PA X (e::es) t) (hn:x≠"__name__":=by decide) (hdb:(x == ("__debug__" : Str))=false:=by decide)
  (he:starEach (e::es) X.env=(false,eval e X.env)::starEach es X.env:=by rfl) (hpl:(backTo pos (starEach es X.env)).any (·.1)=false:=by rfl):PE X (.Call (.Name x p) (e::es) [] pos) (tCB r t):=by
 intro pins s σ H Q I h
 refine wpAny_Call_Name_kw (ZQ I hg hm hv ?_ hn hdb)
 exact PyProof.Rows.callWith_builtin1 (thn (ha pos pins s σ H _ I h) fun us s1 ⟨vs,H1,I1,r1,q1⟩=>hc pins s1 σ H1 vs us Q I1 r1 q1) he hpl
theorem jv (hc:jE X (.type T) r) (hg:Gl X x) (hm:X.mg x=none) (hv:bootBuiltins x=some (.type T)) (ha:PA X (e::es) t) (hn:x≠"__name__":=by decide) (hdb:(x == ("__debug__" : Str))=false:=by decide)
  (he:starEach (e::es) X.env=(false,eval e X.env)::starEach es X.env:=by rfl) (hpl:(backTo pos (starEach es X.env)).any (·.1)=false:=by rfl):PE X (.Call (.Name x p) (e::es) [] pos) (tCB r t):=by
 intro pins s σ H Q I h
 refine wpAny_Call_Name_kw (ZQ I hg hm hv ?_ hn hdb)
 exact PyProof.Rows.callWith_type1 (thn (ha pos pins s σ H _ I h) fun us s1 ⟨vs,H1,I1,r1,q1⟩=>hc pins s1 σ H1 vs us Q I1 r1 q1) he hpl
end
end L2
namespace HT
open PySem PyProof.Rows
section
open PySem.SeqAt
open PySem.AutoSeq1 (wpAny_loadPart')
open PySem.MeetsSeq PySem.MeetsSeq2 PySem.MeetsSeq3
end
section
variable {prog:Program} {w:World} {A:Around} {E:Value->Shared->Prop} {s:Shared}
theorem cat_tup {t b:Addr} {vs ws:List Value} {Q:Value->Shared->Prop} (ht:IsTup s.heap t vs.toArray) (hb:IsTup s.heap b ws.toArray) (hv:vs≠[])
  (h1:ws=[]→Q (.ref t) s) (h2:ws≠[]→Q (.ref s.heap.objs.size) {s with heap:=s.heap.push {cls:=.type "tuple",data:=.seq (vs++ws).toArray}})
  (hsz:vs.length+ws.length<=sizeLine):wpAny (model prog w) A (binaryOp .Add (.ref t) (.ref b)) Q E s:=by
 obtain ⟨⟨cls,dd,data,sl⟩,ho,hc,n,hd⟩:=id ht
 obtain ⟨⟨cls2,dd2,data2,sl2⟩,ho2,hc2,n2,hd2⟩:=id hb
 simp only at hc hd hc2 hd2
 subst hc hd hc2 hd2
 have e:vs.toArray++ws.toArray=(vs++ws).toArray:=by simp
 by_cases hw:ws=[]
 ·exact concat_meets ⟨_,ho,rfl⟩ ⟨_,ho2,rfl⟩ noFill_tuple_add seq_tuple_add PySem.F.slot_tuple_add PySem.F.entry_tuple_add (PySem.F.args_tuple_add_2 _ _)
   (tuple_addW1 t b vs.toArray ws.toArray n n2 dd dd2 sl sl2 (by simpa using hv) (by simp [hw])) ⟨ho,ho2,h1 hw⟩
 ·refine concat_meets ⟨_,ho,rfl⟩ ⟨_,ho2,rfl⟩ noFill_tuple_add seq_tuple_add PySem.F.slot_tuple_add PySem.F.entry_tuple_add (PySem.F.args_tuple_add_2 _ _)
   (tuple_addW2 t b vs.toArray ws.toArray n n2 dd dd2 sl sl2 (by simpa using hv) (by simpa using hw) (by rw [List.size_toArray,List.size_toArray]; exact hsz)) ⟨ho,ho2,?_⟩
  rw [e]
  exact h2 hw
noncomputable def sIx (n d:Nat):Option Int->Nat
 |none=>d
 |some v=>if v < 0 then (v+(n:Int)).toNat else min v.toNat n
theorem sIx_none (n d:Nat):sIx n d none=d:=rfl
theorem sIx_nat (n d k:Nat):sIx n d (some (k:Int))=min k n:=by
 show (if (k:Int) < 0 then ((k:Int)+(n:Int)).toNat else min (k:Int).toNat n)=min k n
 rw [if_neg (by omega),Int.toNat_natCast]
theorem sIx_le (n d:Nat) (hd:d<=n) (o:Option Int):sIx n d o<=n:=by
 cases o with
 |none=>exact hd
 |some v=>
  show (if v < 0 then (v+(n:Int)).toNat else min v.toNat n)<=n
  by_cases hv:v < 0
  ·rw [if_pos hv]; omega
  ·rw [if_neg hv]; exact Nat.min_le_right _ _
theorem clip_eq (v:Int) (n d:Nat):(if v < 0 then max (v+(n:Int)) 0 else min v (n:Int))=((sIx n d (some v):Nat):Int):=by
 show (if v < 0 then max (v+(n:Int)) 0 else min v (n:Int))=(((if v < 0 then (v+(n:Int)).toNat else min v.toNat n):Nat):Int)
 by_cases hv:v < 0
 ·simp only [if_pos hv]; omega
 ·simp only [if_neg hv]; omega
theorem adjust_gen (lo hi:Option Int) (n:Nat):Builtin.Slice.sliceAdjust lo hi 1 (n:Int)=(((sIx n 0 lo:Nat):Int),((sIx n n hi:Nat):Int)):=by
 have h1:¬ ((1:Int) < 0):=by omega
 unfold Builtin.Slice.sliceAdjust
 simp only [h1,if_false]
 refine Prod.ext ?_ ?_
 ·cases lo with
  |none=>rfl
  |some v=>exact clip_eq v n 0
 ·cases hi with
  |none=>rfl
  |some v=>exact clip_eq v n n
theorem places_gen (i j:Nat):Builtin.Slice.slicePlaces (i:Int) (j:Int) 1=j - i:=by
 unfold Builtin.Slice.slicePlaces
 have h1:(1:Int) > 0:=by omega
 simp only [h1,if_true,Int.ediv_one]
 split<;>omega
theorem Jl {v:Value} {o:Option Int} {Q:Option Int->Shared->Prop} (p:IsPart v o) (h:Q o s):wpAny (model prog w) A (Builtin.Slice.slicePartIndex v) Q E s:=by
 cases p with
 |none=>exact slicePart_none h
 |int i t=>exact slicePart_int h
theorem sliceApplied_gen {sl:Addr} {vl vu:Value} {lo hi:Option Int} {n:Nat} {Q:Int × Int × Nat->Shared->Prop} (hs:s.heap.IsSliceOf sl vl vu .none) (pl:IsPart vl lo) (pu:IsPart vu hi)
  (h:Q (((sIx n 0 lo:Nat):Int),1,sIx n n hi - sIx n 0 lo) s):wpAny (model prog w) A (Builtin.Slice.sliceApplied (.ref sl) (pure (n:Int))) Q E s:=by
 obtain ⟨os,hos,hcs,hds⟩:=id hs
 unfold Builtin.Slice.sliceApplied Builtin.Slice.sliceFields
 refine wpAny_bind (wpAny_bind (wpAny_field hos hds (x:=vl) rfl (wpAny_bind (wpAny_field hos hds (x:=vu) rfl (wpAny_bind (wpAny_field hos hds (x:=.none) rfl (wpAny_pure ?_)))))))
 refine wpAny_bind (slicePart_none ?_)
 show wpAny _ _ (if ((1:Int) == 0)=true then _ else _) _ _ s
 rw [if_neg (by decide)]
 refine wpAny_bind (Jl pl (wpAny_bind (Jl pu (wpAny_bind (wpAny_pure ?_)))))
 show wpAny _ _ (match Builtin.Slice.sliceAdjust lo hi 1 (n:Int) with|(lo,hi)=>pure (lo,(1:Int),Builtin.Slice.slicePlaces lo hi 1)) _ _ s
 rw [adjust_gen lo hi n]
 show wpAny _ _ (pure (((sIx n 0 lo:Nat):Int),(1:Int),Builtin.Slice.slicePlaces ((sIx n 0 lo:Nat):Int) ((sIx n n hi:Nat):Int) 1)) _ _ s
 rw [places_gen]
 exact wpAny_pure h
theorem pick_gen (xs:Array Value) (i k:Nat):((List.range k).filterMap fun (m:Nat)=>xs[((i:Int)+(m:Int) * 1).toNat]?).toArray=((xs.toList.drop i).take k).toArray:=by
 have e:(fun (m:Nat)=>xs[((i:Int)+(m:Int) * 1).toNat]?)=fun m=>xs[i+m]?:=by
  funext m
  have:((i:Int)+(m:Int) * 1).toNat=i+m:=by omega
  rw [this]
 rw [e]
 have:=pick_run xs i k
 rw [List.filterMap_map] at this
 have e2:((fun x=>xs[x]?) ∘ fun x=>i+x)=fun m=>xs[i+m]?:=rfl
 rw [e2] at this
 rw [this]
theorem getItem_tuple_cut {t sl:Addr} {items:Array Value} {vl vu:Value} {lo hi:Option Int} {Q:Value->Shared->Prop} (ht:IsTup s.heap t items) (hs:s.heap.IsSliceOf sl vl vu .none) (pl:IsPart vl lo) (pu:IsPart vu hi)
  (hw:¬ (sIx items.size 0 lo=0/\sIx items.size items.size hi=items.size))
  (h:Q (.ref s.heap.objs.size) {s with heap:=s.heap.push {cls:=.type "tuple",data:=.seq ((items.toList.drop (sIx items.size 0 lo)).take (sIx items.size items.size hi - sIx items.size 0 lo)).toArray}})
  (hsz:items.size<=sizeLine):wpAny (model prog w) A (getItem (.ref t) (.ref sl)) Q E s:=by
 have htake:sizeOk (.seq ((items.toList.drop (sIx items.size 0 lo)).take (sIx items.size items.size hi - sIx items.size 0 lo)).toArray):=by
  show ((items.toList.drop (sIx items.size 0 lo)).take (sIx items.size items.size hi - sIx items.size 0 lo)).toArray.size<=sizeLine
  rw [List.size_toArray,List.length_take,List.length_drop,Array.length_toList]
  omega
 have hj:sIx items.size items.size hi<=items.size:=sIx_le _ _ (Nat.le_refl _) hi
 obtain ⟨os,hos,hcs,hds⟩:=id hs
 have hTs:s.TypeIs (.ref sl) "slice":=⟨os,hos,hcs⟩
 unfold getItem
 try with_reducible refine wpAny_holding ?_
 first|refine wpAny_bind (wpAny_pure ?_)|skip
 refine wpAny_bind (wpAny_sequenceKey ht.typeIs (by decide) ?_)
 refine wpAny_bind (wpAny_callSpecial?_slot (name:=Str.ofString "__getitem__") ht.typeIs PyProof.Rows.slot_tuple_getitem
  (wpAny_call_entry PyProof.Rows.slot_tuple_getitem ht.typeIs entry_tuple_getitem ?_ (args_tuple_getitem _ _)))
 show wpAny _ _ (Builtin.Tuple.tupleItemsOf (.ref t) >>= _) _ _ s
 refine wpAny_bind (tupleItemsOf_ ht ?_)
 refine wpAny_bind (wpAny_typeOf hTs ?_)
 rw [if_pos (by decide)]
 refine wpAny_bind (sliceApplied_gen hs pl pu ?_)
 have hno:¬ ((((sIx items.size 0 lo:Nat):Int) == 0 && (1:Int) == 1 && (sIx items.size items.size hi - sIx items.size 0 lo) == items.size)=true):=by
  intro q
  rw [Bool.and_eq_true,Bool.and_eq_true] at q
  have q1:((sIx items.size 0 lo:Nat):Int)=0:=eq_of_beq q.1.1
  have q2:sIx items.size items.size hi - sIx items.size 0 lo=items.size:=eq_of_beq q.2
  exact hw ⟨by omega,by omega⟩
 show wpAny _ _ (if (((sIx items.size 0 lo:Nat):Int) == 0 && (1:Int) == 1 && (sIx items.size items.size hi - sIx items.size 0 lo) == items.size)=true then _ else _) _ _ s
 rw [if_neg hno,pick_gen]
 first
  |exact wpAny_bind (m:=Builtin.Tuple.tupleExact _) (wpAny_newObj_type (wpAny_pure ⟨_,rfl,wpAny_pure h⟩) htake)
  |exact wpAny_bind (m:=Builtin.Tuple.tupleExact _) (wpAny_newObj_type (wpAny_bind (wpAny_pure (wpAny_pure ⟨_,rfl,wpAny_pure h⟩))) htake)
  |exact wpAny_bind (wpAny_bind (m:=Builtin.Tuple.tupleExact _) (wpAny_newObj_type (wpAny_pure (wpAny_pure ⟨_,rfl,wpAny_pure h⟩)) htake))
  |exact wpAny_bind (wpAny_bind (m:=Builtin.Tuple.tupleExact _) (wpAny_newObj_type (wpAny_pure ⟨_,rfl,wpAny_pure h⟩) htake))
end
end HT
namespace L2
open PySem PySem.Spec PyProof.Rows
noncomputable abbrev TO:=St->Hp->(Option Int->Hp->Prop)->Prop
noncomputable def PO (X:Cx) (e:Option Expr) (t:TO):Prop:=
 ∀ (pins:List (Addr × Obj)) (s:Shared) (σ:St) (H:Hp) (Q:Option Int->Hp->Prop),Inv X pins σ H s->t σ H Q->
  wpAny (model X.prog X.w) X.A (evalPart e X.env) (fun u s'=>∃ o H',Inv X pins σ H' s'/\IsPart u o/\Q o H') X.xe s
noncomputable def tNoPart:TO:=fun _ H Q=>Q none H
noncomputable def tPart (t:TE):TO:=fun σ H Q=>t σ H fun x H1=>∃ i,x=.int i/\Q (some i) H1
section
variable {X:Cx} {e:Expr} {te:TE} {lo hi:Option Expr} {tl th:TO} {pos p2:Pos}
theorem jG:PO X none tNoPart:=by
 intro pins s σ H Q I h
 rw [evalPart_none]
 exact wpAny_pure ⟨none,H,I,.none,h⟩
theorem yQ (h:PE X e te):PO X (some e) (tPart te):=by
 intro pins s σ H Q I hw
 rw [evalPart_some]
 refine thn (h pins s σ H _ I hw) fun u s1 zz=>?_
 obtain ⟨x,H1,I1,r1,q1⟩:=zz
 obtain ⟨i,rfl,q⟩:=q1
 obtain ⟨t,rfl⟩:=r1
 exact ⟨some i,H1,I1,.int i t,q⟩
noncomputable def SlR (X:Cx) (r:V->Option Int->Option Int->Hp->VK->Prop):Prop:=
 ∀ (pins:List (Addr × Obj)) (s:Shared) (σ:St) (H:Hp) (x:V) (v vl vu:Value) (lo hi:Option Int) (sl:Addr) (Q:VK),Inv X pins σ H s->RelV x v->s.heap.IsSliceOf sl vl vu .none->IsPart vl lo->IsPart vu hi->r x lo hi H Q->
  ∃ T id,typeLookup (.type T) "__getitem__"=pure (some (.builtin id))∧s.TypeIs v T∧wpAny (model X.prog X.w) X.A (getItem v (.ref sl)) (EP X pins σ Q) X.xe s
noncomputable def tSl (r:V->Option Int->Option Int->Hp->VK->Prop) (te:TE) (tl th:TO):TE:=fun σ H Q=>te σ H fun x H1=>tl σ H1 fun l H2=>th σ H2 fun u H3=>r x l u H3 Q
theorem yN {r:V->Option Int->Option Int->Hp->VK->Prop} (hr:SlR X r) (he:PE X e te) (hl:PO X lo tl) (hu:PO X hi th):PE X (.Subscript e (.Slice lo hi none p2) pos) (tSl r te tl th):=by
 intro pins s σ H Q I h
 refine Subscript_ (thn (he pins s σ H _ I h) fun v s1 zz=>?_)
 obtain ⟨x,H1,I1,r1,q1⟩:=zz
 refine wpAny_Slice (thn (hl pins s1 σ H1 _ I1 q1) fun vl s2 ⟨l,H2,I2,pl,q2⟩=>thn (hu pins s2 σ H2 _ I2 q2) fun vu s3 zz=>?_)
 obtain ⟨u,H3,I3,pu,q3⟩:=zz
 rw [evalPart_none]
 refine wpAny_pure ?_
 have I4:Inv X pins σ H3 {s3 with heap:=s3.heap.push {cls:=.type "slice",data:=.fields #[vl,vu,.none]}}:=I3.kept (t':=s3.toks) fun b ob q=>Heap.get?_push_of_some _ q
 obtain ⟨T,id,hT,ht,hg⟩:=hr pins {s3 with heap:=s3.heap.push {cls:=.type "slice",data:=.fields #[vl,vu,.none]}} σ H3 x v vl vu l u s3.heap.objs.size Q I4 r1 (Heap.IsSliceOf.new ..) pl pu q3
 show wpAny (model X.prog X.w) X.A (subscriptTail e (.Slice lo hi none p2) v (.ref s3.heap.objs.size)) (EP X pins σ Q) X.xe {s3 with heap:=s3.heap.push {cls:=.type "slice",data:=.fields #[vl,vu,.none]}}
 exact tail_any (ops:=[.ref s3.heap.objs.size,v]) ht hT hg (by with_unfolding_all rfl)
noncomputable def cutV (xs:List V) (lo hi:Option Int):List V:=(xs.drop (HT.sIx xs.length 0 lo)).take (HT.sIx xs.length xs.length hi - HT.sIx xs.length 0 lo)
theorem Y5 (xs:List V) (lo hi:Option Int):(cutV xs lo hi).length<=xs.length:=by
 unfold cutV
 rw [List.length_take,List.length_drop]
 omega
noncomputable def rSlT (K:PySem.W.Frag):V->Option Int->Option Int->Hp->VK->Prop:=fun x lo hi H Q=>∃ a xs,x=.ref a/\SqT K H a xs∧
 ¬ (HT.sIx xs.length 0 lo=0/\HT.sIx xs.length xs.length hi=xs.length)/\∀ p,H p=none->Q (.ref p) (upd H p (.tup (cutV xs lo hi)))
theorem sl_tup:SlR X (rSlT X.K):=by
 intro pins s σ H x v vl vu lo hi sl Q I rx hs pl pu h
 obtain ⟨a,xs,rfl,hx,hw,q⟩:=h
 cases rx
 obtain ⟨its,r,ht,hz⟩:=I.tuple hx
 have hlen:its.toArray.size=xs.length:=by rw [List.size_toArray]; exact r.length.symm
 refine ⟨"tuple",_,PyProof.Rows.slot_tuple_getitem.lookup,ht.typeIs,?_⟩
 refine HT.getItem_tuple_cut ht hs pl pu (by rw [hlen]; exact hw) ?_ (by rw [hlen]; exact hz)
 rw [hlen]
 refine ⟨.ref s.heap.objs.size,_,I.laid (t':=s.toks) (o:=.tup (cutV xs lo hi)) (fun b ob q=>Heap.get?_push_of_some _ q) (Nat.le_refl _) ?_,rfl,q _ (I.hok.fresh (Nat.le_refl _))⟩
 exact ⟨Nat.le_trans (Y5 xs lo hi) hz,_,(r.drop (HT.sIx xs.length 0 lo)).take (HT.sIx xs.length xs.length hi - HT.sIx xs.length 0 lo),IsTup.new _ _⟩
noncomputable def rCatT (K:PySem.W.Frag):R2:=fun x y H Q=>∃ a b xs ys,x=.ref a/\y=.ref b/\SqT K H a xs/\SqT K H b ys/\xs≠[]/\xs.length+ys.length<=sizeLine∧
 (ys=[]->Q (.ref a) H)/\(ys≠[]->∀ p,H p=none->Q (.ref p) (upd H p (.tup (xs++ys))))
theorem Vals.nil_iff {xs:List V} {us:List Value} (r:Vals xs us):us=[]↔xs=[]:=by
 cases r with
 |nil=>simp
 |cons _ _=>simp
theorem op_catT:OpR X (binaryOp .Add) (rCatT X.K):=by
 intro pins s σ H x y v u Q I rx ry h
 obtain ⟨a,b,xs,ys,rfl,rfl,ha,hb,hx,hz,q1,q2⟩:=h
 cases rx
 cases ry
 obtain ⟨its,r1,p1,_⟩:=I.tuple ha
 obtain ⟨its2,r2,p2,_⟩:=I.tuple hb
 refine HT.cat_tup p1 p2 (fun z=>hx (r1.nil_iff.mp z)) (fun z=>⟨.ref a,H,I,rfl,q1 (r2.nil_iff.mp z)⟩) (fun z=>?_) (by rw [<- r1.length,<- r2.length]; exact hz)
 refine ⟨.ref s.heap.objs.size,_,I.laid (t':=s.toks) (o:=.tup (xs++ys)) (fun b ob q=>Heap.get?_push_of_some _ q) (Nat.le_refl _) ?_,rfl,q2 (fun w=>z (r2.nil_iff.mpr w)) _ (I.hok.fresh (Nat.le_refl _))⟩
 exact ⟨by rw [List.length_append]; exact hz,_,r1.append r2,IsTup.new _ _⟩
end
end L2
namespace L2
open PySem PySem.Spec PyProof.Rows
noncomputable def ixN (n:Nat) (i:Int):Option Nat:=if 0<=i then (if i < n then some i.toNat else none) else if -(n:Int)<=i then some (i+n).toNat else none
noncomputable def atI {α:Type} (xs:List α) (i:Int):Option α:=(ixN xs.length i).bind fun j=>xs[j]?
theorem ixN_seq {n:Nat} {i:Int} {j:Nat} (h:ixN n i=some j):seqIndex? i n=some j/\j < n/\-(n:Int)<=i/\i < n:=by
 unfold ixN at h
 by_cases h0:0<=i
 ·rw [if_pos h0] at h
  by_cases h1:i < n
  ·rw [if_pos h1] at h
   have e:i.toNat=j:=Option.some.inj h
   exact ⟨by rw [seqIndex_of h0 h1,e],by omega,by omega,h1⟩
  ·rw [if_neg h1] at h; cases h
 ·rw [if_neg h0] at h
  by_cases h1:-(n:Int)<=i
  ·rw [if_pos h1] at h
   have e:(i+n).toNat=j:=Option.some.inj h
   exact ⟨by rw [seqIndex_neg (by omega) h1,e],by omega,h1,by omega⟩
  ·rw [if_neg h1] at h; cases h
theorem atI_get {α:Type} {xs:List α} {i:Int} {v:α} (h:atI xs i=some v):∃ j,seqIndex? i xs.length=some j/\xs[j]?=some v/\j < xs.length/\-(xs.length:Int)<=i/\i < xs.length:=by
 unfold atI at h
 cases e:ixN xs.length i with
 |none=>rw [e] at h; cases h
 |some j=>
  rw [e] at h
  obtain ⟨h1,h2,h3,h4⟩:=ixN_seq e
  exact ⟨j,h1,h,h2,h3,h4⟩
theorem yB {α:Type} {xs:List α} {j:Nat} {v:α} (h:xs[j]?=some v):atI xs (j:Int)=some v:=by
 have hj:j < xs.length:=(List.getElem?_eq_some_iff.mp h).1
 have e:ixN xs.length (j:Int)=some j:=by
  unfold ixN
  rw [if_pos (by omega),if_pos (by omega)]; simp
 unfold atI; rw [e]; exact h
noncomputable def PlainIx (b:Expr):Prop:=∀ o i,subscripted b false o i=operate [o,i] (getItem o i)
noncomputable def IxR (X:Cx) (r:R2):Prop:=
 ∀ (value slice:Expr) (pins:List (Addr × Obj)) (s:Shared) (σ:St) (H:Hp) (x y:V) (v u:Value) (Q:VK),Inv X pins σ H s->RelV x v->RelV y u->r x y H Q->
  subscripted slice false v u=operate [v,u] (getItem v u)->wpAny (model X.prog X.w) X.A (subscriptTail value slice v u) (EP X pins σ Q) X.xe s
noncomputable def MtR (X:Cx) (id:String) (r:V->List V->Hp->VK->Prop):Prop:=
 ∀ (pins:List (Addr × Obj)) (s:Shared) (σ:St) (H:Hp) (x:V) (xs:List V) (v:Value) (us:List Value) (Q:VK),Inv X pins σ H s->RelV x v->Vals xs us->r x xs H Q->
  wpAny (model X.prog X.w) X.A (call (.builtin id) (v::us)) (EP X pins σ Q) X.xe s
section
variable {X:Cx} {a b:Expr} {ta tb:TE} {pos:Pos}
theorem zH {r:R2} (hr:IxR X r) (ha:PE X a ta) (hb:PE X b tb) (hs:PlainIx b):PE X (.Subscript a b pos) (tOp r ta tb):=by
 intro pins s σ H Q I h
 exact Subscript_ (binT ha hb I h fun v u s2 x y H2 I2 rx ry q=>hr a b pins s2 σ H2 x y v u Q I2 rx ry q (hs _ _))
noncomputable def rIxL (K:PySem.W.Frag):R2:=fun x y H Q=>∃ p xs i v,x=.ref p/\y=.int i/\SqL K H p xs/\atI xs i=some v/\Q v H
noncomputable def rIxT (K:PySem.W.Frag):R2:=fun x y H Q=>∃ p xs i v,x=.ref p/\y=.int i/\SqT K H p xs/\atI xs i=some v/\Q v H
theorem yb:IxR X (rIxL X.K):=by
 intro value slice pins s σ H x y v u Q I rx ry h hs
 obtain ⟨p,xs,i,z,rfl,rfl,hq,he,q⟩:=h
 cases rx
 obtain ⟨t,rfl⟩:=ry
 obtain ⟨its,r,pl,hz⟩:=I.list hq
 obtain ⟨j,h1,h2,h3,h4,h5⟩:=atI_get he
 obtain ⟨w,ew,rw'⟩:=r.get h2
 have hl:=r.length
 have hn:=line63
 have fin:EP X pins σ Q w s:=⟨z,H,I,rw',q⟩
 by_cases h0:0<=i
 ·have hj:i.toNat=j:=by
   rw [seqIndex_of h0 h5] at h1
   exact Option.some.inj h1
  exact item_listR pl.isList h0 (by omega) (by rw [hj]; simpa using ew) fin hs
 ·have hj:(i+(its.toArray.size:Int)).toNat=j:=by
   rw [seqIndex_neg (by omega) h4] at h1
   rw [List.size_toArray,<- hl]
   exact Option.some.inj h1
  exact subscriptTail_builtinR (x:=w) pl.isList.typeIs slot_list_getitem.lookup
   (wpAny_getItem_list_neg (Q:=fun r s'=>r=w/\EP X pins σ Q r s') pl.isList (by omega) (by rw [List.size_toArray]<;>omega) (by omega) (by rw [hj]; simpa using ew) ⟨rfl,fin⟩) hs
theorem ix_tup:IxR X (rIxT X.K):=by
 intro value slice pins s σ H x y v u Q I rx ry h hs
 obtain ⟨p,xs,i,z,rfl,rfl,hq,he,q⟩:=h
 cases rx
 obtain ⟨t,rfl⟩:=ry
 obtain ⟨its,r,pl,hz⟩:=I.tuple hq
 obtain ⟨j,h1,h2,h3,h4,h5⟩:=atI_get he
 obtain ⟨w,ew,rw'⟩:=r.get h2
 have hl:=r.length
 have hn:=line63
 have fin:EP X pins σ Q w s:=⟨z,H,I,rw',q⟩
 exact subscriptTail_builtinR (x:=w) pl.typeIs slot_tuple_getitem.lookup
  (getItem_tuple (j:=j) (Q:=fun r s'=>r=w/\EP X pins σ Q r s') pl (by omega) (by omega) (by rw [List.size_toArray,<- hl]; exact h1) (by simpa using ew) ⟨rfl,fin⟩) hs
theorem mapSeq_set (its:List Value) (n j:Nat) (u:Value):Obj.mapSeq (·.setIfInBounds j u) {cls:=.type "list",data:=.seq its.toArray n}={cls:=.type "list",data:=.seq (its.set j u).toArray n}:=by
 simp [Obj.mapSeq]
theorem Inv.lst {pins:List (Addr × Obj)} {σ:St} {H:Hp} {s:Shared} {p:Addr} {xs:List V} (I:Inv X pins σ H s) (h:H p=some (.lst xs)) :
  ∃ (its:List Value) (n:Nat),Vals xs its∧s.heap.get? p=some {cls:=.type "list",data:=.seq its.toArray n}∧xs.length≤sizeLine:=by
 obtain ⟨z,its,n,r,e⟩:=I.hok p _ h
 exact ⟨its,n,r,e,z⟩
theorem Inv.lstUpd {pins:List (Addr × Obj)} {σ:St} {H:Hp} {s:Shared} {p:Addr} {xs ys:List V} {its its':List Value} {n n':Nat} {f:Obj->Obj} (I:Inv X pins σ H s) (h:H p=some (.lst xs))
  (ho:s.heap.get? p=some {cls:=.type "list",data:=.seq its.toArray n}) (hf:f {cls:=.type "list",data:=.seq its.toArray n}={cls:=.type "list",data:=.seq its'.toArray n'}) (r:Vals ys its') (hz:ys.length≤sizeLine) (t:Nat) :
  Inv X pins σ (upd H p (.lst ys)) {s with heap:=s.heap.update p f,toks:=t}:=by
 have e:(s.heap.update p f).get? p=some {cls:=.type "list",data:=.seq its'.toArray n'}:=by
  rw [Heap.get?_update_self f ho (by rw [hf]<;>rfl),hf]
 refine I.write (x:=p) (e:=p) (by rw [h]; trivial) (.inl rfl) (fun b u hb q=>(Heap.get?_update_other _ _ (Ne.symm hb)).trans q) ⟨_,e⟩ ?_
 exact ⟨hz,its',n',r,e⟩
noncomputable def rSetL:V->V->V->Hp->(Hp->Prop)->Prop:=fun o i v H Q=>∃ p xs k j,o=.ref p/\i=.int k/\H p=some (.lst xs)/\ixN xs.length k=some j/\Q (upd H p (.lst (xs.set j v)))
theorem Zf:PSet X rSetL:=by
 intro pins s σ H o i v ov iv u Q I ro ri rv h
 obtain ⟨p,xs,k,j,rfl,rfl,hp,hj,q⟩:=h
 cases ro
 obtain ⟨t,rfl⟩:=ri
 obtain ⟨its,n,r,ho,hz⟩:=I.lst hp
 obtain ⟨h1,h2,h3,h4⟩:=ixN_seq hj
 have hl:=r.length
 have hn:=line63
 have I':Inv X pins σ (upd H p (.lst (xs.set j v))) {s with heap:=s.heap.update p (Obj.mapSeq (·.setIfInBounds j u))}:=
  I.lstUpd hp ho (mapSeq_set its n j u) (r.set rv j) (by rw [List.length_set]; exact hz) s.toks
 by_cases h0:0<=k
 ·have hk:k.toNat=j:=by
   rw [seqIndex_of h0 h4] at h1
   exact Option.some.inj h1
  exact PySem.W.ki_setAt ho h0 (by omega) (by rw [List.size_toArray,<- hl]; exact h4) (by rw [hk]; exact ⟨_,I',q⟩)
 ·have hk:(k+(its.toArray.size:Int)).toNat=j:=by
   rw [seqIndex_neg (by omega) h3] at h1
   rw [List.size_toArray,<- hl]
   exact Option.some.inj h1
  exact PySem.W.ki_setBack ho (by omega) (by rw [List.size_toArray,<- hl]; exact h3) (by omega) (by rw [hk]; exact ⟨_,I',q⟩)
theorem slice_bounds (lo hi:Option Int) (n:Nat):(sliceBounds lo hi none n).1=((HT.sIx n 0 lo:Nat):Int)/\(sliceBounds lo hi none n).2.1=((HT.sIx n n hi:Nat):Int)/\(sliceBounds lo hi none n).2.2=1:=by
 refine ⟨?_,?_,rfl⟩
 ·cases lo with
  |none=>simp [sliceBounds,HT.sIx]
  |some i=>
   simp only [sliceBounds,HT.sIx,Option.getD_none,show (1:Int) > 0 by decide,if_true]
   by_cases h:i < 0
   ·simp only [h,if_true]<;>omega
   ·simp only [h,if_false]<;>omega
 ·cases hi with
  |none=>simp [sliceBounds,HT.sIx]
  |some i=>
   simp only [sliceBounds,HT.sIx,Option.getD_none,show (1:Int) > 0 by decide,if_true]
   by_cases h:i < 0
   ·simp only [h,if_true]<;>omega
   ·simp only [h,if_false]<;>omega
theorem slicePick_cut (its:List Value) (lo hi:Option Int):slicePick its.toArray lo hi none=((its.drop (HT.sIx its.length 0 lo)).take (HT.sIx its.length its.length hi - HT.sIx its.length 0 lo)).toArray:=by
 obtain ⟨h1,h2,h3⟩:=slice_bounds lo hi its.toArray.size
 unfold slicePick
 rw [h1,h2,h3]
 simp only [sliceRange_one,pick_run,List.size_toArray]<;>rfl
noncomputable def rSlL (K:PySem.W.Frag):V->Option Int->Option Int->Hp->VK->Prop:=fun x lo hi H Q=>∃ a xs,x=.ref a/\SqL K H a xs/\∀ p,H p=none->Q (.ref p) (upd H p (.lst (cutV xs lo hi)))
theorem sl_list:SlR X (rSlL X.K):=by
 intro pins s σ H x v vl vu lo hi sl Q I rx hs pl pu h
 obtain ⟨a,xs,rfl,hx,q⟩:=h
 cases rx
 obtain ⟨its,r,ht,hz⟩:=I.list hx
 have hlen:=r.length
 refine ⟨"list",_,slot_list_getitem.lookup,ht.isList.typeIs,?_⟩
 refine wpAny_getItem_list_slice ht.isList hs pl pu .none (by simp) ?_ (by rw [List.size_toArray]<;>omega)
 rw [slicePick_cut,<- hlen]
 refine ⟨.ref s.heap.objs.size,_,I.laid (t':=s.toks) (o:=.lst (cutV xs lo hi)) (fun b ob q=>Heap.get?_push_of_some _ q) (Nat.le_refl _) ?_,rfl,q _ (I.hok.fresh (Nat.le_refl _))⟩
 exact ⟨Nat.le_trans (Y5 xs lo hi) hz,_,0,(r.drop (HT.sIx xs.length 0 lo)).take (HT.sIx xs.length xs.length hi - HT.sIx xs.length 0 lo),Heap.get?_push_size _ rfl⟩
noncomputable def YT:V->Bool
 |.non=>true
 |.bl _=>true
 |.int _=>true
 |.str _=>true
 |_=>false
noncomputable def eqV:V->V->Bool
 |.non,.non=>true
 |.bl a,.bl b=>a == b
 |.bl a,.int b=>(if a then 1 else 0) == b
 |.int a,.bl b=>a == (if b then 1 else 0)
 |.int a,.int b=>a == b
 |.str a,.str b=>a == b
 |_,_=>false
theorem eqAt_V {A:Around} {s:Shared} {y x:V} {u v:Value} (ry:RelV y u) (rx:RelV x v) (fy:YT y=true) (fx:YT x=true):SeqAt.EqAt A s u v (eqV y x):=by
 cases y with
 |non=>
  cases ry
  cases x with
  |non=>cases rx; exact SeqAt.EqAt.same _
  |bl b=>cases rx; exact SeqAt.EqAt.none_bool b
  |int b=>obtain ⟨t,rfl⟩:=rx; exact SeqAt.EqAt.none_int b t
  |str b=>obtain ⟨t,rfl⟩:=rx; exact SeqAt.EqAt.none_str b t
  |_=>exact absurd (show false=true from fx) Bool.false_ne_true
 |bl a=>
  cases ry
  cases x with
  |non=>cases rx; exact SeqAt.EqAt.bool_none a
  |bl b=>cases rx; exact SeqAt.EqAt.bool_bool a b
  |int b=>obtain ⟨t,rfl⟩:=rx; exact SeqAt.EqAt.bool_int a b t
  |str b=>obtain ⟨t,rfl⟩:=rx; exact SeqAt.EqAt.bool_str a b t
  |_=>exact absurd (show false=true from fx) Bool.false_ne_true
 |int a=>
  obtain ⟨t',rfl⟩:=ry
  cases x with
  |non=>cases rx; exact SeqAt.EqAt.int_none a t'
  |bl b=>cases rx; exact SeqAt.EqAt.int_bool a t' b
  |int b=>obtain ⟨t,rfl⟩:=rx; exact SeqAt.EqAt.int_int a t' b t
  |str b=>obtain ⟨t,rfl⟩:=rx; exact SeqAt.EqAt.int_str a t' b t
  |_=>exact absurd (show false=true from fx) Bool.false_ne_true
 |str a=>
  obtain ⟨t',rfl⟩:=ry
  cases x with
  |non=>cases rx; exact SeqAt.EqAt.str_none a t'
  |bl b=>cases rx; exact SeqAt.EqAt.str_bool a t' b
  |int b=>obtain ⟨t,rfl⟩:=rx; exact SeqAt.EqAt.str_int a t' b t
  |str b=>obtain ⟨t,rfl⟩:=rx; exact SeqAt.EqAt.str_str a t' b t
  |_=>exact absurd (show false=true from fx) Bool.false_ne_true
 |_=>exact absurd (show false=true from fy) Bool.false_ne_true
noncomputable def eqU (x:V) (u:Value):Bool:=match u with
 |.none=>eqV .non x
 |.bool b=>eqV (.bl b) x
 |.int i _=>eqV (.int i) x
 |.str z _=>eqV (.str z) x
 |_=>false
theorem eqU_of {x y:V} {u:Value} (r:RelV y u) (f:YT y=true):eqU x u=eqV y x:=by
 cases y with
 |non=>cases r; rfl
 |bl b=>cases r; rfl
 |int i=>obtain ⟨t,rfl⟩:=r; rfl
 |str z=>obtain ⟨t,rfl⟩:=r; rfl
 |_=>exact absurd (show false=true from f) Bool.false_ne_true
theorem any_eqU {x:V}:∀ {xs:List V} {us:List Value},Vals xs us->xs.all YT=true->us.any (eqU x)=xs.any fun y=>eqV y x
 |_,_,.nil,_=>rfl
 |y::xs,u::us,.cons r t,f=>by
  rw [List.all_cons,Bool.and_eq_true] at f
  rw [List.any_cons,List.any_cons,eqU_of r f.1,any_eqU t f.2]
theorem Jf {A:Around} {s:Shared} {x:V} {v:Value} (rx:RelV x v) (fx:YT x=true):∀ {xs:List V} {us:List Value},Vals xs us->xs.all YT=true->∀ u∈us,SeqAt.EqAt A s u v (eqU x u)
 |_,_,.nil,_=>fun u hu=>by cases hu
 |y::xs,u::us,.cons r t,f=>fun u' hu=>by
  rw [List.all_cons,Bool.and_eq_true] at f
  rcases List.mem_cons.mp hu with rfl|hu
  ·rw [eqU_of r f.1]; exact eqAt_V r rx f.1 fx
  ·exact Jf rx fx t f.2 u' hu
noncomputable def inV (x:V) (xs:List V):Bool:=xs.any fun y=>eqV y x
noncomputable def rIn (K:PySem.W.Frag) (neg:Bool):R2:=fun x y H Q=>∃ p xs,y=.ref p/\(SqL K H p xs∨SqT K H p xs)/\YT x=true/\xs.all YT=true/\Q (.bl (if neg then !inV x xs else inV x xs)) H
theorem Zv:OpR X (compareOp .In) (rIn X.K false):=by
 intro pins s σ H x y v u Q I rx ry h
 obtain ⟨p,xs,rfl,hq,fx,fs,q⟩:=h
 cases ry
 rcases hq with hq|hq
 ·obtain ⟨its,r,pl,hz⟩:=I.list hq
  refine SeqAt.in_listAt (eqU x) pl.isList (fun w hw=>Jf rx fx r fs w (by simpa using hw)) ⟨.bl _,H,I,rfl,?_⟩
  rw [show its.toArray.any (eqU x)=its.any (eqU x) by simp,any_eqU r fs]
  exact q
 ·obtain ⟨its,r,pl,hz⟩:=I.tuple hq
  refine SeqAt.in_tupleAt (eqU x) pl (fun w hw=>Jf rx fx r fs w (by simpa using hw)) ⟨.bl _,H,I,rfl,?_⟩
  rw [show its.toArray.any (eqU x)=its.any (eqU x) by simp,any_eqU r fs]
  exact q
theorem YS:jE X (.type "list") (fun xs H Q=>∃ p ys,xs=[.ref p]∧(SqL X.K H p ys∨SqT X.K H p ys)∧∀ l,H l=none→Q (.ref l) (upd H l (.lst ys))):=by
 intro pins s σ H xs us Q I r h
 obtain ⟨p,ys,rfl,hq,q⟩:=h
 obtain ⟨u,rfl,rx⟩:=Zz r
 cases rx
 have fin:∀ (its:List Value),Vals ys its->ys.length<=sizeLine->∀ (h':Heap) (c':Nat),(∀ b o',s.heap.get? b=some o'->h'.get? b=some o')->
   h'.get? s.heap.objs.size=some {cls:=.type "list",dict:=none,data:=.seq its.toArray c',slots:=#[]}→EP X pins σ Q (.ref s.heap.objs.size) {s with heap:=h'}:=fun its r' hz h' c' kp e=>
  ⟨.ref s.heap.objs.size,_,I.laid (t':=s.toks) kp (Nat.le_refl _) (show zo X.prog X.w _ h' _ (.lst ys) from ⟨hz,its,c',r',e⟩),rfl,q _ (I.hok.fresh (Nat.le_refl _))⟩
 rcases hq with hq|hq
 ·obtain ⟨its,r',pl,hz⟩:=I.list hq
  have hlen:=r'.length
  obtain ⟨o,ho,hc,n,hd⟩:=pl.isList
  exact call_list_seq p (.inl rfl) ho hc hd (fun h' c' kp e=>fin its r' hz h' c' kp e) (by simp only [List.size_toArray]<;>omega)
 ·obtain ⟨its,r',pl,hz⟩:=I.tuple hq
  have hlen:=r'.length
  obtain ⟨o,ho,hc,n,hd⟩:=pl
  exact call_list_seq p (.inr rfl) ho hc hd (fun h' c' kp e=>fin its r' hz h' c' kp e) (by simp only [List.size_toArray]<;>omega)
theorem call_tuple_of:jE X (.type "tuple") (fun xs H Q=>∃ p ys,xs=[.ref p]∧((SqL X.K H p ys∧∀ l,H l=none→Q (.ref l) (upd H l (.tup ys)))∨(SqT X.K H p ys∧Q (.ref p) H))):=by
 intro pins s σ H xs us Q I r h
 obtain ⟨p,ys,rfl,h⟩:=h
 obtain ⟨u,rfl,rx⟩:=Zz r
 cases rx
 rcases h with ⟨hq,q⟩|⟨hq,q⟩
 ·obtain ⟨its,r',pl,hz⟩:=I.list hq
  have hlen:=r'.length
  refine call_tuple_list pl.isList (fun h' kp=>?_) (by simp only [List.size_toArray]<;>omega)
  have I1:Inv X pins σ H {s with heap:=h'}:=I.kept (t':=s.toks) kp
  have I2:Inv X pins σ (upd H h'.objs.size (.tup ys)) {s with heap:=h'.push {cls:=.type "tuple",data:=.seq its.toArray}}:=
   I1.laid (t':=s.toks) (fun b o e=>Heap.get?_push_of_some _ e) (Nat.le_refl _) (show zo X.prog X.w _ _ _ (.tup ys) from ⟨hz,its,r',IsTup.new _ _⟩)
  exact ⟨.ref h'.objs.size,_,I2,rfl,q _ (I1.hok.fresh (Nat.le_refl _))⟩
 ·obtain ⟨its,r',pl,hz⟩:=I.tuple hq
  exact call_tuple_same pl ⟨.ref p,H,I,rfl,q⟩
noncomputable def tyV (K:PySem.W.Frag) (T:String) (x:V) (H:Hp):Prop:=match x with
 |.str _=>T="str"
 |.int _=>T="int"
 |.ref p=>(T="list"∧∃ xs,SqL K H p xs)∨(T="tuple"∧∃ o,K.lookup p=some o∧o.cls=.type "tuple"∧o.dict=none)∨
   (T="dict"∧((∃ kvs,H p=some (.dK kvs))∨∃ kvs,H p=some (.dT kvs)))∨(T="set"∧∃ S n,H p=some (.set S n))
 |_=>False
theorem tyV_is {pins:List (Addr × Obj)} {σ:St} {H:Hp} {s:Shared} {T:String} {x:V} {v:Value} (I:Inv X pins σ H s) (r:RelV x v) (ty:tyV X.K T x H) :
  s.TypeIs v T/\∀ a,v=.ref a->∃ ob,s.heap.get? a=some ob/\ob.dict=none:=by
 cases x with
 |str z=>
  obtain ⟨t,rfl⟩:=r
  cases (show T="str" from ty)
  exact ⟨typeIs_str s z t,fun _ e=>nomatch e⟩
 |int i=>
  obtain ⟨t,rfl⟩:=r
  cases (show T="int" from ty)
  exact ⟨typeIs_int s i t,fun _ e=>nomatch e⟩
 |ref p=>
  cases r
  rcases ty with ⟨rfl,xs,hq⟩|⟨rfl,o,hk,hc,hd⟩|⟨rfl,hk⟩|⟨rfl,S,n,hk⟩
  ·obtain ⟨its,_,pl,_⟩:=I.list hq
   refine ⟨pl.isList.typeIs,fun a e=>?_⟩
   cases e
   obtain ⟨o,n,e,c,hd,_⟩:=pl
   exact ⟨o,e,hd⟩
  ·refine ⟨⟨o,I.kIn p o hk,hc⟩,fun a e=>?_⟩
   cases e
   exact ⟨o,I.kIn _ o hk,hd⟩
  ·have z:∃ o,s.heap.get? p=some o/\o.ExactDict:=by
    rcases hk with ⟨kvs,hk⟩|⟨kvs,hk⟩
    ·obtain ⟨_,_,_,_,o,_,_,e,ex,_⟩:=I.hok p _ hk
     exact ⟨o,e,ex⟩
    ·obtain ⟨_,_,_,_,o,_,_,e,ex,_⟩:=I.hok p _ hk
     exact ⟨o,e,ex⟩
   obtain ⟨o,e,ex⟩:=z
   refine ⟨⟨o,e,ex.1⟩,fun a e2=>?_⟩
   cases e2
   exact ⟨o,e,ex.2.1⟩
  ·obtain ⟨o,_,_,_,e,ex,_⟩:=I.hok p _ hk
   refine ⟨⟨o,e,ex.1⟩,fun a e2=>?_⟩
   cases e2
   exact ⟨o,e,ex.2.1⟩
 |_=>exact False.elim ty
noncomputable def tBM0 (K:PySem.W.Frag) (T:String) (r:V->List V->Hp->VK->Prop) (to:TE):TE:=fun σ H Q=>to σ H fun x H1=>tyV K T x H1/\r x [] H1 Q
noncomputable def tBM (K:PySem.W.Frag) (T:String) (r:V->List V->Hp->VK->Prop) (to:TE) (t:TA):TE:=fun σ H Q=>to σ H fun x H1=>tyV K T x H1/\t σ H1 fun xs H2=>r x xs H2 Q
variable {o e:Expr} {es:List Expr} {to:TE} {t:TA} {name:Str} {apos cpos:Pos} {T id:String} {r:V->List V->Hp->VK->Prop}
theorem pe_bm0 (pa:PlainAttrs T) (slot:Slot T name id) (hty:typeOf (.builtin id)=pure (.type "method_descriptor")) (hm:MtR X id r) (ho:PE X o to)
  (hbase:attributeBase o name X.env (eval o X.env)=eval o X.env:=by rfl) (hline:(apos.endLine == cpos.line)=true:=by rfl):PE X (.Call (.Attribute o name apos) [] [] cpos) (tBM0 X.K T r to):=by
 intro pins s σ H Q I h
 refine wpAny_Call_method0_late hbase hline (thn (ho pins s σ H _ I h) fun v s1 zz=>?_)
 obtain ⟨x,H1,I1,r1,ty,q1⟩:=zz
 obtain ⟨h1,h2⟩:=tyV_is I1 r1 ty
 exact ⟨T,id,pa,slot,hty,h1,h2,Calls.callWith_builtin rfl (PySem.evalArgs_none (hm pins s1 σ H1 x [] v [] Q I1 r1 .nil q1))⟩
theorem pe_bm (pa:PlainAttrs T) (slot:Slot T name id) (hty:typeOf (.builtin id)=pure (.type "method_descriptor")) (hm:MtR X id r) (ho:PE X o to) (ha:PA X (e::es) t)
  (hbase:attributeBase o name X.env (eval o X.env)=eval o X.env:=by rfl)
  (hfew:((backTo cpos (starEach (e::es) X.env)).all (fun x=>!x.1) && (backToKw cpos (keywordEach [] X.env)).all (fun x=>x.1.isSome)
   && decide ((e::es).length+([]:List Keyword).length+(if ([]:List Keyword).isEmpty then 0 else 1) < 30))=true:=by rfl)
  (hline:(apos.endLine == cpos.line)=true:=by rfl) (hs:starEach (e::es) X.env=(false,eval e X.env)::starEach es X.env:=by rfl) (hplain:(backTo cpos (starEach es X.env)).any (·.1)=false:=by rfl) :
  PE X (.Call (.Attribute o name apos) (e::es) [] cpos) (tBM X.K T r to t):=by
 intro pins s σ H Q I h
 refine wpAny_Call_method_late hbase hfew hline rfl (thn (ho pins s σ H _ I h) fun v s1 zz=>?_)
 obtain ⟨x,H1,I1,r1,ty,q1⟩:=zz
 obtain ⟨h1,h2⟩:=tyV_is I1 r1 ty
 refine ⟨T,id,pa,slot,hty,h1,h2,?_⟩
 have hA:=ha cpos pins s1 σ H1 _ I1 q1
 rw [hs] at hA ⊢
 refine Calls.callWith_builtin (by show (false || (backTo cpos (starEach es X.env)).any (·.1))=false; rw [hplain]<;>rfl) (Calls.evalArgs_plain ?_)
 exact thn hA fun us s2 ⟨vs,H2,I2,r2,q2⟩=>hm pins s2 σ H2 x vs v us Q I2 r1 r2 q2
end
end L2
namespace L2
open PySem PySem.Spec PyProof.Rows
noncomputable def MtM (X:Cx) (id:String) (r:V->List V->Hp->VK->Prop):Prop:=
 ∀ (pins:List (Addr × Obj)) (s:Shared) (σ:St) (H:Hp) (x:V) (xs:List V) (v:Value) (us:List Value) (Q:VK),Inv X pins σ H s->RelV x v->Vals xs us->r x xs H Q->
  wpAny (model X.prog X.w) X.A (call (.builtin id) (v::us)) (EP X pins σ Q) X.xe s
theorem Vals.one:∀ {x:V} {us:List Value},Vals [x] us->∃ u,us=[u]/\RelV x u
 |_,_,.cons r .nil=>⟨_,rfl,r⟩
section
variable {X:Cx} {pins:List (Addr × Obj)} {σ:St} {H:Hp} {s:Shared} {l b:Addr} {xs ys zs:List V}
theorem Inv.lset {its its':List Value} {n:Nat} {f:Array Value->Array Value} {t':Nat} (I:Inv X pins σ H s) (hH:H l=some (.lst xs))
  (e:s.heap.get? l=some {cls:=.type "list",data:=.seq its.toArray n}) (hf:f its.toArray=its'.toArray) (hv:Vals ys its') (hz:ys.length≤sizeLine) :
  Inv X pins σ (upd H l (.lst ys)) {s with heap:=s.heap.update l (Obj.mapSeq f),toks:=t'}:=by
 have q:=PySem.IsL.update e f
 rw [hf] at q
 refine I.write (x:=l) (e:=l) (by rw [hH]; exact trivial) (.inl rfl) (fun b' u hb hu=>(Heap.get?_update_other s.heap (Obj.mapSeq f) (Ne.symm hb)).trans hu) ⟨_,q⟩ ?_
 exact ⟨hz,its',_,hv,q⟩
theorem Inv.lnew {its:List Value} {t':Nat} (I:Inv X pins σ H s) (hv:Vals ys its) (hz:ys.length<=sizeLine) :
  Inv X pins σ (upd H s.heap.objs.size (.lst ys)) {s with heap:=s.heap.push {cls:=.type "list",data:=.seq its.toArray},toks:=t'}:=
 I.laid (fun _ _ q=>Heap.get?_push_of_some _ q) (Nat.le_refl _) ⟨hz,its,0,hv,Heap.get?_push_size _ rfl⟩
theorem Inv.fresh (I:Inv X pins σ H s):H s.heap.objs.size=none:=I.hok.fresh (Nat.le_refl _)
theorem Inv.lstM (I:Inv X pins σ H s) (hH:H l=some (.lst xs)):xs.length≤sizeLine∧∃ (its:List Value) (n:Nat),Vals xs its∧xs.length=its.length∧s.heap.get? l=some {cls:=.type "list",data:=.seq its.toArray n}:=by
 obtain ⟨z,its,n,r,e⟩:=I.hok l _ hH
 exact ⟨z,its,n,r,r.length,e⟩
theorem notLongL {n:Nat} (h:n<=sizeLine):Builtin.List.listTooLong n=false:=by
 unfold Builtin.List.listTooLong
 exact decide_eq_false (by omega)
end
section
variable {X:Cx}
noncomputable def rAppend:V->List V->Hp->VK->Prop:=fun x vs H Q=>∃ l xs y,x=.ref l/\vs=[y]/\H l=some (.lst xs)/\xs.length < sizeLine/\Q .non (upd H l (.lst (xs++[y])))
theorem Yv:MtM X "list.append" rAppend:=by
 intro pins s σ H x vs v us Q I rx rv h
 obtain ⟨l,xs,y,rfl,rfl,hH,hz,q⟩:=h
 cases rx
 obtain ⟨u,rfl,ru⟩:=rv.one
 obtain ⟨z,its,n,r,hl,e⟩:=I.lstM hH
 refine call_meets F.slot_list_append ⟨_,e,rfl⟩ F.entry_list_append (F.args_list_append_2 _ _) (PySem.list_append l its.toArray n u (by rw [List.size_toArray]; omega)) ⟨e,?_⟩
 refine ⟨.non,_,I.lset (its':=its++[u]) hH e (by simp) (r.append (.cons ru .nil)) ?_,rfl,q⟩
 rw [List.length_append,List.length_singleton]
 omega
noncomputable def rExtend:V->List V->Hp->VK->Prop:=fun x vs H Q=>∃ l b xs zs,x=.ref l/\vs=[.ref b]/\H l=some (.lst xs)/\H b=some (.lst zs)/\xs.length+zs.length<=sizeLine/\Q .non (upd H l (.lst (xs++zs)))
theorem mt_extend:MtM X "list.extend" rExtend:=by
 intro pins s σ H x vs v us Q I rx rv h
 obtain ⟨l,b,xs,zs,rfl,rfl,hH,hB,hz,q⟩:=h
 cases rx
 obtain ⟨u,rfl,ru⟩:=rv.one
 cases ru
 obtain ⟨z,its,n,r,hl,e⟩:=I.lstM hH
 obtain ⟨z2,its2,n2,r2,hl2,e2⟩:=I.lstM hB
 have hsz:its.toArray.size+its2.toArray.size<=sizeLine:=by rw [List.size_toArray,List.size_toArray]; omega
 have hlong:¬ (!its.toArray.isEmpty && Builtin.List.listTooLong (its.toArray.size+its2.toArray.size))=true:=by
  rw [notLongL hsz,Bool.and_false]
  exact Bool.false_ne_true
 refine call_meets F.slot_list_extend ⟨_,e,rfl⟩ F.entry_list_extend (F.args_list_extend_2 _ _)
  (AutoSeq1.list_extend_list_list_0 l its.toArray n b its2.toArray n2 hlong (by rw [List.size_toArray]; omega) (by omega)) ⟨e,e2,?_⟩
 refine ⟨.non,_,I.lset (its':=its++its2) hH e (by simp) (r.append r2) ?_,rfl,q⟩
 rw [List.length_append]
 omega
noncomputable def rCat:R2:=fun x y H Q=>∃ l b xs zs,x=.ref l/\y=.ref b/\H l=some (.lst xs)/\H b=some (.lst zs)/\xs.length+zs.length<=sizeLine/\∀ p,H p=none->Q (.ref p) (upd H p (.lst (xs++zs)))
theorem op_cat:OpR X (binaryOp .Add) rCat:=by
 intro pins s σ H x y v u Q I rx ry h
 obtain ⟨l,b,xs,zs,rfl,rfl,hH,hB,hz,q⟩:=h
 cases rx
 cases ry
 obtain ⟨z,its,n,r,hl,e⟩:=I.lstM hH
 obtain ⟨z2,its2,n2,r2,hl2,e2⟩:=I.lstM hB
 refine PySem.P.add_list e e2 ?_ (by rw [List.size_toArray,List.size_toArray]; omega)
 have ea:its.toArray++its2.toArray=(its++its2).toArray:=by simp
 rw [ea]
 exact ⟨.ref _,_,I.lnew (t':=s.toks) (r.append r2) (by rw [List.length_append]; omega),rfl,q _ I.fresh⟩
end
section
variable {prog:Program} {w:World} {A:Around} {E:Value->Shared->Prop} {s:Shared}
end
section
variable {X:Cx}
end
end L2
namespace Att
open PySem PySem.W PySem.Calls PyProof.Rows
theorem ints_of_wellAll {P:Params} {h:Heap}:∀ (ns:List Int) (vs:List Value),WellAll P h vs (ns.map WData.int)->IntsAre vs ns:=by
 intro ns
 induction ns with
 |nil=>
  intro vs w
  rw [List.map_nil] at w
  cases w
  exact .nil
 |cons n ns ih=>
  intro vs w
  rw [List.map_cons] at w
  cases w with
  |cons a b=>
   cases a
   exact .cons _ _ (ih _ b)
theorem script_of {l:OpenLaw} {n:Nat} (hn:l.most=some n) {P:Params} {h:Heap} {args:List WData} {vals:List Value}
  (hpre:l.row.toRowW.claim.pre args=true) (hwl:WellAll P h vals args) :
  ∃ a vs ns,vals=[Value.ref a]∧args=[WData.list (ns.map WData.int)]∧h.get? a=some {cls:=.type "list",data:=.seq vs.toArray}∧IntsAre vs ns∧ns.length≤n:=by
 have hsh:WShape.hasAll [] args [.list .int]=true:=(pre_splitW hpre).1
 have hc:l.pre.holds [] {args:=args}=true:=(pre_splitW hpre).2
 obtain ⟨d,r,rfl,h1,h2⟩:=hasAllW_cons hsh
 obtain rfl:=hasAllW_nil h2
 obtain ⟨xs,rfl,h3⟩:=hasW_list h1
 obtain ⟨ns,rfl⟩:=items_int h3
 have hlen:ns.length<=n:=by
  unfold OpenLaw.pre at hc
  have h4:(WTm.not (.lt (.lit (.int (n:Int))) (.len (.arg 0)))).holds [] {args:=[.list (ns.map .int)]}=true:=by
   have h4:=(holds_andW hc).1
   rw [hn] at h4
   exact h4
  have h5:=condW_of h4 (w_not (w_lt w_lit (w_len_list (w_arg rfl))))
  rw [List.length_map] at h5
  refine Nat.le_of_not_lt fun q=>?_
  have q':(n:Int) < ((ns.length:Nat):Int):=by omega
  first
   | (rw [decide_eq_true q'] at h5; exact absurd h5 (by decide))
   | (simp at h5; omega)
 cases hwl with
 |cons w1 w2=>
  cases w2
  cases w1 with
  |list ho hall=>exact ⟨_,_,ns,rfl,rfl,ho,ints_of_wellAll ns _ hall,hlen⟩
theorem post_true (l:OpenLaw) (args:List WData):l.row.toRowW.claim.post args (.bool true) args=true:=
 postW_of (r:=l.row.toRowW) (X:=(true == true))
  (show WShape.has [] (.bool true) .bool=true by first|rfl|decide|simp [WShape.has,WShape.arms,WShape.armsAll])
  (show (WTm.eq .res (.lit (.bool true))).value [] {args:=args,res:=some (.bool true),after:=args}=some (.bool (true == true)) from w_eq_bool (w_res rfl) w_lit) rfl
section
variable {prog:Program} {w:World} {A:Around} {E:Value->Shared->Prop} {s:Shared} {K:Frag}
end
end Att
namespace L2
open PySem PySem.Spec PyProof.Rows
theorem vals_ints:∀ {vs:List Value} {ns:List Int},IntsAre vs ns->Vals (ns.map V.int) vs
 |_,_,.nil=>.nil
 |_,_,.cons n t h=>.cons ⟨t,rfl⟩ (vals_ints h)
noncomputable def Only (H:Hp):Prop:=∀ b,H b=none∨∃ o xs,H b=some (.frz o (.lst xs))
theorem law_call {P:Program} {w:World} {K:PySem.W.Frag} {mg mb:Str->Option Value} {CX:CXT} {k:Nat} {fa a:Addr} {fd:FuncData} {x:Str} {sp:Sp} {s₁:Shared} {vs:List Value} {ns:List Int}
  (KX:K.In s₁.heap) (hns:s₁.heap.Ns mainGlobals mg) (hb:s₁.heap.Ns builtinsNs mb) (hbb:∀ x:Str,x≠"__name__"→mb x=bootBuiltins x) (hlim:s₁.heap.NoLimit) (hg:s₁.gens=#[])
  (ha:s₁.heap.get? a=some {cls:=.type "list",data:=.seq vs.toArray}) (hi:IntsAre vs ns) (hl:ns.length≤sizeLine) (hr:Room k callerA)
  (F:∀ base:Heap,K.In base->base.Ns mainGlobals mg->FnOk P w K mg base CX k fa fd [x] sp) (hbind:∀ (s:Shared) (u:Value),BindsTo s fd ⟨[u],[]⟩ [(x,u)])
  (hsp:∀ H:Hp,Only H->SqL K H a (ns.map V.int)->sp [.ref a] H (fun v _=>v=.bl true) fun _ _ _=>False)
  (hCX:∀ H e s',CX [] H s₁ (fun _ _ _=>False) e s'->False) :
  codeAny (model P w) callerA (.call (.ref fa) ⟨[.ref a],[]⟩) (fun r s'=>r=.ok (.ret (.bool true))/\OldK s₁.heap s'.heap/\s'.os=s₁.os/\AllBare s'.gens) s₁:=by
 have rv:=vals_ints hi
 have lenV:=hi.length
 have core:∀ H:Hp,Only H->SqL K H a (ns.map V.int)->HOk P w H s₁.heap->(∀ b,H b≠none->b=a)->(H a≠none->K.lookup a=none)->
   codeAny (model P w) callerA (.call (.ref fa) ⟨[.ref a],[]⟩) (fun r s'=>r=.ok (.ret (.bool true))/\OldK s₁.heap s'.heap/\s'.os=s₁.os/\AllBare s'.gens) s₁:=by
  intro H hO hS hok hA hK
  have base_of:∀ {b:Addr} {o:Obj},s₁.heap.get? b=some o->H b=none->(hidT s₁.heap H).get? b=some o:=fun e n=>hidT_get e n
  have noA:∀ {b:Addr} {o:Obj} {es:Array DictEntry} {ep:Nat},s₁.heap.get? b=some o->o.data=.dict es ep->H b=none:=fun {b o es ep} e d=>by
   cases q:H b with
   |none=>rfl
   |some u=>
    have e':b=a:=hA b (by rw [q]; simp)
    subst e'
    rw [ha] at e; cases e
    have d':Data.seq vs.toArray _=Data.dict es ep:=d
    cases d'
  have nsK:∀ {b:Addr} {m:Str->Option Value},s₁.heap.Ns b m->(hidT s₁.heap H).Ns b m:=fun {b m} ⟨o,es,ep,e,d,r⟩=>⟨o,es,ep,base_of e (noA e d),d,r⟩
  have hKb:K.In (hidT s₁.heap H):=fun b o e=>base_of (KX b o e) (by
   cases q:H b with
   |none=>rfl
   |some u=>
    have e':b=a:=hA b (by rw [q]; simp)
    subst e'
    rw [hK (by rw [q]; simp)] at e; cases e)
  have hM:Mod K mg (hidT s₁.heap H):=⟨hKb,nsK hns,⟨mb,nsK hb,hbb⟩,let ⟨mc,h1,h2⟩:=hlim; ⟨mc,nsK h1,h2⟩⟩
  have e0:Env0 P w K mg (hidT s₁.heap H) callerA [] s₁ H:=⟨rfl,hM,fun b o e=>of_hidT e,Nat.le_of_eq (hidT_size _ _),trivial,fun b hb=>absurd (show b∈([]:List Addr) from hb) (by simp),hok,.of_eq hg⟩
  refine codeAny_mono ((F _ hKb (nsK hns)).run callerA [] s₁ H ⟨[.ref a],[]⟩ [.ref a] [.ref a] _ _ hr e0 (hbind s₁ (.ref a)) (.cons rfl .nil) (hsp H hO hS)) fun r s' h=>?_
  cases r with
  |error e=>exact (hCX H e s' h).elim
  |ok fl=>
   cases fl with
   |next=>exact False.elim h
   |brk=>exact False.elim h
   |cont=>exact False.elim h
   |ret u=>
    obtain ⟨v,H',os,bare,un,hok',r',q⟩:=h
    have q':v=.bl true:=q
    subst q'
    obtain rfl:u=Value.bool true:=r'
    refine ⟨rfl,OldK.of_keep fun b o e=>?_,os,bare⟩
    cases q:H b with
    |none=>exact un.keep b o e q (by intro z; exact absurd (show b∈([]:List Addr) from z) (by simp)) (by simp)
    |some u=>
     rcases hO b with z|⟨ob,xs,z⟩
     ·rw [q] at z; cases z
     ·have z2:=un.frzs b ob _ z
      obtain ⟨e1,_⟩:=hok b _ z
      obtain ⟨e2,_⟩:=hok' b _ z2
      rw [e] at e1; cases e1
      exact e2
 cases hk:K.lookup a with
 |some o=>
  have e:=KX a o hk
  rw [ha] at e
  cases e
  refine core (fun _=>none) (fun _=>.inl rfl) (.inr ⟨_,vs.toArray,_,hk,rfl,rfl,rfl,by rw [List.size_toArray,lenV]; exact hl,by simpa using rv⟩) (fun b u z=>by have z':(none:Option HO)=some u:=z; cases z') (fun b z=>absurd rfl z) fun z=>absurd rfl z
 |none=>
  refine core (fun b=>if b=a then some (.frz {cls:=.type "list",data:=.seq vs.toArray} (.lst (ns.map V.int))) else none) (fun b=>?_) (.inl (.inr ⟨{cls:=.type "list",data:=.seq vs.toArray},if_pos rfl⟩)) (fun b u z=>?_) (fun b z=>?_) fun _=>hk
  ·by_cases hb:b=a
   ·exact .inr ⟨_,_,if_pos hb⟩
   ·exact .inl (if_neg hb)
  ·by_cases hb:b=a
   ·have z':=(if_pos hb).symm.trans z
    cases z'
    subst hb
    exact ⟨ha,by rw [List.length_map]; exact hl,vs,_,rv,ha⟩
   ·have z':=(if_neg hb).symm.trans z
    cases z'
  ·by_cases hb:b=a
   ·exact hb
   ·exact absurd (if_neg hb) z
end L2
namespace L2
open PySem PySem.Spec PyProof.Rows
end L2
namespace L2
open PySem PySem.Spec PyProof.Rows
noncomputable def zK (s:Stmt):Arguments:=match s with
 |.FunctionDef _ a _ _ _ _ _ _ _ _=>a
 |_=>{posonlyargs:=[],args:=[],vararg:=none,kwonlyargs:=[],kw_defaults:=[],kwarg:=none,defaults:=[]}
noncomputable def zJ (s:Stmt):List Stmt:=match s with
 |.FunctionDef _ _ b _ _ _ _ _ _ _=>b
 |_=>[]
noncomputable def zD (s:Stmt):Scope:=match s with
 |.FunctionDef _ _ _ _ _ _ sc _ _ _=>sc
 |_=>{kind:=.function,names:=[],isGenerator:=false,isCoroutine:=false}
noncomputable abbrev E0:XK:=fun _ _ _=>False
section
variable {P:Program} {w:World} {K:PySem.W.Frag} {mg:Str->Option Value} {base:Heap}
end
section
variable {X:Cx}
theorem pv (i:Nat) {x:Str} {pos:Pos} (hN:X.N[i]?=some x:=by rfl) (hv:Vis X.env.scope x:=by first|exact Or.inl rfl|exact Or.inr (Or.inl rfl)|exact Or.inr (Or.inr rfl)) (hd:(x == ("__debug__" : Str))=false:=by decide)
  (hcd:(x == ("__classdict__" : Str))=false:=by decide):PE X (.Name x pos) (tVar i):=pe_var hN hv hd hcd
end
theorem iteF {A B:Prop} (h:B):if false=true then A else B:=by
 rw [if_neg Bool.false_ne_true]
 exact h
theorem iteT {A B:Prop} (h:A):if true=true then A else B:=by
 rw [if_pos rfl]
 exact h
noncomputable def Same (H H':Hp):Prop:=∀ b o,H b=some o->H' b=some o
theorem Same.refl (H:Hp):Same H H:=fun _ _ h=>h
theorem Same.trans {H H1 H2:Hp} (a:Same H H1) (b:Same H1 H2):Same H H2:=fun c o h=>b c o (a c o h)
theorem Same.seq {K:PySem.W.Frag} {H H':Hp} {a:Addr} {xs:List V} (e:Same H H') (h:SqL K H a xs):SqL K H' a xs:=by
 rcases h with (h|⟨o,h⟩)|h
 ·exact .inl (.inl (e _ _ h))
 ·exact .inl (.inr ⟨o,e _ _ h⟩)
 ·exact .inr h
end L2
namespace Kw
theorem gcd_step (g s:Int) (hg:0<=g) (hs:0 < s):Int.gcd s (g % s)=Int.gcd g s:=by
 obtain ⟨m,rfl⟩:=Int.eq_ofNat_of_zero_le hg
 obtain ⟨n,rfl⟩:=Int.eq_ofNat_of_zero_le (Int.le_of_lt hs)
 have e:((m:Int) % (n:Int))=((m % n:Nat):Int):=by omega
 rw [e]
 show Nat.gcd n (m % n)=Nat.gcd m n
 rw [Nat.gcd_comm m n,Nat.gcd_rec n m,Nat.gcd_comm]
theorem gcd_abs (a b:Int):Int.gcd (if a < 0 then -a else a) (if b < 0 then -b else b)=Int.gcd a b:=by
 have e:∀ x:Int,(if x < 0 then -x else x).natAbs=x.natAbs:=fun x=>by split<;>omega
 show Nat.gcd _ _=Nat.gcd _ _
 rw [e,e]
theorem gcd_end (g:Int) (hg:0<=g):((Int.gcd g 0:Nat):Int)=g:=by
 show ((Nat.gcd g.natAbs 0:Nat):Int)=g
 rw [Nat.gcd_zero_right]; omega
theorem abs_nn (a:Int):0<=(if a < 0 then -a else a):=by split<;>omega
noncomputable def dv (t b:Int):Int:=if b < 0 then -((Int.gcd t b:Nat):Int) else ((Int.gcd t b:Nat):Int)
noncomputable def fT (t b:Int):Int:=t.fdiv (dv t b)
noncomputable def fB (t b:Int):Int:=b.fdiv (dv t b)
theorem ZJ {t b:Int} (h:b≠0):dv t b≠0:=by
 have hp:0 < Int.gcd t b:=Int.gcd_pos_of_ne_zero_right _ h
 unfold dv; split<;>omega
theorem dv_le {t b:Int} (h:b≠0):(dv t b).natAbs<=b.natAbs:=by
 have hd:Int.gcd t b ∣ b.natAbs:=Nat.gcd_dvd_right _ _
 have:=Nat.le_of_dvd (by omega) hd
 unfold dv; split<;>omega
theorem dv_dvd_b (t b:Int):dv t b ∣ b:=by
 have h:((Int.gcd t b:Nat):Int) ∣ b:=Int.gcd_dvd_right ..
 unfold dv; split
 ·exact (Int.neg_dvd).mpr h
 ·exact h
theorem dv_dvd_t (t b:Int):dv t b ∣ t:=by
 have h:((Int.gcd t b:Nat):Int) ∣ t:=Int.gcd_dvd_left ..
 unfold dv; split
 ·exact (Int.neg_dvd).mpr h
 ·exact h
theorem fT_mul (t b:Int):dv t b * fT t b=t:=by
 unfold fT
 exact Int.mul_fdiv_cancel' (dv_dvd_t t b)
theorem fB_mul (t b:Int):dv t b * fB t b=b:=by
 unfold fB
 exact Int.mul_fdiv_cancel' (dv_dvd_b t b)
theorem fB_pos {t b:Int} (h:b≠0):0 < fB t b:=by
 have e:=fB_mul t b
 have hn:=ZJ (t:=t) h
 have hg:0<=((Int.gcd t b:Nat):Int):=Int.natCast_nonneg _
 rcases Int.lt_or_gt_of_ne h with hb|hb
 ·have hd:dv t b < 0:=by unfold dv at hn ⊢; rw [if_pos hb] at hn ⊢; omega
  refine Int.not_le.mp fun q=>?_
  have:=Int.mul_nonneg_of_nonpos_of_nonpos (Int.le_of_lt hd) q
  omega
 ·have hd:0 < dv t b:=by unfold dv at hn ⊢; rw [if_neg (by omega)] at hn ⊢; omega
  refine Int.not_le.mp fun q=>?_
  have:=Int.mul_nonpos_of_nonneg_of_nonpos (Int.le_of_lt hd) q
  omega
theorem jk {d x:Int} (h:d≠0):x.natAbs<=(d * x).natAbs:=by
 rw [Int.natAbs_mul]
 exact Nat.le_mul_of_pos_left _ (by omega)
theorem fT_le {t b:Int} (h:b≠0):(fT t b).natAbs<=t.natAbs:=by
 have q:=jk (x:=fT t b) (ZJ (t:=t) h)
 rw [fT_mul] at q; exact q
theorem fB_le {t b:Int} (h:b≠0):(fB t b).natAbs<=b.natAbs:=by
 have q:=jk (x:=fB t b) (ZJ (t:=t) h)
 rw [fB_mul] at q; exact q
end Kw
set_option maxHeartbeats 4000000
namespace Kw
open PySem PySem.Spec PyProof.Rows L2
noncomputable def But (b:Addr) (H H':Hp):Prop:=∀ a o,a≠b->H a=some o->H' a=some o
theorem But.refl {b:Addr} (H:Hp):But b H H:=fun _ _ _ h=>h
theorem But.trans {b:Addr} {H H1 H2:Hp} (x:But b H H1) (y:But b H1 H2):But b H H2:=fun a o n h=>y a o n (x a o n h)
theorem But.of {b:Addr} {H H':Hp} (x:Same H H'):But b H H':=fun a o _ h=>x a o h
theorem jt {H:Hp} {p:Addr} (h:H p=none) (o:HO):Same H (upd H p o):=fun b u q=>by rw [zY (zO q h)]; exact q
theorem but_upd {H:Hp} {p:Addr} (o:HO):But p H (upd H p o):=fun b u n q=>by rw [zY n]; exact q
theorem Same.tup {K:PySem.W.Frag} {H H':Hp} {a:Addr} {xs:List V} (e:Same H H') (h:SqT K H a xs):SqT K H' a xs:=by
 rcases h with (h|⟨o,h⟩)|h
 ·exact .inl (.inl (e _ _ h))
 ·exact .inl (.inr ⟨o,e _ _ h⟩)
 ·exact .inr h
theorem But.tup {K:PySem.W.Frag} {H H':Hp} {b a:Addr} {ys xs:List V} (e:But b H H') (hb:H b=some (.lst ys)) (h:SqT K H a xs):SqT K H' a xs:=by
 rcases h with (h|⟨o,h⟩)|h
 ·exact .inl (.inl (e _ _ (zq h hb (by intro z; cases z)) h))
 ·exact .inl (.inr ⟨o,e _ _ (zq h hb (by intro z; cases z)) h⟩)
 ·exact .inr h
theorem But.seq {K:PySem.W.Frag} {H H':Hp} {b a:Addr} {xs:List V} (e:But b H H') (n:a≠b) (h:SqL K H a xs):SqL K H' a xs:=by
 rcases h with (h|⟨o,h⟩)|h
 ·exact .inl (.inl (e _ _ n h))
 ·exact .inl (.inr ⟨o,e _ _ n h⟩)
 ·exact .inr h
section
variable {σ:L2.St} {H:Hp} {Q:VK} {v:V} {i j:Int} {K:PySem.W.Frag} {p:Addr} {xs:List V}
theorem Yt {R:V->Hp->Prop} {o:HO} (h:∀ p H',Same H H'->H' p=some o->R (.ref p) H'):∀ p,H p=none->R (.ref p) (upd H p o):=fun p hp=>h p _ (jt hp o) zk
end
theorem if_cases {c:Bool} {A B:Prop} (h1:c=true->A) (h2:c=false->B):if c=true then A else B:=by
 cases c
 ·exact iteF (h2 rfl)
 ·exact iteT (h1 rfl)
theorem zc {c:Prop} [Decidable c] {A B:Prop} (h1:c->A) (h2:¬ c->B):if decide c=true then A else B:=
 if_cases (fun e=>h1 (of_decide_eq_true e)) (fun e=>h2 (of_decide_eq_false e))
theorem jK {i j:Int} {A B:Prop} (h1:i=j->A) (h2:i≠j->B):if decide (V.int i=V.int j)=true then A else B:=
 zc (fun e=>h1 (V.int.inj e)) (fun e=>h2 fun z=>e (congrArg V.int z))
theorem if_neI {i j:Int} {A B:Prop} (h1:i≠j->A) (h2:i=j->B):if (!decide (V.int i=V.int j))=true then A else B:=by
 by_cases e:i=j
 ·rw [show decide (V.int i=V.int j)=true by simp [e]]; exact iteF (h2 e)
 ·rw [show decide (V.int i=V.int j)=false by simp [e]]; exact iteT (h1 e)
section
variable {X:Cx} {a b c:Expr} {ta tb tc:TE} {pos:Pos}
noncomputable def CDivB (_ j:Int):Prop:=j≠0/\j.natAbs.log2 < 9000
theorem zx:OpR X (binaryOp .FloorDiv) (rI CDivB fun i j=>.int (i.fdiv j)):=opI fun _ _ _ _ _ _ _ hc q=>floordiv_int hc.1 q (.inl (PyProof.noPylong_of_log2 hc.2))
theorem zb:OpR X (binaryOp .Mult) (rI IntMulOk fun i j=>.int (i * j)):=opI fun _ _ _ _ _ _ _ hc q=>mul_int q hc
theorem call_divmodB:jE X (.builtin "divmod") (fun xs H Q=>∃ i j,xs=[.int i,.int j]∧(0 < j∧j.natAbs.log2 < 9000)∧∀ p,H p=none→Q (.ref p) (upd H p (.tup [.int (i / j),.int (i % j)]))):=by
 intro pins s σ H xs us Q I r h
 obtain ⟨i,j,rfl,⟨h1,h2⟩,q⟩:=h
 obtain ⟨u,w',rfl,⟨t,rfl⟩,⟨t',rfl⟩⟩:=vals2 r
 refine divmod_int (by omega) ?_ (.inl (PyProof.noPylong_of_log2 h2))
 rw [Int.fdiv_eq_ediv_of_nonneg i (by omega),Int.fmod_eq_emod_of_nonneg i (by omega)]
 have hn:H s.heap.objs.size=none:=I.hok.fresh (Nat.le_refl _)
 refine ⟨.ref s.heap.objs.size,_,?_,rfl,q _ hn⟩
 refine I.laid (fun b o e=>Heap.get?_push_of_some _ e) (Nat.le_refl _) ⟨by simp only [List.length_cons,List.length_nil]; rw [sizeLine_eq]; decide,[.int (i / j) s.toks,.int (i % j) (s.toks+1)],.cons ⟨_,rfl⟩ (.cons ⟨_,rfl⟩ .nil),?_⟩
 exact ⟨_,Heap.get?_push_size s.heap rfl,rfl,0,rfl⟩
theorem zX {x:Str} {i:Int} {pos:Pos} (hg:Gl X x) (hm:∃ t,X.mg x=some (.int i t)) (hd:(x == ("__debug__" : Str))=false:=by decide) (hcd:(x == ("__classdict__" : Str))=false:=by decide):PE X (.Name x pos) (tC (.int i)):=by
 obtain ⟨t,hm⟩:=hm
 exact pe_glob hg hm ⟨t,rfl⟩ hd
theorem Yx {x:Str} {T:String} {pos:Pos} (hg:Gl X x) (hm:X.mg x=none) (hv:bootBuiltins x=some (.type T)) (hn:x≠"__name__":=by decide) (hd:(x == ("__debug__" : Str))=false:=by decide):PE X (.Name x pos) (tC (.ty T)):=
 pe_bltn hg hm hv (v:=.ty T) rfl hn hd
noncomputable def valC:V->Value
 |.ty T=>.type T
 |.ref C=>.ref C
 |_=>.none
noncomputable def IsI (K:PySem.W.Frag) (H:Hp) (x c:V) (b:Bool):Prop:=∃ t,TyOf K H x t/\PySem.W.kitOne K t (valC c)=some b
theorem jX:jE X (.builtin "isinstance") (fun xs H Q=>∃ x c b,xs=[x,c]∧((∃ T,c=.ty T)∨∃ C,c=.ref C)∧IsI X.K H x c b∧Q (.bl b) H):=by
 intro pins s σ H xs us Q I r h
 obtain ⟨x,c,b,rfl,hc,⟨t,ty,e⟩,q⟩:=h
 obtain ⟨u,w',rfl,rx,rc⟩:=vals2 r
 have ec:w'=valC c:=by
  rcases hc with ⟨T,rfl⟩|⟨C,rfl⟩
  ·exact rc
  ·exact rc
 subst ec
 exact isinst_ok I rx ty e fun tk=>⟨.bl b,H,I.tok _,rfl,q⟩
end
section
variable {M:Model} {A:Around} {E:Value->Shared->Prop} {s:Shared} {bs:Heap} {l up:List Env} {env:Env} {x L:Addr} {c:Value} {od:Option Addr} {a0 fl:Value} {Q:Unit->Shared->Prop}
end
structure FlyAt (H:Hp) (h0 h:Heap) (x:Addr) (C:Value) (od:Option Addr):Prop where
 new:h0.get? x=none
 free:H x=none
 tr:∃ oe vs a0 T oT ts,h.get? x=some oe/\oe.cls=C/\oe.dict=od/\oe.data=.fields vs/\vs[0]?=some a0/\vs[1]?=some (.ref T)/\h0.get? T=none/\H T=none/\T≠x/\h.get? T=some oT/\oT.data=.fields ts/\ts[3]?=some .none
noncomputable def CXE (P:Program) (w:World):CXT:=fun outer H s E e s'=>
 ∃ (x:Addr) (C:Value) (od:Option Addr) (H':Hp),e=.ref x/\s'.os=s.os/\AllBare s'.gens/\Un (frs outer) [] H H' s.heap s'.heap/\HOk P w H' s'.heap/\FlyAt H' s.heap s'.heap x C od/\E C od H'
theorem zF {P:Program} {w:World} {X:Cx}:jO (CXE P w) X E0:=fun _ _ _ _ _ _ _ h=>by
 obtain ⟨_,_,_,_,_,_,_,_,_,_,q⟩:=h
 exact q.elim
section
variable {X:Cx} {pins:List (Addr × Obj)} {σ:L2.St} {H:Hp} {s:Shared} {h':Heap} {ch:List Addr}
structure Flown (X:Cx) (H:Hp) (h h':Heap) (ch:List Addr):Prop where
 keep:∀ b o,h.get? b=some o->b∉frs X.stack->b∉ch->h'.get? b=some o
 slot:∀ b o,h.get? b=some o->b∈frs X.stack->∃ sl,h'.get? b=some {o with slots:=sl}
 young:∀ b∈ch,X.s₀.heap.get? b=none/\H b=none
end
section
variable {X:Cx} {x:Str} {C:Addr} {E:XK} {e:Expr} {es:List Expr} {t:TA} {np cpos pos:Pos}
end
structure Fu (K:PySem.W.Frag) (x:Str) (st:Stmt) (f:Addr) (fd:FuncData):Prop where
 ex:∃ (oc:Value) (od:Option Addr) (dV kV doc pm:Value) (an:Option Addr) (cdv ct:Value) (osl:Array (Option Value)),
  fd=PySem.W.fnOf x x (zK st) (zJ st) (zD st) dV kV doc pm an cdv ct/\K.lookup f=some ⟨oc,od,.func fd,osl⟩/\PySem.W.codeIn K cdv x=true
 kp:PySem.W.keepIn K (.ref f)=true
structure Df (K:PySem.W.Frag) (mg:Str->Option Value) (x:Str) (st:Stmt) (ps:List Str):Prop where
 ex:∃ f fd,Fu K x st f fd/\ZN K fd ps []/\mg x=some (.ref f)
structure Fn (P:Program) (w:World) (K:PySem.W.Frag) (mg:Str->Option Value) (base:Heap) (k:Nat) (x:Str) (ps:List Str) (sp:Sp):Prop where
 ex:∃ f fd,FnOk P w K mg base (CXE P w) k f fd ps sp/\mg x=some (.ref f)/\PySem.W.keepIn K (.ref f)=true/\ZN K fd ps []/\∃ oc od osl,K.lookup f=some ⟨oc,od,.func fd,osl⟩
section
variable {P:Program} {w:World} {K:PySem.W.Frag} {mg:Str->Option Value} {base:Heap} {x:Str} {st:Stmt} {N ps:List Str} {k:Nat} {sp:Sp}
theorem Df.ok0 (D:Df K mg x st ps) (S:FnScope N ps (zD st)) (len:∀ vs H Q E,sp vs H Q E->vs.length=ps.length)
  (hbody:∀ (f:Addr) (cdv:Value) (A:Around) (outer:List Env) (s:Shared) (H:Hp) (vs:List V) (Q:VK) (E:XK),Room k (A.deeper (envOfC x (zD st) s.heap.objs.size f cdv))->sp vs H Q E->
   ∃ t,PSs (cxOf (CXE P w) P w K mg base N x (zD st) f cdv A outer s H E).nox (zJ st) t/\t {nx:=fun _ H'=>Q .non H',rt:=Q} (YX N vs) H):Fn P w K mg base (k+1) x ps sp:=by
 obtain ⟨f,fd,⟨⟨oc,od,dV,kV,doc,pm,an,cdv,ct,osl,rfl,lk,hcd⟩,kp⟩,bd,hm⟩:=D.ex
 refine ⟨f,_,fn_of lk hcd S len fun A outer s H vs Q E hr hsp=>?_,hm,kp,bd,_,_,_,lk⟩
 obtain ⟨t,h,q⟩:=hbody f cdv A outer s H vs Q E hr hsp
 exact ⟨t,h.nox,q⟩
end
section
variable {X:Cx} {k k':Nat} {x:Str} {ps:List Str} {sp:Sp} {E:XK} {p pos:Pos} {e:Expr} {es:List Expr} {t:TA}
theorem zI (F:Fn X.prog X.w X.K X.mg X.base k x ps sp) (hk:k≤k') (hr:Room k' X.A) (hg:Gl X x) (hx:jO (CXE X.prog X.w) X E) (ha:PA X (e::es) t) (hdb:(x == ("__debug__" : Str))=false:=by decide)
  (he:starEach (e::es) X.env=(false,eval e X.env)::starEach es X.env:=by rfl) (hpl:(backTo pos (starEach es X.env)).any (·.1)=false:=by rfl):PE X (.Call (.Name x p) (e::es) [] pos) (tCall sp [] E t):=by
 obtain ⟨f,fd,G,hm,kp,bd,_⟩:=F.ex
 exact pe_call G (hr.mono hk) hg hm kp bd .nil hx ha hdb he hpl
end
noncomputable def Bd (n:Nat) (i:Int):Prop:=i.natAbs < 2 ^ n
theorem Bd.mono {m n:Nat} {i:Int} (h:Bd m i) (l:m<=n):Bd n i:=Nat.lt_of_lt_of_le h (Nat.pow_le_pow_right (by decide) l)
theorem Bd.of_le {n:Nat} {i j:Int} (h:Bd n j) (l:i.natAbs<=j.natAbs):Bd n i:=Nat.lt_of_le_of_lt l h
theorem Bd.bits {n:Nat} {i:Int} (h:Bd n i):Builtin.Int.intBits i<=n:=intBits_le_iff.mpr h
theorem YO {n:Nat} {i:Int} (h:Builtin.Int.intBits i<=n):Bd n i:=intBits_le_iff.mp h
theorem Bd.mul {m n:Nat} {i j:Int} (h:Bd m i) (g:Bd n j):Bd (m+n) (i * j):=YO (intBits_mul_le h.bits g.bits)
theorem Bd.add {m:Nat} {i j:Int} (h:Bd m i) (g:Bd m j):Bd (m+1) (i+j):=YO (Nat.le_trans (intBits_add_le h.bits g.bits) (by omega))
theorem Bd.sub {m:Nat} {i j:Int} (h:Bd m i) (g:Bd m j):Bd (m+1) (i - j):=YO (Nat.le_trans (intBits_sub_le h.bits g.bits) (by omega))
theorem Bd.ok {m n:Nat} {i j:Int} (h:Bd m i) (g:Bd n j) (l:m+n<=134217728):IntMulOk i j:=.of_le h.bits g.bits l
theorem Bd.small {i:Int} (h1:-(2 ^ 64) < i) (h2:i < 2 ^ 64):Bd 64 i:=YO (intBits_le_64 h1 h2)
theorem Bd.log {i:Int} (h:Bd 9000 i):i.natAbs.log2 < 9000:=by
 by_cases h0:i.natAbs=0
 ·rw [h0]; decide+kernel
 ·exact (Nat.log2_lt h0).mpr h
theorem Y6 {i j:Int} (h1:-(2 ^ 64) < j) (h2:j < 2 ^ 64):IntMulOk i j:=.of_right (intBits_le_64 h1 h2)
theorem j5 {i j:Int} (h1:-(2 ^ 64) < i) (h2:i < 2 ^ 64):IntMulOk i j:=.of_left (intBits_le_64 h1 h2)
theorem bd_fT {n:Nat} {t b:Int} (h:b≠0) (g:Bd n t):Bd n (fT t b):=g.of_le (fT_le h)
theorem bd_fB {n:Nat} {t b:Int} (h:b≠0) (g:Bd n b):Bd n (fB t b):=g.of_le (fB_le h)
theorem bd_dv {n:Nat} {t b:Int} (h:b≠0) (g:Bd n b):Bd n (dv t b):=g.of_le (dv_le h)
section
variable {K:PySem.W.Frag}
theorem yf:PySem.W.kitOne K (.type "int") (.type "int")=some true:=by with_unfolding_all rfl
theorem yR:PySem.W.kitOne K (.type "int") (.type "bool")=some false:=by with_unfolding_all rfl
theorem Zh:PySem.W.kitOne K (.type "tuple") (.type "tuple")=some true:=by with_unfolding_all rfl
end
noncomputable def Yf (K:PySem.W.Frag):Sp:=fun vs H Q _=>∃ x t b1 b2,vs=[x]∧TyOf K H x t∧PySem.W.kitOne K t (.type "int")=some b1∧PySem.W.kitOne K t (.type "bool")=some b2∧Q (.bl (b1 && !b2)) H
noncomputable def Frac (t b:Int) (H:Hp) (Q:VK):Prop:=∀ p H',Same H H'->H' p=some (.tup [.int (fT t b),.int (fB t b)])->Q (.ref p) H'
noncomputable def Scr (K:PySem.W.Frag) (H:Hp) (a:Addr):Prop:=∃ ns:List Int,SqL K H a (ns.map V.int)/\ns.length<=63/\∀ n∈ns,Bd 1048576 n
noncomputable def spCell (K:PySem.W.Frag):Sp:=fun vs H Q _=>∃ a k,vs=[.ref a,.int k]/\Scr K H a/\0<=k/\k<=1000/\∀ c,Bd 1048576 c->Q (.int c) H
noncomputable def spMix:Sp:=fun vs H Q _=>∃ c k,vs=[.int c,.int k]/\Bd 1048576 c/\0<=k/\k<=1000/\∀ n,Q (.int n) H
noncomputable def spBox (K:PySem.W.Frag):Sp:=fun vs H Q _=>∃ a k,vs=[.ref a,.int k]/\Scr K H a/\0<=k/\k<=1000/\∀ p n H',H p=none->Same H H'->H' p=some (.lst [.int n])->Q (.ref p) H'
noncomputable def spTake:Sp:=fun vs H Q _=>∃ b m n,vs=[.ref b,.int m]/\H b=some (.lst [.int n])/\0 < m/\Bd 9000 m/\∀ d n' H',0<=d->d < m->But b H H'->H' b=some (.lst [.int n'])->Q (.int d) H'
noncomputable def spFit:Sp:=fun vs H Q _=>∃ a b:Int,vs=[.int a,.int b]/\b≠0/\Bd 9000 b/\Frac a b H Q
section
variable {X:Cx} {pins:List (Addr × Obj)} {σ:L2.St} {H:Hp} {s:Shared} {h':Heap} {ch:List Addr} {x:Addr}
theorem Inv.adopt (hcl:∀ y c,X.env.cells.lookup y=some c->c≠x) {o:HO} (I:Inv X pins σ H s) (n0:X.s₀.heap.get? x=none) (hx:H x=none) (hL:x≠X.env.locals) (np:∀ p∈X.pn++pins,p.1≠x) (ok:zo X.prog X.w (upd H x o) s.heap x o) :
  Inv X pins σ (upd H x o) s:=by
 have nx:∀ b,H b≠none->b≠x:=fun b hb z=>hb (by rw [z]; exact hx)
 refine ⟨I.ok,I.os,I.bare,⟨I.base.keep,I.base.slot,fun b ob q n hb=>?_,I.base.there,fun b xs q=>?_,fun b ob u q=>?_,fun b ps q=>?_⟩,I.loc,I.cell,?_,fun y c z=>?_,fun p hp=>?_,fun a u e=>?_,I.len⟩
 ·rw [zY fun z=>by rw [z,n0] at q; cases q]
  exact I.base.free b ob q n hb
 ·have z:=I.base.tups b xs q
  rw [zY (nx b (by rw [z]; exact fun q=>nomatch q))]
  exact z
 ·have z:=I.base.frzs b ob u q
  rw [zY (nx b (by rw [z]; exact fun q=>nomatch q))]
  exact z
 ·obtain ⟨more,z⟩:=I.base.tbls b ps q
  exact ⟨more,by rw [zY (nx b (by rw [z]; exact fun q=>nomatch q))]; exact z⟩
 ·rw [zY (Ne.symm hL)]
  exact I.free
 ·rw [zY (hcl y c z)]
  exact I.freeC y c z
 ·obtain ⟨a,b,c,d,e⟩:=I.pin p hp
  exact ⟨a,by rw [zY (np p hp)]; exact b,c,d,e⟩
 ·by_cases z:a=x
  ·subst z
   rw [zk] at e
   cases e
   exact ok
  ·rw [zY z] at e
   refine (I.hok a u e).stay (fun b v hb q=>q) (fun b q=>?_) fun b xs q=>?_
   ·rw [zY (nx b (by rw [q]; exact fun q=>nomatch q))]
    exact q
   ·rw [zY (nx b (by rw [q]; exact fun q=>nomatch q))]
    exact q
end
section
variable {X:Cx} {pins:List (Addr × Obj)} {σ:L2.St} {H:Hp} {s:Shared}
end
section
variable {X:Cx} {k k' i j:Nat} {fx y n xK:Str} {ps:List Str} {sp:Sp} {CK:Addr} {e:Expr} {es:List Expr} {t:TA} {ts:TS} {b₀:Stmt} {suite:List Stmt} {np cpos yp apos kp hpos pos:Pos}
end
section
variable {X:Cx}
end
section
variable {X:Cx} {pins:List (Addr × Obj)} {σ:L2.St} {H:Hp} {s:Shared} {h':Heap} {ch:List Addr}
theorem Inv.turnedL {t':Nat} (I:Inv X pins σ H s) (k:∀ b o,b∉ch->s.heap.get? b=some o->h'.get? b=some o) (hf:∀ b∈ch,FpOk X pins H b):Inv X pins σ H {s with heap:=h',toks:=t'}:=by
 have nit:∀ b u,H b=some u->b∉ch:=fun b u e z=>by rw [(hf b z).1] at e; cases e
 refine I.step (g':=s.gens) (d':=s.drawn) (ch:=ch) (fun b hb=>?_) (fun b o _ _ hc e _=>k b o hc e) (fun b o _ _ hc e _=>⟨o.slots,k b o hc e⟩) (fun _ _ _ _ n=>n) (fun b o hc e=>⟨o,k b o hc e⟩) (fun _ _ e=>e) (fun _ _ _ e=>e)
  (fun b ps e=>⟨#[],by rw [e]; simp⟩) (fun m hm=>?_) (fun b u e=>?_) I.bare
 ·obtain ⟨_,f1,_,f3,f4,f5⟩:=hf b hb
  exact ⟨f3,f1,f4,f5⟩
 ·obtain ⟨o,es,ep,ho,r⟩:=hm
  exact ⟨o,es,ep,k _ o (fun z=>(hf _ z).2.1 rfl) ho,r⟩
 ·refine (I.hok b u e).stay (fun c v hc q=>k c v ?_ q) (fun _ q=>q) fun _ _ q=>q
  rcases hc with z|z
  ·rw [z]; exact nit b u e
  ·exact nit c _ z
end
section
variable {X:Cx}
theorem all_range_eq:∀ (ns ms:List Int),((List.range (min ns.length ms.length)).all (fun j=>decide (ns[j]?=ms[j]?)) && ns.length == ms.length)=decide (ns=ms):=by
 intro ns ms
 by_cases e:ns=ms
 ·subst e
  rw [decide_eq_true rfl,Bool.and_eq_true]
  exact ⟨List.all_eq_true.mpr fun j _=>decide_eq_true rfl,beq_self_eq_true _⟩
 ·rw [decide_eq_false e,Bool.and_eq_false_iff]
  by_cases l:ns.length=ms.length
  ·left
   refine Bool.eq_false_iff.mpr fun h=>e (List.ext_getElem? fun i=>?_)
   by_cases hi:i < ns.length
   ·exact of_decide_eq_true (List.all_eq_true.mp h i (List.mem_range.mpr (by omega)))
   ·rw [List.getElem?_eq_none (by omega),List.getElem?_eq_none (by omega)]
  ·right
   exact beq_eq_false_iff_ne.mpr l
theorem int_item {ns:List Int} {its:List Value} (r:Vals (ns.map V.int) its) {j:Nat} (h:j < its.toArray.size):∃ n t,ns[j]?=some n/\its.toArray[j]=Value.int n t:=by
 have hl:=r.length
 rw [List.length_map] at hl
 have hj:j < ns.length:=by simp at h; omega
 have e:(ns.map V.int)[j]?=some (V.int ns[j]):=by rw [List.getElem?_map,List.getElem?_eq_getElem hj]; rfl
 obtain ⟨u,hu,t,rfl⟩:=r.get e
 refine ⟨ns[j],t,List.getElem?_eq_getElem hj,?_⟩
 have hj':j < its.length:=by omega
 rw [List.getElem?_eq_getElem hj'] at hu
 simpa using Option.some.inj hu
theorem op_eqTI (hu:X.A.units < cLine):OpR X (compareOp .Eq) (fun x y H Q=>∃ (a b:Addr) (ns ms:List Int),x=.ref a/\y=.ref b/\SqT X.K H a (ns.map V.int)/\SqT X.K H b (ms.map V.int)/\Q (.bl (decide (ns=ms))) H):=by
 intro pins s σ H x y v u Q I rx ry h
 obtain ⟨a,b,ns,ms,rfl,rfl,ha,hb,q⟩:=h
 cases (show v=Value.ref a from rx)
 cases (show u=Value.ref b from ry)
 obtain ⟨its,r,pl,hz⟩:=I.tuple ha
 obtain ⟨jts,r',pl',hz'⟩:=I.tuple hb
 refine SeqAt.eq_tupleAt (e:=fun j=>decide (ns[j]?=ms[j]?)) pl pl' hu (fun j h1 h2=>?_) ?_
 ·obtain ⟨n,t,e1,e2⟩:=int_item r h1
  obtain ⟨m,t',e3,e4⟩:=int_item r' h2
  rw [e2,e4,e1,e3]
  have z:decide (some n=some m)=(n == m):=by
   by_cases c:n=m
   ·subst c; simp
   ·simp [c]
  rw [z]
  exact SeqAt.EqAt.int_int n t m t'
 ·have l1:its.toArray.size=ns.length:=by rw [List.size_toArray,<- r.length,List.length_map]
  have l2:jts.toArray.size=ms.length:=by rw [List.size_toArray,<- r'.length,List.length_map]
  rw [l1,l2,all_range_eq]
  exact ⟨.bl (decide (ns=ms)),H,I,rfl,q⟩
end
theorem YN:∀ (ns:List Int) (n:Int),n∈ns->Builtin.Int.intBits n<=PySem.W.WData.weightAll (ns.map PySem.W.WData.int)
 |[],_,h=>nomatch h
 |m::r,n,h=>by
  have e:PySem.W.WData.weightAll ((m::r).map PySem.W.WData.int)=Builtin.Int.intBits m+1+PySem.W.WData.weightAll (r.map PySem.W.WData.int):=rfl
  rw [e]
  rcases List.mem_cons.mp h with z|z
  ·subst z; omega
  ·have:=YN r n z
   omega
theorem script_bits {ns:List Int} (h:PySem.W.WData.layableAll [PySem.W.WData.list (ns.map PySem.W.WData.int)]=true):∀ n∈ns,Bd 1048576 n:=fun n hn=>by
 have h1:PySem.W.WData.layable (PySem.W.WData.list (ns.map PySem.W.WData.int))=true:=by
  unfold PySem.W.WData.layableAll at h
  simpa using h
 unfold PySem.W.WData.layable at h1
 rw [Bool.and_eq_true] at h1
 have h2:PySem.W.WData.weightAll (ns.map PySem.W.WData.int)<=2 ^ 20:=of_decide_eq_true h1.2
 exact YO (Nat.le_trans (YN ns n hn) h2)
noncomputable def Jv (K:PySem.W.Frag):Sp:=fun vs H Q _=>∃ a,vs=[.ref a]/\Scr K H a/\∀ H',Q (.bl true) H'
theorem walk_kw {pn:Str} {l:PySem.W.OpenLaw} {k:Nat} {q:Program} {loose:List Str} {XP:(Str->Option Value)->Heap->Prop} {YP:World->Heap->Prop} {d:DefRec} {K:Params->PySem.W.Frag}
  (hn:l.most=some 63) (hdf:d.params.defaults=[]) (hr:Room k callerA) (hY:∀ (w:World) (h:Heap),YP w h→(K w.params).In h) (hnm:d.name="law")
  (F:∀ (w:World) (mg:Str→Option Value) (h:Heap),(K w.params).In h→h.Ns mainGlobals mg→∃ fa,mg "law"=some (.ref fa)∧∃ fd:FuncData,(∀ (s:Shared) (u:Value),BindsTo s fd ⟨[u],[]⟩ [(pn,u)])∧
   ∀ base:Heap,(K w.params).In base->base.Ns mainGlobals mg->FnOk l.prog w (K w.params) mg base (CXE l.prog w) k fa fd [pn] (Jv (K w.params))) :
  PySem.W.WalkO q loose XP YP l.row.toRowW d [] (fun f vs=>PySem.call f vs):=by
 intro w s₀ s₁ mg mb G Y fa o pm cd doc dV kV ho hd hcd hD hmg hg args vals as hpre hlay hrd hwl hlo
 obtain ⟨a,vs,ns,e1,e2,hobj,hints,hlen⟩:=Att.script_of hn hpre hwl
 subst e1 e2
 have KX:=hY w _ Y
 obtain ⟨fa',hfa,fd,hb,hF⟩:=F w mg _ KX G.T.g
 rw [hnm,hfa] at hmg
 cases hmg
 have core:=law_call KX G.T.g G.T.b G.T.builtins G.T.nolimit hg hobj hints (Nat.le_trans hlen (by decide)) hr hF hb (fun H hO hS=>⟨a,rfl,⟨ns,hS,hlen,script_bits hlay⟩,fun _=>rfl⟩) (fun H e s' z=>by
  obtain ⟨_,_,_,_,_,_,_,_,_,_,z⟩:=z
  exact z)
 refine PySem.W.enter_call (codeAny_mono core fun r s' hq=>?_)
 obtain ⟨rfl,h2,h3,h4⟩:=hq
 exact ⟨.inl ⟨.bool true,.bool true,[],rfl,fun _=>rfl,.bool true,Att.post_true l _,fun _=>⟨List.Pairwise.nil,fun _ hm=>(nomatch hm)⟩⟩,h2,h3,h4⟩
theorem za {K:PySem.W.Frag} {h:Heap} {mg:Str->Option Value} {x:Str} {st:Stmt} {ps:List Str} {f:Addr} {od an:Option Addr} {sl:Array (Option Value)} {oc kV dc pm cd ct:Value} (X:K.In h) (G:h.Ns mainGlobals mg)
  (a:PySem.W.nsIn K mainGlobals x=some (some (.ref f))) (l:K.lookup f=some ⟨oc,od,.func (PySem.W.fnOf x x (zK st) (zJ st) (zD st) .none kV dc pm an cd ct),sl⟩) (c:PySem.W.codeIn K cd x=true) (k:PySem.W.keepIn K (.ref f)=true)
  (b:∀ us:List Value,us.length=ps.length->bindArgs (PySem.W.fnOf x x (zK st) (zJ st) (zD st) .none kV dc pm an cd ct) ⟨us,[]⟩=pure (ps.zip us)):Df K mg x st ps:=
 ⟨f,_,⟨⟨oc,od,.none,kV,dc,pm,an,cd,ct,sl,rfl,l,c⟩,k⟩,.all b,PySem.W.mg_of X G a⟩
theorem df_mkD {K:PySem.W.Frag} {h:Heap} {mg:Str->Option Value} {x:Str} {st:Stmt} {ps:List Str} {f D:Addr} {od an oD:Option Addr} {sl slD:Array (Option Value)} {oc kV dc pm cd ct cD:Value} {items:Array Value} {n:Nat} (X:K.In h) (G:h.Ns mainGlobals mg)
  (a:PySem.W.nsIn K mainGlobals x=some (some (.ref f))) (l:K.lookup f=some ⟨oc,od,.func (PySem.W.fnOf x x (zK st) (zJ st) (zD st) (.ref D) kV dc pm an cd ct),sl⟩) (c:PySem.W.codeIn K cd x=true) (k:PySem.W.keepIn K (.ref f)=true)
  (lD:K.lookup D=some ⟨cD,oD,.seq items n,slD⟩)
  (b:∀ us:List Value,us.length=ps.length->∃ kk:Option (Array Value)->Sem (List (Str × Value)),bindArgs (PySem.W.fnOf x x (zK st) (zJ st) (zD st) (.ref D) kV dc pm an cd ct) ⟨us,[]⟩=seqItems? (.ref D) >>= kk/\kk (some items)=pure (ps.zip us)):Df K mg x st ps:=
 ⟨f,_,⟨⟨oc,od,.ref D,kV,dc,pm,an,cd,ct,sl,rfl,l,c⟩,k⟩,fun s us hk hl=>by
  rw [List.append_nil] at hl ⊢
  obtain ⟨kk,h1,h2⟩:=b us hl
  exact BindsTo.of_defaults rfl (hk _ _ lD) rfl h1 h2,PySem.W.mg_of X G a⟩
theorem law_end {pn:Str} {P:Program} {w:World} {K:PySem.W.Frag} {h:Heap} {mg:Str->Option Value} {st:Stmt} {f:Addr} {od an:Option Addr} {sl:Array (Option Value)} {oc kV dc pm cd ct:Value} {k:Nat} (X:K.In h) (G:h.Ns mainGlobals mg)
  (a:PySem.W.nsIn K mainGlobals "law"=some (some (.ref f))) (l:K.lookup f=some ⟨oc,od,.func (PySem.W.fnOf "law" "law" (zK st) (zJ st) (zD st) .none kV dc pm an cd ct),sl⟩)
  (b:∀ u:Value,bindArgs (PySem.W.fnOf "law" "law" (zK st) (zJ st) (zD st) .none kV dc pm an cd ct) ⟨[u],[]⟩=pure [(pn,u)])
  (F:∀ base:Heap,K.In base→base.Ns mainGlobals mg→Fn P w K mg base k "law" [pn] (Jv K)) :
  ∃ fa,mg "law"=some (.ref fa)∧∃ fd:FuncData,(∀ (s:Shared) (u:Value),BindsTo s fd ⟨[u],[]⟩ [(pn,u)])∧∀ base:Heap,K.In base→base.Ns mainGlobals mg→FnOk P w K mg base (CXE P w) k fa fd [pn] (Jv K):=by
 have hm:=PySem.W.mg_of X G a
 refine ⟨f,hm,_,fun s u=>.of_eq (b u),fun base kb nb=>?_⟩
 obtain ⟨f',fd',G',hm',_,_,_,_,_,lk⟩:=(F base kb nb).ex
 rw [hm] at hm'
 cases hm'
 rw [l] at lk
 cases lk
 exact G'
end Kw
namespace Kw
theorem q_of {n d:Int} (hd:0 < d) (hg:Int.gcd n d=1):(Rat.divInt n d).num=n/\(((Rat.divInt n d).den:Nat):Int)=d:=by
 rw [Rat.num_divInt,Rat.den_divInt,Int.gcd_comm,hg,Int.sign_eq_one_of_pos hd,if_neg (by omega)]
 constructor
 ·simp
 ·simp; omega
theorem q_is {q:Rat} {n d:Int} (hd:0 < d) (hg:Int.gcd n d=1) (e:q=Rat.divInt n d):n=q.num/\d=((q.den:Nat):Int):=by
 subst e
 obtain ⟨a,b⟩:=q_of hd hg
 exact ⟨a.symm,b.symm⟩
theorem gcd_fT_fB {t b:Int} (h:b≠0):Int.gcd (fT t b) (fB t b)=1:=by
 have hp:0 < Int.gcd t b:=Int.gcd_pos_of_ne_zero_right _ h
 have e1:=fT_mul t b
 have e2:=fB_mul t b
 have e:Int.gcd (dv t b * fT t b) (dv t b * fB t b)=(dv t b).natAbs * Int.gcd (fT t b) (fB t b):=Int.gcd_mul_left ..
 rw [e1,e2] at e
 have hn:(dv t b).natAbs=Int.gcd t b:=by unfold dv; split<;>simp
 rw [hn] at e
 exact Nat.eq_of_mul_eq_mul_left hp (by omega)
theorem q_fit {t b:Int} (h:b≠0):fT t b=(Rat.divInt t b).num/\fB t b=(((Rat.divInt t b).den:Nat):Int):=by
 refine q_is (fB_pos h) (gcd_fT_fB h) ?_
 have e:=Rat.divInt_mul_left (n:=fT t b) (d:=fB t b) (ZJ (t:=t) h)
 rw [fT_mul,fB_mul] at e
 exact e
theorem q_red (q:Rat):Int.gcd q.num ((q.den:Nat):Int)=1:=by
 have:=q.reduced
 simpa [Int.gcd,Nat.Coprime] using this
theorem Yd (q:Rat):0 < ((q.den:Nat):Int):=by
 have:=q.den_nz
 omega
theorem q_add (x y:Rat):Rat.divInt (x.num * y.den+y.num * x.den) (x.den * y.den)=x+y:=by
 conv=>rhs; rw [<- Rat.num_divInt_den x,<- Rat.num_divInt_den y]
 rw [Rat.divInt_add_divInt _ _ (by have:=Yd x; omega) (by have:=Yd y; omega)]
theorem q_sub (x y:Rat):Rat.divInt (x.num * y.den - y.num * x.den) (x.den * y.den)=x - y:=by
 conv=>rhs; rw [<- Rat.num_divInt_den x,<- Rat.num_divInt_den y]
 rw [Rat.divInt_sub_divInt _ _ (by have:=Yd x; omega) (by have:=Yd y; omega)]
theorem q_mul (x y:Rat):Rat.divInt (x.num * y.num) (x.den * y.den)=x * y:=by
 conv=>rhs; rw [<- Rat.num_divInt_den x,<- Rat.num_divInt_den y]
 rw [Rat.divInt_mul_divInt]
theorem q_inv (y:Rat):Rat.divInt y.den y.num=y⁻¹:=by
 conv=>rhs; rw [<- Rat.num_divInt_den y]
 rw [Rat.inv_divInt]
theorem q_div (x y:Rat):Rat.divInt (x.num * y.den) (x.den * y.num)=x / y:=by
 rw [Rat.div_def,<- q_inv]
 conv=>rhs; rw [<- Rat.num_divInt_den x]
 rw [Rat.divInt_mul_divInt]
theorem q_neg (y:Rat):(-y).num=-y.num/\(-y).den=y.den:=⟨rfl,rfl⟩
theorem q_lt (x y:Rat):x < y↔x.num * y.den < y.num * x.den:=Rat.lt_iff x y
theorem yn {x g:Int} (h:g ∣ x):g * x.fdiv g=x:=Int.mul_fdiv_cancel' h
theorem Ye {x g:Int} (h:g ∣ x):x.fdiv g ∣ x:=⟨g,by rw [Int.mul_comm]; exact (yn h).symm⟩
theorem j6 {a b b':Int} (h:Int.gcd a b=1) (d:b' ∣ b):Int.gcd a b'=1:=by
 have h1:Int.gcd a b' ∣ Int.gcd a b:=Int.dvd_gcd (Int.gcd_dvd_left ..) (Int.dvd_trans (Int.gcd_dvd_right ..) d)
 rw [h] at h1
 exact Nat.dvd_one.mp h1
theorem j0 {a b c:Int} (h:Int.gcd a b=1) (k:Int.gcd a c=1):Int.gcd a (b * c)=1:=by
 show Nat.gcd a.natAbs (b * c).natAbs=1
 rw [Int.natAbs_mul]
 exact Nat.Coprime.mul_right h k
theorem cop_add {a b c:Int} (h:Int.gcd a b=1):Int.gcd (a+c * b) b=1:=by
 rw [Int.gcd_add_mul_right_left]; exact h
theorem YE {a b:Int} (h:b≠0) (g:Int) (hg:g=((Int.gcd a b:Nat):Int)):Int.gcd (a.fdiv g) (b.fdiv g)=1:=by
 have hp:0 < Int.gcd a b:=Int.gcd_pos_of_ne_zero_right _ h
 have e1:g * a.fdiv g=a:=yn (by rw [hg]; exact Int.gcd_dvd_left ..)
 have e2:g * b.fdiv g=b:=yn (by rw [hg]; exact Int.gcd_dvd_right ..)
 have e:Int.gcd (g * a.fdiv g) (g * b.fdiv g)=g.natAbs * Int.gcd (a.fdiv g) (b.fdiv g):=Int.gcd_mul_left ..
 rw [e1,e2] at e
 have hn:g.natAbs=Int.gcd a b:=by rw [hg]; simp
 rw [hn] at e
 exact Nat.eq_of_mul_eq_mul_left hp (by omega)
theorem ZZ {b g:Int} (hb:0 < b) (hg:0 < g) (d:g ∣ b):0 < b.fdiv g:=by
 have e:=yn d
 refine Int.not_le.mp fun q=>?_
 have:=Int.mul_nonpos_of_nonneg_of_nonpos (Int.le_of_lt hg) q
 omega
theorem gpos {a b:Int} (h:b≠0):0 < ((Int.gcd a b:Nat):Int):=by
 have:=Int.gcd_pos_of_ne_zero_right a h
 omega
theorem q_plus (x y:Rat) (g t h:Int) (hg:g=((Int.gcd ((x.den:Nat):Int) ((y.den:Nat):Int):Nat):Int)) (ht:t=x.num * ((y.den:Nat):Int).fdiv g+y.num * ((x.den:Nat):Int).fdiv g) (hh:h=((Int.gcd t g:Nat):Int)) :
  t.fdiv h=(x+y).num/\((x.den:Nat):Int).fdiv g * ((y.den:Nat):Int).fdiv h=(((x+y).den:Nat):Int):=by
 have hb:=Yd x
 have hd:=Yd y
 have rx:=q_red x
 have ry:=q_red y
 have ea:=q_add x y
 revert hb hd rx ry hg ht ea
 generalize x.num=a
 generalize y.num=c
 generalize ((x.den:Nat):Int)=b
 generalize ((y.den:Nat):Int)=d
 intro hg ht hb hd rx ry ea
 have g0:0 < g:=by rw [hg]; exact gpos (by omega)
 have h0:0 < h:=by rw [hh]; exact gpos (by omega)
 have gb:g ∣ b:=by rw [hg]; exact Int.gcd_dvd_left ..
 have gd:g ∣ d:=by rw [hg]; exact Int.gcd_dvd_right ..
 have hht:h ∣ t:=by rw [hh]; exact Int.gcd_dvd_left ..
 have hhg:h ∣ g:=by rw [hh]; exact Int.gcd_dvd_right ..
 have eb:=yn gb
 have ed:=yn gd
 have et:=yn hht
 have eg:=yn hhg
 have b0:=ZZ hb g0 gb
 have d0:=ZZ hd g0 gd
 have k0:=ZZ g0 h0 hhg
 have cbd:Int.gcd (b.fdiv g) (d.fdiv g)=1:=YE (by omega) g hg
 have ctg:Int.gcd (t.fdiv h) (g.fdiv h)=1:=YE (by omega) h hh
 have dh:d.fdiv h=g.fdiv h * d.fdiv g:=by
  have e:=yn (Int.dvd_trans hhg gd)
  have e2:h * (g.fdiv h * d.fdiv g)=d:=by rw [<- Int.mul_assoc,eg,ed]
  exact Int.eq_of_mul_eq_mul_left (by omega) (e.trans e2.symm)
 have ct1:Int.gcd t (b.fdiv g)=1:=by
  rw [ht]
  refine cop_add ?_
  rw [Int.gcd_comm]
  exact j0 (by rw [Int.gcd_comm]; exact j6 rx ⟨g,by rw [Int.mul_comm]; exact eb.symm⟩) cbd
 have ct2:Int.gcd t (d.fdiv g)=1:=by
  rw [ht,Int.add_comm]
  refine cop_add ?_
  rw [Int.gcd_comm]
  exact j0 (by rw [Int.gcd_comm]; exact j6 ry ⟨g,by rw [Int.mul_comm]; exact ed.symm⟩) (by rw [Int.gcd_comm]; exact cbd)
 have sub:∀ z,Int.gcd t z=1->Int.gcd (t.fdiv h) z=1:=fun z hz=>by
  rw [Int.gcd_comm] at hz ⊢
  exact j6 hz ⟨h,by rw [Int.mul_comm]; exact et.symm⟩
 rw [dh]
 refine q_is ?_ ?_ ?_
 ·exact Int.mul_pos b0 (Int.mul_pos k0 d0)
 ·exact j0 (sub _ ct1) (j0 ctg (sub _ ct2))
 ·rw [<- ea]
  have z:=Rat.divInt_mul_left (n:=t.fdiv h) (d:=b.fdiv g * (g.fdiv h * d.fdiv g)) (a:=g * h) (by have:=Int.mul_pos g0 h0; omega)
  rw [<- z]
  congr 1
  ·rw [Int.mul_assoc,et,ht,Int.mul_add]
   congr 1
   ·rw [<- Int.mul_assoc,Int.mul_comm g,Int.mul_assoc,ed]
   ·rw [<- Int.mul_assoc,Int.mul_comm g,Int.mul_assoc,eb]
  ·rw [show g * h * (b.fdiv g * (g.fdiv h * d.fdiv g))=(g * b.fdiv g) * ((h * g.fdiv h) * d.fdiv g) by grind,eb,eg,ed]
theorem q_times (x y:Rat) (f s:Int) (hf:f=((Int.gcd x.num ((y.den:Nat):Int):Nat):Int)) (hs:s=((Int.gcd y.num ((x.den:Nat):Int):Nat):Int)) :
  x.num.fdiv f * y.num.fdiv s=(x * y).num/\((x.den:Nat):Int).fdiv s * ((y.den:Nat):Int).fdiv f=(((x * y).den:Nat):Int):=by
 have hb:=Yd x
 have hd:=Yd y
 have rx:=q_red x
 have ry:=q_red y
 have ea:=q_mul x y
 revert hb hd rx ry hf hs ea
 generalize x.num=a
 generalize y.num=c
 generalize ((x.den:Nat):Int)=b
 generalize ((y.den:Nat):Int)=d
 intro hf hs hb hd rx ry ea
 have f0:0 < f:=by rw [hf]; exact gpos (by omega)
 have s0:0 < s:=by rw [hs]; exact gpos (by omega)
 have fa:f ∣ a:=by rw [hf]; exact Int.gcd_dvd_left ..
 have fd:f ∣ d:=by rw [hf]; exact Int.gcd_dvd_right ..
 have sc:s ∣ c:=by rw [hs]; exact Int.gcd_dvd_left ..
 have sb:s ∣ b:=by rw [hs]; exact Int.gcd_dvd_right ..
 have ea':=yn fa
 have ed:=yn fd
 have ec:=yn sc
 have eb:=yn sb
 have c1:Int.gcd (a.fdiv f) (d.fdiv f)=1:=YE (by omega) f hf
 have c2:Int.gcd (c.fdiv s) (b.fdiv s)=1:=YE (by omega) s hs
 have c3:Int.gcd (a.fdiv f) (b.fdiv s)=1:=by
  refine j6 (b:=b) ?_ (Ye sb)
  rw [Int.gcd_comm] at rx ⊢
  exact j6 rx (Ye fa)
 have c4:Int.gcd (c.fdiv s) (d.fdiv f)=1:=by
  refine j6 (b:=d) ?_ (Ye fd)
  rw [Int.gcd_comm] at ry ⊢
  exact j6 ry (Ye sc)
 refine q_is (Int.mul_pos (ZZ hb s0 sb) (ZZ hd f0 fd)) ?_ ?_
 ·rw [Int.gcd_comm]
  refine j0 ?_ ?_
  ·rw [Int.gcd_comm]; exact j0 c3 c1
  ·rw [Int.gcd_comm]; exact j0 c2 c4
 ·rw [<- ea]
  have z:=Rat.divInt_mul_left (n:=a.fdiv f * c.fdiv s) (d:=b.fdiv s * d.fdiv f) (a:=f * s) (by have:=Int.mul_pos f0 s0; omega)
  rw [<- z]
  congr 1
  ·rw [show f * s * (a.fdiv f * c.fdiv s)=(f * a.fdiv f) * (s * c.fdiv s) by grind,ea',ec]
  ·rw [show f * s * (b.fdiv s * d.fdiv f)=(s * b.fdiv s) * (f * d.fdiv f) by grind,eb,ed]
theorem q_dv (a b:Int):Rat.divInt a b=(a:Rat) / (b:Rat):=by
 have h:=q_div (a:Rat) (b:Rat)
 have e1:(a:Rat).num * (((b:Rat).den:Nat):Int)=a:=by show a * 1=a; omega
 have e2:(((a:Rat).den:Nat):Int) * (b:Rat).num=b:=by show 1 * b=b; omega
 rw [e1,e2] at h
 exact h
theorem q_intne {i:Int} (h:i≠0):(i:Rat)≠0:=fun e=>h (by have:=congrArg Rat.num e; exact this)
theorem q_wpos {i:Int} (h:1<=i):(0:Rat) < (i:Rat):=by
 have:((0:Int):Rat) < (i:Rat):=Rat.intCast_lt_intCast.mpr (by omega)
 exact this
theorem Yh {a b:Int} (ha:0 < a) (hb:0 < b):(0:Rat) < Rat.divInt a b:=by
 rw [q_dv]
 rw [Rat.div_def]
 exact Rat.mul_pos (q_wpos (by omega)) (Rat.inv_pos.mpr (q_wpos (by omega)))
noncomputable def mixQ (u v:Rat) (m w:Int):Rat:=u * Rat.divInt (m - w) (m+w)+v * Rat.divInt (2 * w) (m+w)
theorem YL (u v:Rat) (m w:Int):mixQ u v m w=u * (((m:Rat) - w) / (m+w))+v * ((2 * w) / (m+w)):=by
 unfold mixQ
 rw [q_dv,q_dv]
 simp only [Rat.intCast_add,Rat.intCast_sub,Rat.intCast_mul]
 rfl
theorem q_le0 (x:Rat):x.num<=0↔¬ 0 < x:=by
 have h:=q_lt 0 x
 have e:(0:Rat).num * (x.den:Int) < x.num * ((0:Rat).den:Int)↔0 < x.num:=by
  show 0 * (x.den:Int) < x.num * 1↔0 < x.num
  omega
 rw [h,e]
 omega
end Kw
namespace Kw
open PySem PySem.Spec PyProof.Rows L2 PySem.Builtin PySem.Builtin.ObjectAttr PySem.Builtin.Getset_descriptor
section
variable {prog:Program} {w:World} {A:Around} {E:Value->Shared->Prop} {s:Shared} {K:PySem.W.Frag} {x C:Addr}
end
section
variable {X:Cx}
end
end Kw
namespace Kw
open PySem PySem.Spec PyProof.Rows L2
mutual
inductive Dp (K:PySem.W.Frag) (H:Hp):V->PyData->Prop
 |non:Dp K H .non .none
 |bl (b:Bool):Dp K H (.bl b) (.bool b)
 |int (i:Int):Dp K H (.int i) (.int i)
 |str (x:Str):Dp K H (.str x) (.str x)
 |lst {p:Addr} {xs:List V} {ds:List PyData}:SqL K H p xs->Dps K H xs ds->Dp K H (.ref p) (.list ds)
 |tup {p:Addr} {xs:List V} {ds:List PyData}:SqT K H p xs->Dps K H xs ds->Dp K H (.ref p) (.tuple ds)
inductive Dps (K:PySem.W.Frag) (H:Hp):List V->List PyData->Prop
 |nil:Dps K H [] []
 |cons {x:V} {xs:List V} {d:PyData} {ds:List PyData}:Dp K H x d->Dps K H xs ds->Dps K H (x::xs) (d::ds)
end
section
variable {X:Cx} {pins:List (Addr × Obj)} {σ:L2.St} {H:Hp} {s:Shared}
mutual
theorem Dp.reads (I:Inv X pins σ H s):∀ {x:V} {d:PyData} {u:Value},Dp X.K H x d->RelV x u->∃ as,Reads s.heap u d as
 |_,_,_,.non,r=>by cases r; exact ⟨_,.none⟩
 |_,_,_,.bl b,r=>by cases r; exact ⟨_,.bool b⟩
 |_,_,_,.int i,r=>by obtain ⟨t,rfl⟩:=r; exact ⟨_,.int i t⟩
 |_,_,_,.str x,r=>by obtain ⟨t,rfl⟩:=r; exact ⟨_,.str x t⟩
 |_,_,_,.lst h q,r=>by
  cases r
  obtain ⟨its,r',pl,hz⟩:=I.list h
  obtain ⟨as,ra⟩:=Dps.reads I q r'
  obtain ⟨o,n,ho,hc,_,hd⟩:=pl
  exact ⟨_,.list ho hc hd ra⟩
 |_,_,_,.tup h q,r=>by
  cases r
  obtain ⟨its,r',pl,hz⟩:=I.tuple h
  obtain ⟨as,ra⟩:=Dps.reads I q r'
  obtain ⟨o,ho,hc,n,hd⟩:=pl
  exact ⟨_,.tuple ho hc hd ra⟩
theorem Dps.reads (I:Inv X pins σ H s):∀ {xs:List V} {ds:List PyData} {us:List Value},Dps X.K H xs ds->Vals xs us->∃ as,ReadsAll s.heap us ds as
 |_,_,_,.nil,r=>by cases r; exact ⟨_,.nil⟩
 |_,_,_,.cons h q,r=>by
  cases r with
  |cons a b=>
   obtain ⟨as,ra⟩:=Dp.reads I h a
   obtain ⟨bs,rb⟩:=Dps.reads I q b
   exact ⟨_,.cons ra rb⟩
end
noncomputable def rDp (K:PySem.W.Frag) (g:Bool->Bool):V->V->Hp->VK->Prop:=fun x y H Q=>∃ dx dy,Dp K H x dx/\Dp K H y dy/\dx.canLay0=true/\dy.canLay0=true/\min dx.depth dy.depth<=60/\Q (.bl (g (PyData.eqv dx dy))) H
theorem op_eqD {K:PySem.W.Frag} (hK:X.K=K) (hu:X.A.units+100 < cLine):OpR X (compareOp .Eq) (rDp K id):=by
 subst hK
 intro pins s σ H x y v u Q I rx ry h
 obtain ⟨dx,dy,hx,hy,cx,cy,dep,q⟩:=h
 obtain ⟨as,ra⟩:=hx.reads I rx
 obtain ⟨bs,rb⟩:=hy.reads I ry
 exact SeqAt.compareEq_reads ra rb cx cy (by omega) ⟨.bl (PyData.eqv dx dy),H,I,rfl,q⟩
theorem op_neD {K:PySem.W.Frag} (hK:X.K=K) (hu:X.A.units+100 < cLine):OpR X (compareOp .NotEq) (rDp K not):=by
 subst hK
 intro pins s σ H x y v u Q I rx ry h
 obtain ⟨dx,dy,hx,hy,cx,cy,dep,q⟩:=h
 obtain ⟨as,ra⟩:=hx.reads I rx
 obtain ⟨bs,rb⟩:=hy.reads I ry
 exact SeqAt.compareNe_reads ra rb cx cy (by omega) ⟨.bl (!PyData.eqv dx dy),H,I,rfl,q⟩
end
end Kw
namespace Kw
open PySem PySem.Spec PyProof.Rows L2
section
variable {X:Cx} {pos:Pos} {k v:Expr} {x:Str} {i:Int}
end
section
variable {X:Cx}
end
section
variable {K:PySem.W.Frag} {H H':Hp} {v:V} {t:Value}
end
section
variable {X:Cx} {k k':Nat} {x:Str} {ps:List Str} {sp:Sp} {E:XK} {p pos:Pos} {e:Expr} {es:List Expr} {t:TA} {dv:V}
end
end Kw
namespace Kw
end Kw
namespace Kw
open PySem PySem.Spec PyProof.Rows L2
theorem newO {H:Hp} {p:Addr} (hp:H p=none) (o:HO):∃ H',upd H p o=H'/\Same H H'/\H' p=some o:=⟨_,rfl,jt hp o,zk⟩
end Kw
theorem Kw.u100 {k:Nat} {A:PySem.Around} (r:L2.Room k A):A.units+100 < PySem.cLine:=by have:=r.un; omega
namespace Kw
open PySem PySem.Spec PyProof.Rows L2
theorem iteFz {c:Bool} {A B:Prop} (h:c=false) (q:B):if c=true then A else B:=by
 subst h
 exact iteF q
theorem cut1 {s1 r:TS} {D:Ends} {σ:L2.St} {H:Hp} (P:L2.St->Hp->Prop) (h:∀ N:L2.St->Hp->Prop,(∀ σ' H',P σ' H'->N σ' H')->s1 {D with nx:=N} σ H) (rest:∀ σ' H',P σ' H'->r D σ' H') :
  tSeq s1 r D σ H:=h (r D) rest
noncomputable def cxC (X:Cx) (N:List Str) (scope:Scope) (cl:List (Str × Addr)) (C:Addr) (s:Shared) (H:Hp) (fp:List Addr):Cx:=
 {X with N:=N,s₀:=s,H₀:=H,env:=compEnvC scope cl C X.env,outer:=X.stack,stack:=X.stack,ex:=fp,fn:=fun _=>false,pn:=[],xe:=fun _ _=>False}
section
variable {X:Cx} {pins:List (Addr × Obj)} {σ:L2.St} {H:Hp} {s:Shared} {N ns:List Str} {scope:Scope} {cl:List (Str × Addr)} {C:Addr} {fp:List Addr} {x:Str} {idx:List Nat}
theorem okC (I:Inv X pins σ H s) (f:∀ b∈fp,FpOk X pins H b) (lt:∀ b∈fp,b < s.heap.objs.size) (hC:s.heap.objs.size<=C) (hkind:scope.kind=.function) (hcl:∀ y c,cl.lookup y=some c->X.env.cells.lookup y=some c)
  (hfr:∀ y,((compEnvC scope cl C X.env).kindOf y=some .cell∨(compEnvC scope cl C X.env).kindOf y=some .free)->∃ c,cl.lookup y=some c):(cxC X N scope cl C s H fp).Ok where
 mod:=I.ok.mod
 kind:=hkind
 glob:=I.ok.glob
 blt:=I.ok.blt
 above:=hC
 inj:=fun x y c e1 e2=>I.ok.inj x y c (hcl _ _ e1) (hcl _ _ e2)
 has:=hfr
 cab:=fun _ _ h=>nomatch h
 hd:=I.ok.hd
 frames:=I.ok.frames
 stk:=.inl rfl
 exf:=fun b hb=>⟨Nat.ne_of_lt (Nat.lt_of_lt_of_le (lt b hb) hC),fun x c e=>(f b hb).2.2.2.2.1 x c (hcl _ _ e)⟩
 bs:=I.bs
 bsz:=Nat.le_trans I.ok.bsz I.sz
 noex:=fun b o e hb=>by
  rcases (f b hb).2.2.2.1 with z|z
  ·exact I.ok.noex b o e z
  ·exact absurd (Nat.lt_of_lt_of_le (Heap.lt_size e) (Nat.le_trans I.ok.bsz z)) (Nat.lt_irrefl _)
 exfs:=fun b hb hs=>by
  rcases List.mem_cons.mp (I.stkSub b hs) with z|z
  ·exact (f b hb).2.1 z
  ·exact (f b hb).2.2.1 z
 funs:=I.stack
 frf:=I.stkFree
noncomputable def Capt (X:Cx) (scope:Scope) (cl:List (Str × Addr)) (ns:List Str) (idx:List Nat):Prop:=
 idx.length=ns.length/\∀ (k:Nat) (y:Str),ns[k]?=some y->∃ j c,idx[k]?=some j/\X.N[j]?=some y/\X.env.kindOf y=some .cell/\X.env.cells.lookup y=some c/\cl.lookup y=some c/\((relabel scope X.env).names.lookup y=some .cell∨(relabel scope X.env).names.lookup y=some .free)
noncomputable def stIn (v:Option V) (idx:List Nat) (σ:L2.St):L2.St:=v::idx.map fun j=>(σ[j]?).join
theorem invC {D:Addr} {h1:Heap} {t:Nat} {o:Obj} {mC:Str->Option Value} (I:Inv X pins σ H s) (ok:(cxC X (x::ns) scope cl C s H fp).Ok) (cap:Capt X scope cl ns idx) (hcl:∀ y c,cl.lookup y=some c->X.env.cells.lookup y=some c)
  (keep:∀ b u,s.heap.get? b=some u->h1.get? b=some u) (hC:s.heap.objs.size<=C) (hns:h1.Ns C mC) (hD:h1.get? D=some o) (hDs:s.heap.objs.size<=D) (hDC:D≠C) (hod:∀ v,o.data≠.cell v) (hx:(relabel scope X.env).names.lookup x=some .local) :
  Inv (cxC X (x::ns) scope cl C s H fp) [(D,o)] (stIn none idx σ) H {s with heap:=h1,toks:=t}:=by
 have cellK:∀ y c,cl.lookup y=some c->∀ v,s.heap.IsCell c v->h1.IsCell c v:=fun y c e v ⟨o,ho,hd⟩=>⟨o,keep _ _ ho,hd⟩
 refine ⟨ok,rfl,I.bare,Un.kept keep,⟨mC,hns,fun i y v e1 e2 e3=>?_⟩,fun y c e=>?_,I.hok.fresh hC,fun y c e=>I.freeC y c (hcl y c e),fun p hp=>?_,I.hok.kept keep,?_⟩
 ·cases i with
  |zero=>cases e2
  |succ k=>
   have e1':ns[k]?=some y:=e1
   obtain ⟨j,c,h1',h2,h3,h4,h5,h6⟩:=cap.2 k y e1'
   have e2':(idx.map fun j=>(σ[j]?).join)[k]?=some (some v):=e2
   rw [List.getElem?_map,h1'] at e2'
   have e4:(σ[j]?).join=some v:=Option.some.inj e2'
   have e5:σ[j]?=some (some v):=by
    cases q:σ[j]? with
    |none=>rw [q] at e4; cases e4
    |some z=>rw [q] at e4; exact congrArg some e4
   obtain ⟨m,hn,hl⟩:=I.loc
   obtain ⟨u,r,lk⟩:=hl j y v h2 e5 (.inr (.inl h3))
   refine ⟨u,r,.inr ⟨h6,c,h5,?_⟩⟩
   rcases lk with ⟨z,_⟩|⟨_,c',z,ic⟩
   ·rw [h3] at z; cases z
   ·rw [h4] at z; cases z
    exact cellK y c h5 _ ic
 ·obtain ⟨v,ic⟩:=I.cell y c (hcl y c e)
  exact ⟨v,cellK y c e v ic⟩
 ·have e:p=(D,o):=by simpa [cxC] using hp
  subst e
  refine ⟨hD,I.hok.fresh hDs,hDC,fun hs=>?_,hod⟩
  obtain ⟨_,o',ho',_⟩:=I.stack.mem hs
  exact absurd (Heap.lt_size ho') (Nat.not_lt.mpr hDs)
 ·unfold stIn
  rw [List.length_cons,List.length_map,cap.1]
  rfl
end
noncomputable abbrev NoE:Value->Shared->Prop:=fun _ _=>False
noncomputable abbrev testsOf (ifs:List Expr) (env:Env):Sem Bool:=forIn ifs true fun c r=>if r=true then do let ok <- isTrue c env (eval c env); pure (ForInStep.yield ok) else pure (ForInStep.yield r)
noncomputable def PTs (X:Cx) (ifs:List Expr) (t:TT):Prop:=
 ∀ (pins:List (Addr × Obj)) (s:Shared) (σ:L2.St) (H:Hp) (Q:Bool->Hp->Prop),Inv X pins σ H s->t σ H Q->wpAny (model X.prog X.w) X.A (testsOf ifs X.env) (TP X pins σ Q) X.xe s
noncomputable def ttNil:TT:=fun _ H Q=>Q true H
theorem pts_nil {X:Cx}:PTs X [] ttNil:=fun _ _ _ H _ I h=>wpAny_tests_nil ⟨H,I,h⟩
theorem pts_one {X:Cx} {c:Expr} {t:TT} (h:PT X c t):PTs X [c] t:=fun pins s σ H Q I q=>wpAny_tests_one (h pins s σ H Q I q)
theorem lc_loop {prog:Program} {w:World} {A:Around} {R:Result->Shared->Prop} {s:Shared} {elt target iter:Expr} {ifs:List Expr} {scope:Scope} {pos:Pos} {it acc:Value} {env:Env} (Z:Nat->Shared->Prop)
  (turn:∀ n z,Z n z->wpAny (model prog w) A (pyNext it) (fun r z1=>match r with
   |none=>R (.ok .next) z1
   |some v=>wpAny (model prog w) A (letOwnedTupleGo target it v) (fun _ z2=>wpAny (model prog w) A (assign target env v) (fun _ z3=>wpAny (model prog w) A (testsOf ifs env) (fun ok z4=>if ok=true then
     wpAny (model prog w) A (eval elt env) (fun y z5=>wpAny (model prog w) A (call (.builtin "list.append") [acc,y]) (fun _ z6=>∃ m,m < n∧Z m z6) NoE z5) NoE z4 else ∃ m,m < n∧Z m z4) NoE z3) NoE z2) NoE z1) NoE z)
  (n:Nat) (h:Z n s):codeAny (model prog w) A (.compLoop (.ListComp elt [⟨target,iter,ifs,0⟩] scope pos) 0 it acc env) R s:=by
 refine codeAny_loop rfl Z (fun n z hZ=>?_) n h
 show wpAny _ A ((compTurn (.ListComp elt [⟨target,iter,ifs,0⟩] scope pos) 0 it acc env).onRaise (fun q=>do noteFrame q env; theTreesLotGoes q)) _ _ z
 refine wpAny_noted ?_
 rw [compTurn_list]
 refine wpAny_bind (wpAny_standAt (wpAny_bind (wpAny_mono (turn n z hZ) (fun r z1 k1=>?_) fun _ _ q=>q.elim)))
 cases r with
 |none=>exact wpAny_pure k1
 |some v=>
  refine wpAny_bind (wpAny_mono k1 (fun _ z2 k2=>?_) fun _ _ q=>q.elim)
  refine wpAny_bind (wpAny_mono k2 (fun _ z3 k3=>?_) fun _ _ q=>q.elim)
  refine wpAny_bind (wpAny_mono k3 (fun ok z4 k4=>?_) fun _ _ q=>q.elim)
  cases ok with
  |false=>exact wpAny_pure ⟨rfl,k4⟩
  |true=>
   refine wpAny_bind (wpAny_bind (wpAny_mono (show wpAny _ _ _ _ _ _ from k4) (fun y z5 k5=>?_) fun _ _ q=>q.elim))
   exact wpAny_bind (wpAny_mono k5 (fun _ z6 k6=>wpAny_pure (wpAny_pure ⟨rfl,k6⟩)) fun _ _ q=>q.elim)
noncomputable def Z3 (J:It) (idx:List Nat) (te:TE) (σ:L2.St) (Q:VK) (H1:Hp):Prop:=∃ W:Nat->Nat->List V->Hp->Prop,(∃ m,W 0 m [] H1)/\∀ i m ys H,W i m ys H->ys.length<=sizeLine∧
 ((J.stop i H/\∀ p,H p=none->Q (.ref p) (upd H p (.lst ys)))∨(J.go i H/\∀ y H',J.yld i H y H'->te (stIn (some y) idx σ) H' fun v H2=>∃ m',m' < m/\W (i+1) m' (ys++[v]) H2))
noncomputable def tLc (wi:TI) (idx:List Nat) (te:TE):TE:=fun σ H Q=>wi σ H fun J H1=>Z3 J idx te σ Q H1
noncomputable def ZF (J:It) (idx:List Nat) (tt:TT) (te:TE) (σ:L2.St) (Q:VK) (H1:Hp):Prop:=∃ W:Nat->Nat->List V->Hp->Prop,(∃ m,W 0 m [] H1)/\∀ i m ys H,W i m ys H->ys.length<=sizeLine∧
 ((J.stop i H/\∀ p,H p=none->Q (.ref p) (upd H p (.lst ys)))∨(J.go i H/\∀ y H',J.yld i H y H'->tt (stIn (some y) idx σ) H' fun b H3=>if b=true then te (stIn (some y) idx σ) H3 fun v H2=>∃ m',m' < m/\W (i+1) m' (ys++[v]) H2
  else ∃ m',m' < m/\W (i+1) m' ys H3))
noncomputable def tLcT (wi:TI) (idx:List Nat) (tt:TT) (te:TE):TE:=fun σ H Q=>wi σ H fun J H1=>ZF J idx tt te σ Q H1
theorem Z3.toT {J:It} {idx:List Nat} {te:TE} {σ:L2.St} {Q:VK} {H1:Hp} (h:Z3 J idx te σ Q H1):ZF J idx ttNil te σ Q H1:=by
 obtain ⟨W,w0,turn⟩:=h
 refine ⟨W,w0,fun i m ys H w=>?_⟩
 obtain ⟨hz,h⟩:=turn i m ys H w
 refine ⟨hz,h.imp id fun h=>⟨h.1,fun y H' yl=>?_⟩⟩
 show (if true=true then te (stIn (some y) idx σ) H' (fun v H2=>∃ m',m' < m/\W (i+1) m' (ys++[v]) H2) else ∃ m',m' < m/\W (i+1) m' ys H')
 rw [if_pos rfl]
 exact h.2 y H' yl
section
variable {X:Cx} {elt iter:Expr} {ifs:List Expr} {x:Str} {px pos:Pos} {scope:Scope} {cl:List (Str × Addr)} {wi:TI} {tt:TT} {te:TE} {ns:List Str} {idx:List Nat}
structure LcEnd (X:Cx) (fp:List Addr) (H2 H4:Hp) (s2 s5:Shared) (C D:Addr) (ys:List V):Prop where
 dn:D=s2.heap.objs.size
 cn:s2.heap.objs.size<=C
 dc:D≠C
 un:Un (frs X.stack) fp H2 H4 s2.heap s5.heap
 hok:HOk X.prog X.w H4 s5.heap
 cf:H4 C=none
 df:H4 D=none
 os:s5.os=s2.os
 bare:AllBare s5.gens
 ns:∃ m,s5.heap.Ns C m
 obj:∃ us,Vals ys us/\s5.heap.get? D=some (LCg.lst us)
 len:ys.length<=sizeLine
theorem lc_main (hc:X.calm=true) (hi:PI X (.Name x px) iter wi) (hclos:closureFor scope X.env=pure cl) (hcell:∀ y∈scope.names,y.2≠.cell) (hkind:scope.kind=.function)
  (hnames:∀ y∈scope.names,y.2=.local->scope.names.lookup y.1=some .local) (hx:scope.names.lookup x=some .local) (nd:(x::ns).Nodup) (cap:Capt X scope cl ns idx)
  (hcl:∀ y c,cl.lookup y=some c->X.env.cells.lookup y=some c) (hfr:∀ y,((relabel scope X.env).names.lookup y=some .cell∨(relabel scope X.env).names.lookup y=some .free)->∃ c,cl.lookup y=some c)
  (htt:∀ (C:Addr) (s:Shared) (H:Hp) (fp:List Addr),PTs (cxC X (x::ns) scope cl C s H fp) ifs tt) (hel:∀ (C:Addr) (s:Shared) (H:Hp) (fp:List Addr),PE (cxC X (x::ns) scope cl C s H fp) elt te)
  {pins:List (Addr × Obj)} {σ:L2.St} {Q:VK} {itv:Value} {s2:Shared} {E:Value->Shared->Prop} {RR:Value->Addr->Result->Shared->Prop} (h2:PIE X pins σ (.Name x px) (fun J H1=>ZF J idx tt te σ Q H1) itv s2)
  (hRR:∀ fp H2 H4 s5 C D ys,Inv X pins σ H2 s2->(∀ b∈fp,FpOk X pins H2 b)->LcEnd X fp H2 H4 s2 s5 C D ys->Q (.ref D) (upd H4 D (.lst ys))->RR (.ref D) C (.ok .next) s5) :
  wpAny (model X.prog X.w) X.A (newList []) (fun acc s3=>wpAny (model X.prog X.w) X.A (newFunctionEnv scope X.env.globals cl [] X.env.qual none .none (some X.env)) (fun cenv s4=>
   codeAny (model X.prog X.w) X.A (.compStart (.ListComp elt [⟨.Name x px,iter,ifs,0⟩] scope pos) 0 itv acc {cenv with scope:=relabel scope X.env}) (RR acc cenv.locals) s4) E s3) E s2:=by
 obtain ⟨it,fp,tn,J,H2,e,I2,T,st2,f2,W,⟨m0,w0⟩,turn⟩:=h2
 subst e
 refine wpAny_newObj_type (wpAny_newFunctionEnv hcell (by intro y hy; simp at hy) (fun h1 hns1 hsb1=>?_) hkind)
 dsimp only at hns1 hsb1 ⊢
 generalize hH2:s2.heap.push {cls:=.type "list",dict:=none,data:=.seq ([]:List Value).toArray}=g2 at hns1 hsb1 ⊢
 have hC:g2.objs.size=s2.heap.objs.size+1:=by rw [<- hH2,Heap.size_push]
 have hDC:s2.heap.objs.size≠g2.objs.size:=by rw [hC]; exact Nat.ne_of_lt (Nat.lt_succ_self _)
 have hCle:s2.heap.objs.size<=g2.objs.size:=by rw [hC]; exact Nat.le_succ _
 have keep1:∀ b o,s2.heap.get? b=some o->h1.get? b=some o:=fun b o e=>hsb1.extBut b o (Nat.ne_of_lt (Nat.lt_of_lt_of_le (Heap.lt_size e) hCle)) (Heap.get?_push_of_some _ (hH2▸Heap.get?_push_of_some _ e))
 have hacc:h1.get? s2.heap.objs.size=some {cls:=.type "list",data:=.seq ([]:List Value).toArray 0}:=hsb1.extBut _ _ hDC (Heap.get?_push_of_some _ (hH2▸Heap.get?_push_size _ rfl))
 have lt:∀ b∈fp,b < s2.heap.objs.size:=fun b hb=>by
  obtain ⟨o,e,_⟩:=T.obj _ _ st2 b hb
  exact Heap.lt_size e
 have hxr:(relabel scope X.env).names.lookup x=some .local:=lookup_relabel_local hx
 have ok:=okC (N:=x::ns) (scope:=scope) (cl:=cl) (C:=g2.objs.size) I2 f2 lt hCle hkind hcl hfr
 have I3:=invC (D:=s2.heap.objs.size) (t:=s2.toks+([]:List (Str × Value)).length) I2 ok cap hcl keep1 hCle hns1 hacc (Nat.le_refl _) hDC (fun v z=>by cases z) hxr
 have fC:∀ {H':Hp} {pl:List (Addr × Obj)},(∀ p∈pl,p.1=s2.heap.objs.size)->(∀ b∈fp,H' b=none)->∀ b∈fp,FpOk (cxC X (x::ns) scope cl g2.objs.size s2 H2 fp) pl H' b:=fun {H' pl} hpl hn b hb=>
  ⟨hn b hb,(ok.exf b hb).1,fun z=>ok.exfs b hb z,.inl hb,(ok.exf b hb).2,fun p hp z=>by
   have q:=hpl p (by simpa [cxC] using hp)
   have:=lt b hb
   rw [<- z,q] at this
   exact Nat.lt_irrefl _ this⟩
 have lnc:∀ us:List Value,∀ v,(LCg.lst us).data≠.cell v:=fun us v z=>by cases z
 have loop:∀ s3:Shared,s3={s2 with heap:=h1,toks:=s2.toks+([]:List (Str × Value)).length}->
   codeAny (model X.prog X.w) X.A (.compLoop (.ListComp elt [⟨.Name x px,iter,ifs,0⟩] scope pos) 0 (.ref it) (.ref s2.heap.objs.size) (compEnvC scope cl g2.objs.size X.env))
    (RR (.ref s2.heap.objs.size) g2.objs.size) s3:=by
  rintro s3 rfl
  refine lc_loop (fun n s'=>∃ i ys us r H',Inv (cxC X (x::ns) scope cl g2.objs.size s2 H2 fp) [(s2.heap.objs.size,LCg.lst us)] (stIn r idx σ) H' s'/\tn i s'.heap/\(∀ b∈fp,H' b=none)/\Vals ys us/\W i n ys H') ?_ m0
   ⟨0,[],[],none,H2,I3,T.keep _ _ _ st2 fun b _ o e=>keep1 b o e,fun b hb=>(f2 b hb).1,.nil,w0⟩
  rintro n s4 ⟨i,ys,us,r,H4,I4,st4,fr4,vs4,w4⟩
  obtain ⟨hz,⟨stop,qn⟩|⟨go,step⟩⟩:=turn i n ys H4 w4
  ·refine thn (T.done (cxC X (x::ns) scope cl g2.objs.size s2 H2 fp) rfl rfl rfl hc i _ s4 _ H4 NoE I4 (fC (fun p hp=>by rw [List.mem_singleton.mp hp]) fr4) st4 stop) fun r5 s5 zz=>?_
   obtain ⟨hr5,I5⟩:=zz
   subst hr5
   obtain ⟨mC,hnC,_⟩:=I5.loc
   obtain ⟨pD1,pD2,_⟩:=I5.pin (s2.heap.objs.size,LCg.lst us) (List.mem_append_right _ (List.mem_singleton.mpr rfl))
   exact hRR fp H2 H4 s5 g2.objs.size s2.heap.objs.size ys I2 f2 ⟨rfl,hCle,hDC,I5.base,I5.hok,I5.free,pD2,I5.os,I5.bare,⟨mC,hnC⟩,⟨us,vs4,pD1⟩,hz⟩ (qn _ pD2)
  ·refine thn (T.item (cxC X (x::ns) scope cl g2.objs.size s2 H2 fp) rfl rfl rfl hc i _ s4 _ H4 NoE I4 (fC (fun p hp=>by rw [List.mem_singleton.mp hp]) fr4) st4 go) fun r5 s5 zz=>?_
   obtain ⟨u,hr5,k5⟩:=zz
   subst hr5
   refine thn k5 fun _ s6 zz=>?_
   obtain ⟨y,H6,I6,r6,y6,st6,fr6⟩:=zz
   have I6':=I6.pinned (fC (fun p hp=>by rw [List.mem_singleton.mp hp]) fr6) (T.obj _ _ st6)
   have G:=zd (X:=cxC X (x::ns) scope cl g2.objs.size s2 H2 fp) (pos:=px) (i:=0) (x:=x) nd rfl (.inl hxr) (.inr hxr)
   refine thn (G _ s6 _ H6 y u (fun σ' H'=>σ'=stIn (some y) idx σ/\H'=H6) I6' r6 ⟨rfl,rfl⟩) fun _ s7 zz=>?_
   obtain ⟨σ7,H7,I7,e7,eH⟩:=zz
   subst e7 eH
   refine thn (htt g2.objs.size s2 H2 fp _ s7 _ _ _ I7 (step y _ y6)) fun ok s71 zz=>?_
   obtain ⟨H71,I71,k71⟩:=zz
   cases ok with
   |false=>
    obtain ⟨m',lm,w8⟩:=(show ∃ m',m' < n/\W (i+1) m' ys H71 from k71)
    have kf:∀ b∈fp,∀ o,s6.heap.get? b=some o->s71.heap.get? b=some o/\H71 b=none:=fun b hb o e=>by
     have q:=I71.pin (b,o) (List.mem_append_right _ (List.mem_append_right _ (ZG hb e)))
     exact ⟨q.1,q.2.1⟩
    obtain ⟨pD1,pD2,pD3,pD4,_⟩:=I71.pin (s2.heap.objs.size,LCg.lst us) (by simp [cxC])
    refine ⟨m',lm,i+1,ys,us,some y,H71,I71.pins_of fun p hp=>?_,?_,fun b hb=>?_,vs4,w8⟩
    ·rw [List.mem_singleton.mp hp]
     exact ⟨pD1,pD2,pD3,pD4,lnc _⟩
    ·exact T.keep _ _ _ st6 fun b hb o e=>(kf b hb o e).1
    ·obtain ⟨o,e,_⟩:=T.obj _ _ st6 b hb
     exact (kf b hb o e).2
   |true=>
   refine thn (hel g2.objs.size s2 H2 fp _ s71 _ _ _ I71 k71) fun y8 s8 zz=>?_
   obtain ⟨v,H8,I8,r8,m',lm,w8⟩:=zz
   obtain ⟨pD1,pD2,pD3,pD4,_⟩:=I8.pin (s2.heap.objs.size,LCg.lst us) (by simp [cxC])
   have kf:∀ b∈fp,∀ o,s6.heap.get? b=some o->s8.heap.get? b=some o/\H8 b=none:=fun b hb o e=>by
    have q:=I8.pin (b,o) (List.mem_append_right _ (List.mem_append_right _ (ZG hb e)))
    exact ⟨q.1,q.2.1⟩
   refine append_at (hsz:=by show us.toArray.size<=sizeLine; rw [List.size_toArray,<- vs4.length]; exact hz) pD1 fun h9 sb9 hD9=>?_
   have I8':Inv (cxC X (x::ns) scope cl g2.objs.size s2 H2 fp) [] (stIn (some y) idx σ) H8 s8:=I8.pins_of fun p hp=>nomatch hp
   have I9:=I8'.turned (it:=s2.heap.objs.size) (h':=h9) (t':=s8.toks) (fun b o hb e=>(sb9.2 b hb).trans e) pD2 pD3 (.inr (Nat.le_refl _)) (fun y c e z=>by
     obtain ⟨v,q⟩:=I2.cell y c (hcl y c e)
     exact absurd q.lt (by rw [z]; exact Nat.lt_irrefl _)) (fun p hp=>by simp [cxC] at hp)
   refine ⟨m',lm,i+1,ys++[v],us++[y8],some y,H8,I9.pins_of fun p hp=>?_,?_,fun b hb=>?_,vs4.append (.cons r8 .nil),w8⟩
   ·rw [List.mem_singleton.mp hp]
    exact ⟨hD9.trans (congrArg some (LCg.lst_snoc us y8)),pD2,pD3,pD4,lnc _⟩
   ·exact T.keep _ _ _ st6 fun b hb o e=>(sb9.2 b (Nat.ne_of_lt (lt b hb))).trans (kf b hb o e).1
   ·obtain ⟨o,e,_⟩:=T.obj _ _ st6 b hb
    exact (kf b hb o e).2
 exact codeAny_compStart_list (loop _ rfl) (T.self _ 0 _ _ _ (T.keep _ _ _ st2 fun b _ o e=>keep1 b o e) (loop _ rfl))
theorem LcEnd.inv {fp:List Addr} {H2 H4:Hp} {s2 s5:Shared} {C D:Addr} {ys:List V} {pins:List (Addr × Obj)} {σ:L2.St} {h':Heap} (L:LcEnd X fp H2 H4 s2 s5 C D ys) (I2:Inv X pins σ H2 s2) (f2:∀ b∈fp,FpOk X pins H2 b) (sb:Heap.SameBut C s5.heap h') :
  Inv X pins σ (upd H4 D (.lst ys)) {s5 with heap:=h'}:=by
 obtain ⟨rfl,hCle,hDC,U,hok,cf,pD2,eo,bare,⟨mC,hnC⟩,⟨us,vs4,pD1⟩,hz⟩:=L
 have neC:∀ b o,s2.heap.get? b=some o->b≠C:=fun b o e=>Nat.ne_of_lt (Nat.lt_of_lt_of_le (Heap.lt_size e) hCle)
 have U':Un (frs X.stack) fp H2 H4 s2.heap h':=⟨fun b o e n hb hx=>(sb.2 b (neC b o e)).trans (U.keep b o e n hb hx),fun b o e n hb hx=>by
   obtain ⟨sl,q⟩:=U.slot b o e n hb hx
   exact ⟨sl,(sb.2 b (neC b o e)).trans q⟩,U.free,fun b o e hx=>by
   obtain ⟨o',q⟩:=U.there b o e hx
   exact ⟨o',(sb.2 b (neC b o e)).trans q⟩,U.tups,U.frzs,U.tbls⟩
 have hok':HOk X.prog X.w H4 h':=fun a o e=>by
  refine (hok a o e).stay (fun b u hb q=>(sb.2 b ?_).trans q) (fun _ z=>z) fun _ _ z=>z
  rintro rfl
  rcases hb with hb|hb
  ·rw [<- hb,cf] at e; cases e
  ·rw [cf] at hb; cases hb
 have I6:=I2.call (ch:=fp) (h':=h') (g':=s5.gens) (t':=s5.toks) (d':=s5.drawn) U' hok' bare fun b hb=>⟨(f2 b hb).2.2.2.1,(f2 b hb).2.1,(f2 b hb).2.2.2.2.1,(f2 b hb).2.2.2.2.2⟩
 have I7:=Inv.adopt (x:=s2.heap.objs.size) (o:=.lst ys) (fun y c e z=>by
   obtain ⟨v,q⟩:=I2.cell y c e
   exact absurd q.lt (by rw [z]; exact Nat.lt_irrefl _)) I6 (Heap.get?_none_of_le I2.sz) pD2 (Nat.ne_of_gt I2.lt) (fun p hp z=>by
   have:=Heap.lt_size (I2.pin p hp).1
   rw [z] at this
   exact Nat.lt_irrefl _ this) ⟨hz,us,us.length,vs4,(sb.2 _ hDC).trans pD1⟩
 rw [<- eo] at I7
 exact I7
theorem pie_toT {pins:List (Addr × Obj)} {σ:L2.St} {tg:Expr} {Q:VK} {itv:Value} {s2:Shared} (h:PIE X pins σ tg (fun J H1=>Z3 J idx te σ Q H1) itv s2):PIE X pins σ tg (fun J H1=>ZF J idx ttNil te σ Q H1) itv s2:=by
 obtain ⟨it,fp,tn,J,H',a,b,c,d,e,q⟩:=h
 exact ⟨it,fp,tn,J,H',a,b,c,d,e,q.toT⟩
theorem pe_lcT (hc:X.calm=true) (hi:PI X (.Name x px) iter wi) (hclos:closureFor scope X.env=pure cl) (hcell:∀ y∈scope.names,y.2≠.cell) (hkind:scope.kind=.function)
  (hnames:∀ y∈scope.names,y.2=.local->scope.names.lookup y.1=some .local) (hx:scope.names.lookup x=some .local) (nd:(x::ns).Nodup) (cap:Capt X scope cl ns idx)
  (hcl:∀ y c,cl.lookup y=some c->X.env.cells.lookup y=some c) (hfr:∀ y,((relabel scope X.env).names.lookup y=some .cell∨(relabel scope X.env).names.lookup y=some .free)->∃ c,cl.lookup y=some c)
  (htt:∀ (C:Addr) (s:Shared) (H:Hp) (fp:List Addr),PTs (cxC X (x::ns) scope cl C s H fp) ifs tt) (hel:∀ (C:Addr) (s:Shared) (H:Hp) (fp:List Addr),PE (cxC X (x::ns) scope cl C s H fp) elt te) (hs:∀ v,foldedSetIterable iter X.env v=pure v:=by intro _; rfl) :
  PE X (.ListComp elt [⟨.Name x px,iter,ifs,0⟩] scope pos) (tLcT wi idx tt te):=by
 intro pins s σ H Q I h
 rw [eval_ListComp]
 refine wpAny_comprehension_free (use:=none) rfl hs hclos hkind hnames (thn (hi pins s σ H _ I h) fun v s1 h1=>thn h1 fun itv s2 h2=>?_)
 refine lc_main hc hi hclos hcell hkind hnames hx nd cap hcl hfr htt hel (RR:=fun acc C=>compPost (model X.prog X.w) X.A X.xe none (EP X pins σ Q) acc C) h2 fun fp H2 H4 s5 C D ys I2 f2 L q=>?_
 obtain ⟨mC,hnC⟩:=L.ns
 exact ⟨mC,hnC,fun h' sb=>⟨.ref D,_,L.inv I2 f2 sb,rfl,q⟩⟩
theorem ps_lcT {j:Nat} {y:Str} {py spos:Pos} (hN:X.N.Nodup) (hj:X.N[j]?=some y) (hy:X.env.scope.names.lookup y=some .local) (hsw:swapsWith (.ListComp elt [⟨.Name x px,iter,ifs,0⟩] scope pos) (some (.Name y py)) spos.line X.env=pure true)
  (hc:X.calm=true) (hi:PI X (.Name x px) iter wi) (hclos:closureFor scope X.env=pure cl) (hcell:∀ y∈scope.names,y.2≠.cell) (hkind:scope.kind=.function)
  (hnames:∀ y∈scope.names,y.2=.local->scope.names.lookup y.1=some .local) (hx:scope.names.lookup x=some .local) (nd:(x::ns).Nodup) (cap:Capt X scope cl ns idx)
  (hcl:∀ y c,cl.lookup y=some c->X.env.cells.lookup y=some c) (hfr:∀ y,((relabel scope X.env).names.lookup y=some .cell∨(relabel scope X.env).names.lookup y=some .free)->∃ c,cl.lookup y=some c)
  (htt:∀ (C:Addr) (s:Shared) (H:Hp) (fp:List Addr),PTs (cxC X (x::ns) scope cl C s H fp) ifs tt) (hel:∀ (C:Addr) (s:Shared) (H:Hp) (fp:List Addr),PE (cxC X (x::ns) scope cl C s H fp) elt te) (hs:∀ v,foldedSetIterable iter X.env v=pure v) :
  PS X (.Assign [.Name y py] (.ListComp elt [⟨.Name x px,iter,ifs,0⟩] scope pos) spos) (tAsg (tLcT wi idx tt te) (gName j)):=by
 intro pins s σ H D I h
 rw [exec_Assign_Name_used _ _ _ _ hsw]
 refine wpAny_bind (wpAny_standAt (wpAny_bind ?_))
 show wpAny _ _ (do let _ <- comprehension (.ListComp elt [⟨.Name x px,iter,ifs,0⟩] scope pos) scope X.env _ (newList []) false (eval iter X.env) (some (assign (.Name y py) X.env))) _ _ s
 refine wpAny_bind (wpAny_mono (wpAny_comprehension_free (use:=some (assign (.Name y py) X.env)) (Q:=fun _ s'=>SP X pins D .next s') rfl hs hclos hkind hnames
  (thn (hi pins s σ H _ I h) fun v s1 h1=>thn h1 fun itv s2 h2=>?_)) (fun _ s' hq=>wpAny_pure (wpAny_pure hq)) fun _ _ e=>e)
 refine lc_main hc hi hclos hcell hkind hnames hx nd cap hcl hfr htt hel (RR:=fun acc C=>compPost (model X.prog X.w) X.A X.xe (some (assign (.Name y py) X.env)) (fun _ s'=>SP X pins D .next s') acc C) h2 fun fp H2 H4 s5 C Da ys I2 f2 L q=>?_
 have I7:=L.inv I2 f2 (h':=s5.heap) ⟨rfl,fun _ _=>rfl⟩
 show wpAny _ _ (assign (.Name y py) X.env (.ref Da)) _ _ s5
 have cL:C≠X.env.locals:=Nat.ne_of_gt (Nat.lt_of_lt_of_le I2.lt L.cn)
 have cc:∀ z c,X.env.cells.lookup z=some c->c≠C:=fun z c e=>by
  obtain ⟨v,k⟩:=I2.cell z c e
  exact Nat.ne_of_lt (Nat.lt_of_lt_of_le k.lt L.cn)
 refine wpAny_assign_Name (J8 I7 hN hj (.inl hy) (v:=.ref Da) rfl (fun s8 I8 sm=>?_) (.inr hy))
 obtain ⟨a,sba,ha⟩:=sm
 have ac:C≠a:=by
  rcases ha with rfl|ha
  ·exact cL
  ·exact Ne.symm (cc _ _ ha)
 obtain ⟨mC,o,es,ep,e1,e2⟩:=L.ns
 refine ⟨mC,⟨o,es,ep,(sba.2 C ac).trans e1,e2⟩,fun h' sb=>⟨_,_,?_,q⟩⟩
 refine I8.turned (it:=C) (h':=h') (t':=s8.toks) (fun b u nb e=>(sb.2 b nb).trans e) ?_ cL (.inr (Nat.le_trans I2.sz L.cn)) cc fun p hp z=>?_
 ·rw [zY (Ne.symm L.dc)]
  exact L.cf
 ·have:=Heap.lt_size (I2.pin p hp).1
  rw [z] at this
  exact absurd this (Nat.not_lt.mpr L.cn)
theorem Zg (hc:X.calm=true) (hi:PI X (.Name x px) iter wi) (hclos:closureFor scope X.env=pure cl) (hcell:∀ y∈scope.names,y.2≠.cell) (hkind:scope.kind=.function)
  (hnames:∀ y∈scope.names,y.2=.local->scope.names.lookup y.1=some .local) (hx:scope.names.lookup x=some .local) (nd:(x::ns).Nodup) (cap:Capt X scope cl ns idx)
  (hcl:∀ y c,cl.lookup y=some c->X.env.cells.lookup y=some c) (hfr:∀ y,((relabel scope X.env).names.lookup y=some .cell∨(relabel scope X.env).names.lookup y=some .free)->∃ c,cl.lookup y=some c)
  (hel:∀ (C:Addr) (s:Shared) (H:Hp) (fp:List Addr),PE (cxC X (x::ns) scope cl C s H fp) elt te) (hs:∀ v,foldedSetIterable iter X.env v=pure v:=by intro _; rfl) :
  PE X (.ListComp elt [⟨.Name x px,iter,[],0⟩] scope pos) (tLc wi idx te):=by
 intro pins s σ H Q I h
 rw [eval_ListComp]
 refine wpAny_comprehension_free (use:=none) rfl hs hclos hkind hnames (thn (hi pins s σ H _ I h) fun v s1 h1=>thn h1 fun itv s2 h2=>?_)
 refine lc_main (tt:=ttNil) hc hi hclos hcell hkind hnames hx nd cap hcl hfr (fun _ _ _ _=>pts_nil) hel (RR:=fun acc C=>compPost (model X.prog X.w) X.A X.xe none (EP X pins σ Q) acc C) (pie_toT h2) fun fp H2 H4 s5 C D ys I2 f2 L q=>?_
 obtain ⟨mC,hnC⟩:=L.ns
 exact ⟨mC,hnC,fun h' sb=>⟨.ref D,_,L.inv I2 f2 sb,rfl,q⟩⟩
end
theorem all_range_bl (bs:List Bool):(List.range bs.length).all (fun i=>bs.getD i false)=bs.all id:=by
 rw [Bool.eq_iff_iff,List.all_eq_true,List.all_eq_true]
 constructor
 ·intro h b hb
  obtain ⟨i,hi,rfl⟩:=List.mem_iff_getElem.mp hb
  have:=h i (List.mem_range.mpr hi)
  simpa [List.getD,hi] using this
 ·intro h i hi
  have hi':=List.mem_range.mp hi
  have:=h bs[i] (List.getElem_mem hi')
  simpa [List.getD,hi'] using this
section
variable {X:Cx}
noncomputable def rAll (K:PySem.W.Frag):List V->Hp->VK->Prop:=fun xs H Q=>∃ p,∃ bs:List Bool,xs=[.ref p]/\SqL K H p (bs.map V.bl)/\Q (.bl (bs.all id)) H
theorem YC {K:PySem.W.Frag} (hK:X.K=K) (hc:X.calm=true):jE X (.builtin "all") (rAll K):=by
 subst hK
 intro pins s σ H xs us Q I r h
 obtain ⟨p,bs,rfl,hp,q⟩:=h
 obtain ⟨u,rfl,rx⟩:=Zz r
 cases rx
 obtain ⟨its,r',pl,hz⟩:=I.list hp
 have hlen:=r'.length
 rw [List.length_map] at hlen
 have hlt:p < s.heap.objs.size:=by
  obtain ⟨o,n,e,_⟩:=pl
  exact Heap.lt_size e
 refine call_all_walk (wpAny_pyIter_list pl.isList ?_)
 refine ⟨s.heap.objs.size,[s.heap.objs.size,p],[s.heap.objs.size],its.toArray.size,fun i v=>its.toArray[i]?=some v,fun i h=>h.IsListIter s.heap.objs.size p i/\h.IsList p its.toArray,fun i=>bs.getD i false,rfl,Walks.list (A:=X.A.in1) (I.ok.hd hc) s.heap.objs.size p (Nat.ne_of_lt hlt) its.toArray,⟨⟨_,Heap.get?_push_size _ rfl,rfl,rfl⟩,pl.isList.push _⟩,?_,fun h' tk kk=>?_⟩
 ·intro i v z Q' E' hv hq
  have hv':its[i]?=some v:=by simpa using hv
  obtain ⟨hi,e⟩:=List.getElem?_eq_some_iff.mp hv'
  have hi':i < bs.length:=by omega
  have eb:(bs.map V.bl)[i]?=some (V.bl bs[i]):=by rw [List.getElem?_map,List.getElem?_eq_getElem hi']; rfl
  obtain ⟨w',hw,rw'⟩:=r'.get eb
  rw [hv'] at hw
  cases hw
  cases (show v=Value.bool bs[i] from rw')
  have e2:bs.getD i false=bs[i]:=by simp [List.getD,hi']
  dsimp only at hq
  rw [e2] at hq
  exact wpAny_truthy_bool hq
 ·rw [List.size_toArray,<- hlen,all_range_bl]
  refine ⟨.bl (bs.all id),H,I.kept (t':=tk) fun b o e=>?_,rfl,q⟩
  exact kk b o (fun z=>by
   have e':=List.mem_singleton.mp z
   have:=Heap.lt_size e
   rw [e'] at this
   exact Nat.lt_irrefl _ this) (Heap.get?_push_of_some _ e)
end
section
variable {prog:Program} {w:World} {A:Around} {E:Value->Shared->Prop} {s:Shared} {I l S:Addr} {items:Array Value}
end
section
variable {X:Cx}
end
section
variable {X:Cx}
end
noncomputable abbrev FQ (K:PySem.W.Frag) (H:Hp) (p:Addr) (x:Rat):Prop:=SqT K H p [.int x.num,.int ((x.den:Nat):Int)]
section
variable {K:PySem.W.Frag} {H H':Hp} {p q:Addr} {x y:Rat} {m n:Nat}
theorem FQ.cast (h:FQ K H p x) (e:x=y):FQ K H p y:=e▸h
theorem FQ.dp (h:FQ K H p x):Dp K H (.ref p) (.tuple [.int x.num,.int ((x.den:Nat):Int)]):=.tup h (.cons (.int _) (.cons (.int _) .nil))
theorem FQ.fit {t b:Int} (h:b≠0) (e:SqT K H p [.int (fT t b),.int (fB t b)]):FQ K H p (Rat.divInt t b):=by
 obtain ⟨e1,e2⟩:=q_fit (t:=t) h
 rw [e1,e2] at e
 exact e
theorem FQ.ofNeg {i:Int} (h:SqT K H p [.int i,.int ((x.den:Nat):Int)]) (e:i=-x.num):FQ K H p (-x):=by
 subst e
 exact h
noncomputable def FB (n:Nat) (x:Rat):Prop:=Bd n x.num/\Bd n ((x.den:Nat):Int)
theorem FB.mono (h:FB m x) (l:m<=n):FB n x:=⟨h.1.mono l,h.2.mono l⟩
theorem FB.cast (h:FB n x) (e:x=y):FB n y:=e▸h
theorem FB.fit {t b:Int} (h:b≠0) (g1:Bd n t) (g2:Bd n b):FB n (Rat.divInt t b):=by
 obtain ⟨e1,e2⟩:=q_fit (t:=t) h
 refine ⟨?_,?_⟩
 ·rw [<- e1]; exact bd_fT h g1
 ·rw [<- e2]; exact bd_fB h g2
theorem q_ne (x:Rat):((x.den:Nat):Int)≠0:=by have:=Yd x; omega
theorem Zj (h:x≠0):x.num≠0:=fun e=>h (Rat.num_eq_zero.mp e)
theorem FB.add (h:FB m x) (g:FB n y):FB (m+n+1) (x+y):=by
 rw [<- q_add]
 exact FB.fit (Int.mul_ne_zero (q_ne x) (q_ne y)) ((h.1.mul g.2).add ((g.1.mul h.2).mono (by omega))) ((h.2.mul g.2).mono (by omega))
theorem FB.sub (h:FB m x) (g:FB n y):FB (m+n+1) (x - y):=by
 rw [<- q_sub]
 exact FB.fit (Int.mul_ne_zero (q_ne x) (q_ne y)) ((h.1.mul g.2).sub ((g.1.mul h.2).mono (by omega))) ((h.2.mul g.2).mono (by omega))
theorem FB.mul (h:FB m x) (g:FB n y):FB (m+n) (x * y):=by
 rw [<- q_mul]
 exact FB.fit (Int.mul_ne_zero (q_ne x) (q_ne y)) (h.1.mul g.1) (h.2.mul g.2)
theorem FB.div (h:FB m x) (g:FB n y) (y0:y≠0):FB (m+n) (x / y):=by
 rw [<- q_div]
 exact FB.fit (Int.mul_ne_zero (q_ne x) (Zj y0)) (h.1.mul g.2) (h.2.mul g.1)
theorem FB.neg (h:FB n x):FB n (-x):=by
 refine ⟨?_,h.2⟩
 have:=h.1
 unfold Bd at this ⊢
 rw [(q_neg x).1]
 omega
theorem FB.ofInt {i:Int} (h:Bd n i) (l:64<=n):FB n (i:Rat):=⟨h,(Bd.small (i:=1) (by decide) (by decide)).mono l⟩
theorem ZD {b g:Int} (hb:Bd n b) (d:g ∣ b) (g0:g≠0):Bd n (b.fdiv g):=by
 refine hb.of_le ?_
 have e:=yn d
 have q:=jk (x:=b.fdiv g) g0
 rw [e] at q
 exact q
theorem JE {a b:Int} (h:b≠0) (hb:Bd n b):Bd n ((Int.gcd a b:Nat):Int):=by
 refine hb.of_le ?_
 have hd:Int.gcd a b ∣ b.natAbs:=Nat.gcd_dvd_right _ _
 have:=Nat.le_of_dvd (by omega) hd
 omega
end
theorem But.fresh {b:Addr} {H H':Hp} (h:H b=none) (s:But b H H'):Same H H':=fun a o e=>s a o (zO e h) e
theorem JH (ns:List Int) (d:Int) (lo:0<=d) (hi:d < (ns.length:Int)):∃ v,atI (ns.map V.int) d=some (.int v)/\v∈ns:=by
 have hk:d.toNat < ns.length:=by omega
 have ek:d=((d.toNat:Nat):Int):=by omega
 have z:atI (ns.map V.int) ((d.toNat:Nat):Int)=some (.int ns[d.toNat]):=yB (by rw [List.getElem?_map,List.getElem?_eq_getElem hk]<;>rfl)
 rw [<- ek] at z
 exact ⟨_,z,List.getElem_mem hk⟩
theorem Scr.same {K:PySem.W.Frag} {H H':Hp} {a:Addr} (h:Scr K H a) (s:Same H H'):Scr K H' a:=by
 obtain ⟨ns,x,y⟩:=h
 exact ⟨ns,s.seq x,y⟩
theorem Fn.imp {P:Program} {w:World} {K:PySem.W.Frag} {mg:Str->Option Value} {base:Heap} {k:Nat} {x:Str} {ps:List Str} {sp sp':Sp} (F:Fn P w K mg base k x ps sp) (h:∀ vs H Q E,sp' vs H Q E->sp vs H Q E):Fn P w K mg base k x ps sp':=by
 obtain ⟨f,fd,g,r⟩:=F.ex
 exact ⟨f,fd,g.imp h,r⟩
theorem ZV {c:Prop} [Decidable c] {A B:Prop} (h1:¬ c->A) (h2:c->B):if (!decide c)=true then A else B:=by
 by_cases e:c
 ·rw [decide_eq_true e]; exact iteF (h2 e)
 ·rw [decide_eq_false e]; exact iteT (h1 e)
section
variable {X:Cx}
noncomputable def rAl (K:PySem.W.Frag) (r:Bool):V->V->Hp->VK->Prop:=fun x y H Q=>∃ d,Dp K H x d/\Dp K H y d/\d.canLay0=true/\Nat.ble d.depth 60=true/\Q (.bl r) H
theorem op_neA {K:PySem.W.Frag} (hK:X.K=K) (hu:X.A.units+100 < cLine):OpR X (compareOp .NotEq) (rAl K false):=by
 intro pins s σ H x y v u Q I rx ry h
 obtain ⟨d,hx,hy,c,dep,q⟩:=h
 refine op_neD hK hu pins s σ H x y v u Q I rx ry ⟨d,d,hx,hy,c,c,?_,?_⟩
 ·have:=Nat.le_of_ble_eq_true dep
  omega
 ·rw [SeqAt.eqv_refl d c]
  exact q
theorem q_list {x y:Rat}:([x.num,((x.den:Nat):Int)]=[y.num,((y.den:Nat):Int)])↔x=y:=by
 constructor
 ·intro e
  simp only [List.cons.injEq,and_true] at e
  exact Rat.ext e.1 (by omega)
 ·intro e
  rw [e]
theorem op_eqQ {K:PySem.W.Frag} (hK:X.K=K) (hu:X.A.units+100 < cLine):OpR X (compareOp .Eq) (fun a b H Q=>∃ (p q:Addr) (x y:Rat),a=.ref p/\b=.ref q/\FQ K H p x/\FQ K H q y/\Q (.bl (decide (x=y))) H):=by
 subst hK
 intro pins s σ H a b v u Q I rx ry h
 obtain ⟨p,q,x,y,rfl,rfl,hx,hy,k⟩:=h
 refine op_eqTI (by omega) pins s σ H _ _ v u Q I rx ry ⟨p,q,[x.num,((x.den:Nat):Int)],[y.num,((y.den:Nat):Int)],rfl,rfl,hx,hy,?_⟩
 rw [decide_eq_decide.mpr q_list]
 exact k
noncomputable def IsTup2 (K:PySem.W.Frag) (H:Hp) (x c:V) (b:Bool):Prop:=IsI K H x c b∨∃ a xs,x=.ref a∧SqT K H a xs∧PySem.W.kitOne K (.type "tuple") (valC c)=some b
theorem Zl {K:PySem.W.Frag} (hK:X.K=K):jE X (.builtin "isinstance") (fun xs H Q=>∃ x c b,xs=[x,c]∧((∃ T,c=.ty T)∨∃ C,c=.ref C)∧IsTup2 K H x c b∧Q (.bl b) H):=by
 subst hK
 intro pins s σ H xs us Q I r h
 obtain ⟨x,c,b,e0,hc,hi,q⟩:=h
 rcases hi with hi|⟨a,ys,rfl,ha,e⟩
 ·exact jX pins s σ H xs us Q I r ⟨x,c,b,e0,hc,hi,q⟩
 subst e0
 obtain ⟨u,w',rfl,rx,rc⟩:=vals2 r
 have ec:w'=valC c:=by
  rcases hc with ⟨T,rfl⟩|⟨C,rfl⟩
  ·exact rc
  ·exact rc
 subst ec
 cases (show u=Value.ref a from rx)
 obtain ⟨its,_,⟨o,h1,h2,_⟩,_⟩:=I.tuple ha
 exact PySem.W.kia_one PySem.W.kitx_tuple I.kIn ⟨o,h1,h2⟩ e (fun z=>nomatch z) fun tk=>⟨.bl b,H,I.tok _,rfl,q⟩
end
section
variable {K:PySem.W.Frag} {idx:List Nat} {te:TE} {σ:L2.St} {H:Hp} {Q:VK}
theorem jH {a:Addr} {xs:List V} (Pv:Nat->List V->Hp->Prop) (h0:Pv 0 [] H) (hz:xs.length<=sizeLine) (hy:∀ i ys H,Pv i ys H->ys.length=i) (hl:∀ i ys H,Pv i ys H->SqL K H a xs)
  (hs:∀ i x ys H (Q':VK),xs[i]?=some x->Pv i ys H->(∀ v H2,Pv (i+1) (ys++[v]) H2->Q' v H2)->te (stIn (some x) idx σ) H Q') (hd:∀ ys H,Pv xs.length ys H->∀ p,H p=none->Q (.ref p) (upd H p (.lst ys))) :
  Z3 (Itl K a) idx te σ Q H:=by
 refine ⟨fun i m ys H=>m=xs.length - i/\i<=xs.length/\Pv i ys H,⟨xs.length,by simp,Nat.zero_le _,h0⟩,?_⟩
 rintro i m ys H ⟨rfl,hi,p⟩
 have q:=hl i ys H p
 refine ⟨by rw [hy i ys H p]; omega,?_⟩
 by_cases hlt:i < xs.length
 ·refine .inr ⟨⟨xs,xs[i],q,by simp [hlt]⟩,fun y H' yl=>?_⟩
  obtain ⟨e,yl⟩:=yl
  subst e
  exact hs i y ys _ _ (yl xs q) p fun v H2 z=>⟨xs.length - (i+1),by omega,rfl,hlt,z⟩
 ·have e:i=xs.length:=by omega
  subst e
  exact .inl ⟨⟨xs,q,Nat.le_refl _⟩,hd ys H p⟩
end
theorem Zr {names:List (Str × NameKind)} {cl:List (Str × Addr)} (h:names.all (fun z=>z.2 != .cell && z.2 != .free)=true):∀ y,(names.lookup y=some .cell∨names.lookup y=some .free)->∃ c,cl.lookup y=some c:=fun y hy=>by
 have mem:∀ (l:List (Str × NameKind)) k,l.lookup y=some k->∃ z∈l,z.2=k:=fun l=>by
  induction l with
  |nil=>intro k e; cases e
  |cons a r ih=>
   intro k e
   rw [List.lookup_cons] at e
   split at e
   ·exact ⟨a,List.mem_cons_self,Option.some.inj e⟩
   ·obtain ⟨z,hz,ez⟩:=ih k e
    exact ⟨z,List.mem_cons_of_mem _ hz,ez⟩
 rcases hy with e|e
 all_goals
  obtain ⟨z,hz,ez⟩:=mem _ _ e
  have:=List.all_eq_true.mp h z hz
  rw [ez] at this
  simp at this
theorem jr {X:Cx} {scope:Scope} {cl:List (Str × Addr)}:Capt X scope cl [] []:=⟨rfl,fun k y h=>by simp at h⟩
section
variable {K:PySem.W.Frag} {H H':Hp} {b:Addr} {v:V}
theorem kit_lst_lst:PySem.W.kitOne K (.type "list") (.type "list")=some true:=by with_unfolding_all rfl
end
section
variable {K:PySem.W.Frag} {H H':Hp} {b c:Addr} {x:V}
end
theorem je {X:Cx} {scope:Scope} {cl:List (Str × Addr)} {y:Str} {j:Nat} {c:Addr} (h1:X.N[j]?=some y) (h2:X.env.kindOf y=some .cell) (h3:X.env.cells.lookup y=some c) (h4:cl.lookup y=some c)
  (h5:(relabel scope X.env).names.lookup y=some .cell∨(relabel scope X.env).names.lookup y=some .free):Capt X scope cl [y] [j]:=
 ⟨rfl,fun k z h=>by
  cases k with
  |zero=>cases h; exact ⟨j,c,rfl,h1,h2,h3,h4,h5⟩
  |succ k=>simp at h⟩
theorem ZR {names:List (Str × NameKind)} {cl:List (Str × Addr)} (h:names.all (fun z=>(z.2 != .cell && z.2 != .free) || (cl.lookup z.1).isSome)=true):∀ y,(names.lookup y=some .cell∨names.lookup y=some .free)->∃ c,cl.lookup y=some c:=fun y hy=>by
 have mem:∀ (l:List (Str × NameKind)) k,l.lookup y=some k->(y,k)∈l:=fun l=>by
  induction l with
  |nil=>intro k e; cases e
  |cons a r ih=>
   intro k e
   rw [List.lookup_cons] at e
   split at e
   ·rename_i q
    have e1:y=a.1:=by simpa using q
    have e2:=Option.some.inj e
    rw [e1,<- e2]
    exact List.mem_cons_self
   ·exact List.mem_cons_of_mem _ (ih k e)
 rcases hy with e|e
 all_goals
  have:=List.all_eq_true.mp h _ (mem _ _ e)
  exact Option.isSome_iff_exists.mp (by simpa using this)
end Kw
theorem Kw.ixT {X:L2.Cx} {K:PySem.W.Frag} (hK:X.K=K):L2.IxR X (L2.rIxT K):=by
 subst hK
 exact L2.ix_tup
namespace Kw
open PySem PySem.Spec PyProof.Rows L2
section
variable {K:PySem.W.Frag} {H:Hp} {b:Addr} {x:V}
end
noncomputable def Al2 {β:Type} (R:V->β->Prop):List V->List β->Prop
 |[],[]=>True
 |x::xs,b::bs=>R x b/\Al2 R xs bs
 |_,_=>False
section
variable {β:Type} {R R':V->β->Prop}
theorem Al2.imp (h:∀ x b,R x b->R' x b):∀ {xs:List V} {bs:List β},Al2 R xs bs->Al2 R' xs bs
 |[],[],_=>trivial
 |_::_,_::_,z=>⟨h _ _ z.1,Al2.imp h z.2⟩
 |[],_::_,z=>z.elim
 |_::_,[],z=>z.elim
theorem Al2.len:∀ {xs:List V} {bs:List β},Al2 R xs bs->xs.length=bs.length
 |[],[],_=>rfl
 |_::_,_::_,z=>by simp [Al2.len z.2]
 |[],_::_,z=>z.elim
 |_::_,[],z=>z.elim
theorem Al2.get:∀ {xs:List V} {bs:List β} {i:Nat} {x:V},Al2 R xs bs->xs[i]?=some x->∃ b,bs[i]?=some b/\R x b
 |[],_,_,_,_,e=>by simp at e
 |_::_,[],_,_,z,_=>z.elim
 |_::_,b::_,0,_,z,e=>by
  simp only [List.getElem?_cons_zero,Option.some.injEq] at e
  subst e
  exact ⟨b,rfl,z.1⟩
 |_::_,_::_,i+1,_,z,e=>by
  simp only [List.getElem?_cons_succ] at e
  obtain ⟨b,h1,h2⟩:=Al2.get z.2 e
  exact ⟨b,by simpa using h1,h2⟩
theorem Al2.snoc:∀ {xs:List V} {bs:List β} {x:V} {b:β},Al2 R xs bs->R x b->Al2 R (xs++[x]) (bs++[b])
 |[],[],_,_,_,h=>⟨h,trivial⟩
 |_::_,_::_,_,_,z,h=>⟨z.1,Al2.snoc z.2 h⟩
 |[],_::_,_,_,z,_=>z.elim
 |_::_,[],_,_,z,_=>z.elim
theorem zZ {bs:List β} {i:Nat} {b:β} (h:bs[i]?=some b):bs.take (i+1)=bs.take i++[b]:=by
 rw [List.take_add_one,h]
 rfl
end
section
variable {K:PySem.W.Frag} {H H':Hp} {n m:Nat} {x:V} {q:Rat} {b:Rat × Rat × Int}
end
noncomputable def sumQ (qs:List Rat):Rat:=qs.foldl (fun a b=>a+b) 0
theorem sumQ_snoc (qs:List Rat) (q:Rat):sumQ (qs++[q])=sumQ qs+q:=by
 unfold sumQ
 rw [List.foldl_append]
 rfl
section
variable {X:Cx} {K:PySem.W.Frag}
noncomputable def tGlobT (K:PySem.W.Frag) (t b:Int):TE:=fun _ H Q=>∀ N,(∀ H1,SqT K H1 N [.int t,.int b])->Q (.ref N) H
theorem zm {x:Str} {t b:Int} {pos:Pos} (hK:X.K=K) (hg:Gl X x) (hm:∃ N,X.mg x=some (.ref N)∧∀ H,SqT K H N [.int t,.int b]) (hd:(x == ("__debug__" : Str))=false:=by decide):PE X (.Name x pos) (tGlobT K t b):=by
 obtain ⟨N,hm,hN⟩:=hm
 intro pins s σ H Q I h
 exact pe_glob hg hm (v:=.ref N) rfl hd pins s σ H Q I (h N hN)
theorem Jw {A:Addr} {o:Option Addr} {t b:Int} {k1 k2:Tok} {n:Nat} {sl:Array (Option Value)} (h:K.lookup A=some ⟨.type "tuple",o,.seq #[.int t k1,.int b k2] n,sl⟩):∀ H,SqT K H A [.int t,.int b]:=fun H=>
 .inr ⟨_,_,_,h,rfl,rfl,by show 2<=sizeLine; decide,.cons ⟨_,rfl⟩ (.cons ⟨_,rfl⟩ .nil)⟩
end
section
variable {pr:Program} {wd:World} {Ar:Around} {Er:Value->Shared->Prop}
end
section
variable {X:Cx} {pos:Pos}
end
section
variable {K:PySem.W.Frag} {te:TE} {σ:L2.St} {H:Hp} {Q:VK} {idx:List Nat}
end
section
variable {K:PySem.W.Frag} {H H':Hp} {n:Nat} {x:V} {q:Rat} {b:Rat × Rat × Int} {c:Addr} {zs xs:List V} {bs:List (Rat × Rat × Int)}
noncomputable def frD (q:Rat):PyData:=.tuple [.int q.num,.int ((q.den:Nat):Int)]
theorem newB {H:Hp} {p:Addr} (o:HO):∃ H',upd H p o=H'/\But p H H'/\H' p=some o:=⟨_,rfl,but_upd _,zk⟩
theorem Zk {H H':Hp} {a c:Addr} (s:But c H H') (h:H' a=none) (n:a≠c):H a=none:=by
 cases e:H a with
 |none=>rfl
 |some o=>have:=s _ _ n e; rw [h] at this; cases this
end
section
end
theorem most_of (ns:List Int) (N:Int) (h:1<=N):∃ m:Int,(if (if N < (((ns.map V.int).length:Nat):Int) then N else (((ns.map V.int).length:Nat):Int)) > 1 then (if N < (((ns.map V.int).length:Nat):Int) then N else (((ns.map V.int).length:Nat):Int)) else 1)=m/\1<=m/\m<=N:=by
 refine ⟨_,rfl,?_⟩
 split
 ·split<;>omega
 ·omega
section
variable {X:Cx} {pins:List (Addr × Obj)} {σ:L2.St} {H:Hp} {s:Shared} {N ns xs:List Str} {scope:Scope} {cl:List (Str × Addr)} {C:Addr} {fp:List Addr} {idx:List Nat}
end
section
variable {X:Cx} {elt iter tg:Expr} {ifs:List Expr} {xs:List Str} {pos:Pos} {scope:Scope} {cl:List (Str × Addr)} {wi:TI} {g:TG} {tt:TT} {te:TE} {ns:List Str} {idx:List Nat}
end
section
variable {K:PySem.W.Frag} {te:TE} {tt:TT} {g:TG} {σ:L2.St} {H:Hp} {Q:VK} {idx:List Nat} {k:Nat}
end
section
variable {X:Cx} {pos:Pos}
end
theorem Zo (q:Rat) (qs:List Rat):sumQ (q::qs)=q+sumQ qs:=by
 have h:∀ (l:List Rat) (a:Rat),l.foldl (fun a b=>a+b) a=a+sumQ l:=by
  intro l
  induction l with
  |nil=>intro a; show a=a+0; grind
  |cons b l ih=>
   intro a
   show l.foldl _ (a+b)=a+l.foldl (fun a b=>a+b) (0+b)
   rw [ih,ih]
   grind
 show qs.foldl (fun a b=>a+b) (0+q)=_
 rw [h]
 grind
theorem Al2.set {β:Type} {R:V->β->Prop}:∀ {xs:List V} {bs:List β} {j:Nat} {x:V} {b:β},Al2 R xs bs->R x b->Al2 R (xs.set j x) (bs.set j b)
 |[],[],_,_,_,_,_=>trivial
 |_::_,_::_,0,_,_,z,h=>⟨h,z.2⟩
 |_::_,_::_,j+1,_,_,z,h=>⟨z.1,Al2.set z.2 h⟩
 |[],_::_,_,_,_,z,_=>z.elim
 |_::_,[],_,_,_,z,_=>z.elim
noncomputable def Ite (K:PySem.W.Frag) (a:Addr):It where
 go:=fun i H=>∃ xs x,SqL K H a xs/\xs[i]?=some x
 yld:=fun i H v H'=>∃ p x,v=.ref p/\H p=none/\H'=upd H p (.tup [.int (i:Int),x])/\∀ xs,SqL K H a xs->xs[i]?=some x
 stop:=fun i H=>∃ xs,SqL K H a xs/\xs.length<=i
structure EnumAt (e it a:Addr) (i:Nat) (h:Heap):Prop where
 en:∃ old,IsEnum h e it (i:Int) old
 ji:h.IsListIter it a i
theorem turn_enum {P:Program} {w:World} {K:PySem.W.Frag} {elts:List Expr} {x1} {pos:Pos} (e it a:Addr) (ne:e≠it) :
  Turn P w K (.Tuple elts x1 pos) (Ite K a) [e,it] e (fun i h=>EnumAt e it a i h) where
 mem:=by simp
 obj:=fun i h st c hc=>by
  obtain ⟨⟨old,en⟩,⟨o1,e1,_,c1⟩⟩:=st
  simp only [List.mem_cons,List.not_mem_nil,or_false] at hc
  rcases hc with rfl|rfl
  ·exact ⟨_,en,fun v q=>nomatch q⟩
  ·exact ⟨_,e1,fun v q=>by rw [c1] at q; cases q⟩
 keep:=fun i h h' st k=>by
  obtain ⟨⟨old,en⟩,⟨o1,e1,b1,c1⟩⟩:=st
  exact ⟨⟨old,k e (by simp) _ en⟩,⟨o1,k it (by simp) _ e1,b1,c1⟩⟩
 item:=by
  intro X hP hw hK hc i pins s σ H E I hf st hg
  subst hP hw hK
  obtain ⟨xs,x,hx,ex⟩:=hg
  obtain ⟨its,rv,p,hz⟩:=I.list hx
  obtain ⟨u,hu,ru⟩:=rv.get ex
  obtain ⟨⟨old,en⟩,ji⟩:=st
  refine wpAny_pyNext_enum_item en ji p.isList (x:=u) (by simpa using hu) ne fun h1 eo j1 pt sz kp=>?_
  refine ⟨_,rfl,wpAny_letOwnedTupleGo_enum eo fun h2 e2 sb=>?_⟩
  have I1:Inv X pins σ H {s with heap:=h1,toks:=s.toks+1}:=Kw.Inv.turnedL (t':=s.toks+1) (ch:=[e,it]) I (fun c o hc q=>by
   simp only [List.mem_cons,List.not_mem_nil,or_false,not_or] at hc
   exact kp c o hc.1 hc.2 q) hf
  have I2:Inv X pins σ H {s with heap:=h2,toks:=s.toks+1}:=Kw.Inv.turnedL (s:={s with heap:=h1,toks:=s.toks+1}) (t':=s.toks+1) (ch:=[e,it]) I1 (fun c o hc q=>by
   simp only [List.mem_cons,List.not_mem_nil,or_false,not_or] at hc
   exact (sb.2 c hc.1).trans q) hf
  have nn:H s.heap.objs.size=none:=I.hok.fresh (Nat.le_refl _)
  have zl:e≠s.heap.objs.size:=Nat.ne_of_lt (Heap.lt_size en)
  have kk:∀ c,c≠e->h2.get? c=h1.get? c:=fun c hc=>sb.2 c hc
  have pp2:h2.get? s.heap.objs.size=some {cls:=.type "tuple",data:=.seq #[.int i s.toks,u]}:=(kk _ (Ne.symm zl)).trans pt
  have I3:Inv X pins σ (upd H s.heap.objs.size (.tup [.int (i:Int),x])) {s with heap:=h2,toks:=s.toks+1}:=by
   refine Kw.Inv.adopt (fun q c hq z'=>?_) I2 (Heap.get?_none_of_le I.sz) nn (fun z'=>?_) (fun q hq z'=>?_) ⟨by show 2<=sizeLine; decide,[.int i s.toks,u],.cons ⟨_,rfl⟩ (.cons ru .nil),⟨_,pp2,rfl,0,rfl⟩⟩
   ·obtain ⟨_,o,q,_⟩:=I.cell q c hq
    exact absurd (Heap.lt_size q) (by rw [z']; exact Nat.lt_irrefl _)
   ·exact absurd I.lt (by rw [<- z']; exact Nat.lt_irrefl _)
   ·exact absurd (Heap.lt_size (I.pin q hq).1) (by rw [z']; exact Nat.lt_irrefl _)
  refine ⟨.ref s.heap.objs.size,_,I3,rfl,⟨_,x,rfl,nn,rfl,fun zs hzs=>by rw [I.list_inj hzs hx]; exact ex⟩,⟨⟨u,by simpa using e2⟩,?_⟩,fun c hc=>?_⟩
  ·obtain ⟨o1,q1,r1⟩:=j1
   exact ⟨o1,(kk _ (Ne.symm ne)).trans q1,r1⟩
  ·have lc:c≠s.heap.objs.size:=by
    simp only [List.mem_cons,List.not_mem_nil,or_false] at hc
    obtain ⟨o1,q1,_⟩:=ji
    rcases hc with rfl|rfl
    ·exact zl
    ·exact Nat.ne_of_lt (Heap.lt_size q1)
   rw [zY lc]
   exact (hf c hc).1
 done:=by
  intro X hP hw hK hc i pins s σ H E I hf st hg
  subst hP hw hK
  obtain ⟨xs,hx,hl⟩:=hg
  obtain ⟨its,rv,p,hz⟩:=I.list hx
  obtain ⟨⟨old,en⟩,ji⟩:=st
  have l1:=rv.length
  exact wpAny_pyNext_enum_end (I.ok.hd hc) en ji p.isList (by simp; omega) fun h1 eb=>⟨rfl,Kw.Inv.turnedL (t':=s.toks) (ch:=[e,it]) I (fun c o hc q=>by
   simp only [List.mem_cons,List.not_mem_nil,or_false,not_or] at hc
   exact eb c o hc.2 q) hf⟩
 self:=fun _ _ _ _ _ st h=>let ⟨_,q⟩:=st.en; wpAny_pyIter_enum q h
noncomputable def iEnum (K:PySem.W.Frag) (ta:TA):TI:=fun σ H R=>ta σ H fun vs H1=>∃ a xs,vs=[.ref a]/\SqL K H1 a xs/\R (Ite K a) H1
theorem pi_enum {X:Cx} {elts:List Expr} {x1} {tpos p pos:Pos} {e1:Expr} {ta:TA} (hg:Gl X "enumerate") (hm:X.mg "enumerate"=none) (ha:PA X [e1] ta) (hs:starEach [e1] X.env=[(false,eval e1 X.env)]:=by rfl) :
  PI X (.Tuple elts x1 tpos) (.Call (.Name "enumerate" p) [e1] [] pos) (iEnum X.K ta):=by
 intro pins s σ H R I h
 refine Call_ (ZQ I hg hm PyProof.Rows.Boot.«enumerate» (PyProof.Rows.callWith_type1 (thn (ha pos pins s σ H _ I h) fun us s1 ⟨vs,H1,I1,r1,q1⟩=>?_) hs rfl))
 obtain ⟨a,xs,rfl,hx,q⟩:=q1
 obtain ⟨u,rfl,ru⟩:=Zz r1
 cases (show u=Value.ref a from ru)
 obtain ⟨its,_,pa,_⟩:=I1.list hx
 refine call_enumerate_list pa.isList fun h' en ji sz kp=>?_
 refine wpAny_pyIter_enum en ?_
 refine ⟨_,[s1.heap.objs.size+1,s1.heap.objs.size],_,_,H1,rfl,I1.kept (t':=s1.toks) kp,turn_enum _ _ a (Nat.succ_ne_self _),⟨⟨_,en⟩,ji⟩,fun c hc=>?_,q⟩
 have lc:s1.heap.objs.size<=c:=by
  simp only [List.mem_cons,List.not_mem_nil,or_false] at hc
  rcases hc with rfl|rfl
  ·exact Nat.le_succ _
  ·exact Nat.le_refl _
 exact I1.fpOk lc (I1.hok.fresh lc)
theorem for_enum {K:PySem.W.Frag} {a:Addr} {xs:List V} {g:TG} {tb:TS} {D:Ends} {σ:L2.St} {H:Hp} (Pv:Nat->L2.St->Hp->Prop) (h0:Pv 0 σ H) (hl:∀ i σ H,Pv i σ H->SqL K H a xs)
  (hs:∀ i x σ H,xs[i]?=some x->Pv i σ H->∀ p H',Same H H'->H p=none->H' p=some (.tup [.int (i:Int),x])->g (.ref p) σ H' fun σ2 H2=>tb {D with nx:=Pv (i+1),ct:=Pv (i+1),bk:=D.nx} σ2 H2) (hd:∀ σ H,Pv xs.length σ H->D.nx σ H) :
  ∃ W:Nat->Nat->L2.St->Hp->Prop,(∃ m,W 0 m σ H)/\∀ i m σ H,W i m σ H->
   ((Ite K a).stop i H/\D.nx σ H)∨((Ite K a).go i H/\∃ N:L2.St->Hp->Prop,(∀ σ' H',N σ' H'->∃ m',m' < m/\W (i+1) m' σ' H')/\∀ x H',(Ite K a).yld i H x H'->g x σ H' fun σ2 H2=>tb {D with nx:=N,ct:=N,bk:=D.nx} σ2 H2):=by
 refine ⟨fun i m σ H=>m+i=xs.length/\Pv i σ H,⟨xs.length,rfl,h0⟩,?_⟩
 rintro i m σ H ⟨hm,pv⟩
 have l1:=hl i σ H pv
 by_cases hlt:i < xs.length
 ·refine .inr ⟨⟨xs,xs[i],l1,List.getElem?_eq_getElem hlt⟩,Pv (i+1),fun σ' H' p'=>⟨m - 1,by omega,by omega,p'⟩,fun v H' y=>?_⟩
  obtain ⟨q,x',rfl,hq,rfl,ex⟩:=y
  exact hs i x' σ H (ex xs l1) pv q _ (jt hq _) hq zk
 ·have e:i=xs.length:=by omega
  subst e
  exact .inl ⟨⟨xs,l1,Nat.le_refl _⟩,hd σ H pv⟩
section
variable {prog:Program} {w:World} {A:Around} {E:Value->Shared->Prop} {h:Heap} {g:Array GenState} {d:Drawn} {t:Nat} {os:OsState} {C f:Addr} {K:PySem.W.Frag}
end
section
variable {prog:Program} {w:World} {A:Around} {E:Value->Shared->Prop} {h:Heap} {g:Array GenState} {d:Drawn} {t:Nat} {os:OsState} {C e:Addr} {K:PySem.W.Frag} {oe:Obj} {vs:Array Value}
end
end Kw
namespace Kw
open PySem PySem.Spec PyProof.Rows L2 PySem.Builtin PySem.Builtin.ObjectAttr
section
variable {prog:Program} {w:World} {A:Around} {R:Result->Shared->Prop} {s:Shared} {K:PySem.W.Frag} {x C:Addr} {ox:Obj} {od:Option Obj} {name:Str} {tk:Tok} {v:Value}
end
end Kw
namespace Kw
open PySem PySem.Spec PyProof.Rows L2 PySem.Builtin PySem.Builtin.ObjectAttr
section
variable {prog:Program} {w:World} {A:Around} {R:Result->Shared->Prop} {s:Shared} {K:PySem.W.Frag} {x C:Addr} {ox:Obj} {od:Option Obj} {name:Str} {tk:Tok} {v:Value}
end
end Kw
namespace Kw
open PySem PySem.Spec PyProof.Rows L2 PySem.Builtin PySem.Builtin.ObjectAttr
section
variable {prog:Program} {w:World} {A:Around} {E:Value->Shared->Prop} {s:Shared} {K:PySem.W.Frag} {x C:Addr} {ox:Obj} {odx:Obj} {name:Str} {v:Value}
end
end Kw
namespace Kw
open PySem PySem.Spec PyProof.Rows L2
section
variable {P:Program} {w:World} {H:Hp} {h:Heap} {x C d:Addr} {od:Option Addr} {fs:List (Str × V)}
end
section
variable {P:Program} {w:World} {K:PySem.W.Frag} {mg:Str->Option Value} {base:Heap} {C:Addr} {qual:Str} {st:Stmt} {N ps:List Str} {k:Nat} {sp:Sp}
end
section
variable {X:Cx} {pins:List (Addr × Obj)} {σ:L2.St} {H:Hp} {s:Shared} {k k':Nat} {f C CK:Addr} {fd:FuncData} {ps:List Str} {sp:Sp} {E:XK} {x:Str} {p pos apos:Pos} {e:Expr} {es:List Expr} {t:TA}
variable {o value:Expr} {f:Str} {pos':Pos} {ta tv:TE}
end
noncomputable def clsAt (l:List Addr) (n:Nat):Addr:=l.getD n 0
section
variable {X:Cx} {E:XK} {e:Expr} {te:TE} {pos:Pos}
variable {o:Expr} {f:Str} {ta:TE}
end
section
variable {X:Cx} {pins pins':List (Addr × Obj)} {σ:L2.St} {H:Hp} {s:Shared} {E0:Value->Shared->Prop}
end
section
variable {X:Cx} {pins:List (Addr × Obj)} {H:Hp} {s:Shared} {hc:Heap} {x CA:Addr} {od:Option Addr}
end
section
variable {X:Cx} {pins:List (Addr × Obj)} {σ:L2.St} {H:Hp} {s:Shared}
end
section
variable {X:Cx} {j:Nat} {n xK:Str} {CK:Addr} {ts:TS} {b₀:Stmt} {suite:List Stmt} {kp hpos pos:Pos} {rest:List ExceptHandler} {tr:Ends->Addr->Option Addr->Hp->Prop}
variable {body:List Stmt} {tb:XK->TS} {th:Ends->Addr->Option Addr->Hp->Prop} {h₀:ExceptHandler} {hs:List ExceptHandler}
end
section
variable {X:Cx}
noncomputable def rEqNil (K:PySem.W.Frag):V->V->Hp->VK->Prop:=fun x y H Q=>∃ a b xs,x=.ref a/\y=.ref b/\SqL K H a xs/\SqL K H b []/\Q (.bl xs.isEmpty) H
theorem op_eqNil {K:PySem.W.Frag} (hK:X.K=K) (hu:X.A.units+100 < cLine):OpR X (compareOp .Eq) (rEqNil K):=by
 subst hK
 intro pins s σ H x y v u Q I rx ry h
 obtain ⟨a,b,xs,rfl,rfl,ha,hb,q⟩:=h
 cases xs with
 |nil=>exact op_eqD rfl hu pins s σ H _ _ v u Q I rx ry ⟨.list [],.list [],.lst ha .nil,.lst hb .nil,rfl,rfl,by decide,q⟩
 |cons z zs=>
  cases (show v=Value.ref a from rx)
  cases (show u=Value.ref b from ry)
  obtain ⟨its,r,pl,hz⟩:=I.list ha
  obtain ⟨its2,r2,pl2,hz2⟩:=I.list hb
  have l1:=r.length
  have l2:=r2.length
  have w':=SeqAt.RcAt.lists_lengths pl.isList pl2.isList (by simp at l1 l2 ⊢; omega) (show X.A.units < cLine by omega)
  exact w' X.prog X.w X.xe _ ⟨.bl false,H,I,rfl,q⟩
end
section
variable {K:PySem.W.Frag} {idx:List Nat} {tt:TT} {te:TE} {σ:L2.St} {H:Hp} {Q:VK}
theorem lc_filter {a:Addr} {xs:List V} (p:V->Bool) (hl:SqL K H a xs) (hz:xs.length<=sizeLine) (ht:∀ x∈xs,∀ Q':Bool->Hp->Prop,Q' (p x) H->tt (stIn (some x) idx σ) H Q') (he:∀ x∈xs,∀ Q':VK,Q' x H->te (stIn (some x) idx σ) H Q')
  (hd:∀ q,H q=none->Q (.ref q) (upd H q (.lst (xs.filter p)))):ZF (Itl K a) idx tt te σ Q H:=by
 refine ⟨fun i m ys H'=>m=xs.length - i/\i<=xs.length/\H'=H/\ys=(xs.take i).filter p,⟨xs.length,by simp,Nat.zero_le _,rfl,by simp⟩,?_⟩
 rintro i m ys H' ⟨rfl,hi,rfl,rfl⟩
 refine ⟨Nat.le_trans (List.length_filter_le _ _) (by rw [List.length_take]; omega),?_⟩
 by_cases hlt:i < xs.length
 ·refine .inr ⟨⟨xs,xs[i],hl,by simp [hlt]⟩,fun y H' yl=>?_⟩
  obtain ⟨e,yl⟩:=yl
  subst e
  have hy:=yl xs hl
  have hm:y∈xs:=List.mem_of_getElem? hy
  have tk:=take_succ_filter p xs i y hy
  refine ht y hm _ ?_
  cases hp:p y with
  |true=>
   rw [hp] at tk
   rw [if_pos rfl]
   exact he y hm _ ⟨xs.length - (i+1),by omega,rfl,hlt,rfl,by rw [tk]; rfl⟩
  |false=>
   rw [hp] at tk
   rw [if_neg (by decide)]
   exact ⟨xs.length - (i+1),by omega,rfl,hlt,rfl,by rw [tk]; simp⟩
 ·have e:i=xs.length:=by omega
  subst e
  refine .inl ⟨⟨xs,hl,Nat.le_refl _⟩,?_⟩
  rw [List.take_length]
  exact hd
end
theorem atI_z {xs:List V} {j:Nat} {x:V} (h:xs[j]?=some x):atI xs (0+(j:Int))=some x:=by
 rw [Int.zero_add]
 exact yB h
section
variable {K:PySem.W.Frag} {te:TE} {tt:TT} {σ:L2.St} {H:Hp} {Q:VK} {idx:List Nat} {n:Nat}
end
section
variable {K:PySem.W.Frag} {H:Hp} {m n:Nat} {x:V} {b:Bod}
end
section
variable {B C:Int} {x y:Rat}
end
end Kw
namespace Kw
end Kw
namespace Kw
end Kw
namespace Kw
open PySem PySem.Spec PyProof.Rows L2
section
variable {X:Cx}
noncomputable def rBits:V->List V->Hp->VK->Prop:=fun x vs H Q=>∃ i:Int,x=.int i/\vs=[]/\Q (.int ((Builtin.Int.intBits i:Nat):Int)) H
theorem mt_bits:MtR X "int.bit_length" rBits:=by
 intro pins s σ H x vs v us Q I rx rv h
 obtain ⟨i,rfl,rfl,q⟩:=h
 obtain ⟨t,rfl⟩:=rx
 cases rv
 exact call_gives PySem.F.slot_int_bit_length (typeIs_int s i t) PySem.F.entry_int_bit_length (PySem.F.args_int_bit_length_1 _) (PySem.AutoIntG2.int_bit_length_int_0 i t) ⟨.int ((Builtin.Int.intBits i:Nat):Int),H,I.tok _,⟨_,rfl⟩,q⟩
end
noncomputable def JT:Sp:=fun vs H Q _=>∃ a b:Int,vs=[.int a,.int b]/\Bd 4000 b/\Q (.int ((Int.gcd a b:Nat):Int)) H
theorem short_min {a b:Int} (h:Bd 4000 b):¬ (((Builtin.Int.intBits (if (if b < 0 then -b else b) < (if a < 0 then -a else a) then (if b < 0 then -b else b) else (if a < 0 then -a else a)):Nat):Int) > 4000):=by
 have l:Bd 4000 (if (if b < 0 then -b else b) < (if a < 0 then -a else a) then (if b < 0 then -b else b) else (if a < 0 then -a else a)):=by
  refine h.of_le ?_
  split<;>split<;>(try split)<;>omega
 have:=l.bits
 omega
theorem q_invp {y:Rat} (h:0 < y.num):(y⁻¹).num=((y.den:Nat):Int)/\(((y⁻¹).den:Nat):Int)=y.num:=by
 have e:y⁻¹=Rat.inv y:=rfl
 rw [e]
 unfold Rat.inv
 rw [dif_neg (by omega),dif_pos h]
 exact ⟨rfl,by show ((y.num.natAbs:Nat):Int)=y.num; omega⟩
theorem q_invn {y:Rat} (h:y.num < 0):(y⁻¹).num=-((y.den:Nat):Int)/\(((y⁻¹).den:Nat):Int)=-y.num:=by
 have e:y⁻¹=Rat.inv y:=rfl
 rw [e]
 unfold Rat.inv
 rw [dif_pos h]
 exact ⟨rfl,by show ((y.num.natAbs:Nat):Int)=-y.num; omega⟩
theorem FB.inv {n:Nat} {y:Rat} (h:FB n y) (y0:y≠0):FB n y⁻¹:=(FB.fit (Zj y0) h.2 h.1).cast (q_inv y)
noncomputable def mixS (u v:Rat) (m w:Int) (s:Rat):Rat:=u * Rat.divInt (m * ((s.den:Nat):Int) - w * s.num) ((m+w) * ((s.den:Nat):Int))+v * Rat.divInt (w * (((s.den:Nat):Int)+s.num)) ((m+w) * ((s.den:Nat):Int))
theorem mixS_one (u v:Rat) (m w:Int):mixS u v m w ((1:Int):Rat)=mixQ u v m w:=by
 have e1:(((1:Int):Rat)).num=1:=rfl
 have e2:(((((1:Int):Rat)).den:Nat):Int)=1:=rfl
 unfold mixS mixQ
 rw [e1,e2]
 simp only [Int.mul_one]
 rw [show w * (1+1)=2 * w by omega]
theorem JI {m w:Int} {s:Rat} (hm:1<=m) (hw:1<=w):(m+w) * ((s.den:Nat):Int)≠0:=Int.mul_ne_zero (by omega) (q_ne s)
end Kw
namespace Kw
end Kw
namespace Kw
open PySem PySem.Spec PyProof.Rows L2
section
variable {S:V->Prop} {lt:V->V->Bool} {x y:V} {row:List V}
end
section
variable {K:PySem.W.Frag} {H H':Hp} {c:Addr} {x:V} {k k':Int × Int} {xs ys:List V} {key:V->Int × Int}
end
section
variable {K:PySem.W.Frag} {H H':Hp} {b c:Addr} {x:V} {xs ys:List V}
end
theorem g_go {i:Nat} {x:V} {σ:L2.St} {H:Hp} {Q:L2.St->Hp->Prop} (h:Q (σ.set i (some x)) H):gName i x σ H Q:=h
section
variable {idx:List Nat} {tt:TT} {te:TE} {σ:L2.St} {H:Hp} {Q:VK}
end
theorem vals_ints:∀ {ns:List Int} {us:List Value},Vals (ns.map V.int) us->IntsAre us ns
 |[],[],_=>.nil
 |n::ns,u::us,h=>by
  cases h with
  |cons r t=>
   obtain ⟨k,rfl⟩:=r
   exact .cons n k (vals_ints t)
theorem Jc:∀ (us:List Value) (k:Nat),(∀ (j:Nat) (v:Value),us[j]?=some v->∃ t,v=Value.int ((0:Int)+((k+j:Nat):Int) * 1) t)->Vals ((List.range' k us.length).map fun i:Nat=>V.int (i:Int)) us
 |[],_,_=>.nil
 |u::us,k,h=>by
  obtain ⟨t,e⟩:=h 0 u rfl
  have ih:=Jc us (k+1) fun j v hj=>by
   obtain ⟨t',e'⟩:=h (j+1) v hj
   exact ⟨t',by rw [e']; congr 2; omega⟩
  refine .cons ⟨t,?_⟩ ih
  rw [e]
  congr 1
  omega
section
variable {X:Cx}
noncomputable def tLR (ta:TA):TE:=fun σ H Q=>ta σ H fun vs H1=>∃ n:Nat,vs=[.int (n:Int)]/\n<=1000/\∀ l,H1 l=none->Q (.ref l) (upd H1 l (.lst ((List.range n).map fun i:Nat=>V.int (i:Int))))
theorem pe_listRange {a:Expr} {ta:TA} {p p2 pos pos2:Pos} (hc:X.calm=true) (hgl:Gl X "list") (hml:X.mg "list"=none) (hgr:Gl X "range") (hmr:X.mg "range"=none) (ha:PA X [a] ta)
  (hs:starEach [a] X.env=[(false,eval a X.env)]:=by rfl) (hs2:starEach [.Call (.Name "range" p2) [a] [] pos2] X.env=[(false,eval (.Call (.Name "range" p2) [a] [] pos2) X.env)]:=by rfl) :
  PE X (.Call (.Name "list" p) [.Call (.Name "range" p2) [a] [] pos2] [] pos) (tLR ta):=by
 intro pins s σ H Q I h
 refine wpAny_Call_Name_kw (ZQ I hgl hml PyProof.Rows.Boot.«list» ?_)
 refine PyProof.Rows.callWith_type1 ?_ hs2 rfl
 rw [hs2]
 show wpAny _ _ (spliced ((false,eval (.Call (.Name "range" p2) [a] [] pos2) X.env)::[])) _ _ s
 refine Calls.spliced_cons ?_
 refine wpAny_Call_Name_kw (ZQ I hgr hmr boot_range ?_)
 refine PyProof.Rows.callWith_type1 (thn (ha pos2 pins s σ H _ I h) fun us s1 ⟨vs,H1,I1,r1,n,e,hn,q⟩=>?_) hs rfl
 subst e
 cases r1 with
 |cons r rr=>
  cases rr
  obtain ⟨t,rfl⟩:=r
  refine call_range_1 ?_
  refine Calls.spliced_nil ?_
  have I2:Inv X pins σ H1 {s1 with heap:=s1.heap.push {cls:=.type "range",data:=.fields #[.int 0 s1.toks,.int (n:Int) t,.int 1 (s1.toks+1)]},toks:=s1.toks+1+1}:=I1.kept fun b o e=>Heap.get?_push_of_some _ e
  refine call_list_range (n:=n) (I.ok.hd hc) (IsRange.new ..) (small_one (by decide) (by decide) (by omega) (by omega)) ?_ (Nat.le_trans hn (by decide)) fun h' tk acc' c' kp e items=>?_
  ·rw [rangeSize_one]
   split<;>omega
  obtain ⟨i1,i2⟩:=items
  have v:Vals ((List.range n).map fun i:Nat=>V.int (i:Int)) acc'.toList:=by
   have z:=Jc acc'.toList 0 fun j v hj=>by
    rw [Array.getElem?_toList] at hj
    obtain ⟨t',e'⟩:=i2 j v hj
    exact ⟨t',by rw [e',Nat.zero_add]⟩
   rw [Array.length_toList,i1] at z
   rw [List.range_eq_range']
   exact z
  refine ⟨.ref _,_,I2.laid (t':=tk) kp (Nat.le_refl _) ?_,rfl,q _ (I2.hok.fresh (Nat.le_refl _))⟩
  refine ⟨?_,acc'.toList,c',v,?_⟩
  ·rw [List.length_map,List.length_range]
   exact Nat.le_trans hn (by decide)
  ·rw [e,Array.toArray_toList]
end
section
variable {X:Cx} {pos:Pos}
end
end Kw
namespace L2
open PySem PySem.Spec PyProof.Rows
section
variable {κ:Type} [DecidableEq κ]
noncomputable def valV (kvs:List (κ × V)) (k:κ):Option V:=(kvs.find? fun kv=>decide (kv.1=k)).map (·.2)
noncomputable def putK (kvs:List (κ × V)) (k:κ) (v:V):List (κ × V):=
 if (kvs.any fun kv=>decide (kv.1=k))=true then kvs.map (fun kv=>if kv.1=k then (kv.1,v) else kv) else kvs++[(k,v)]
theorem YH {p:κ × V} {r:List (κ × V)} {k:κ} (e:p.1=k):valV (p::r) k=some p.2:=by simp [valV,List.find?_cons,e]
theorem YG {p:κ × V} {r:List (κ × V)} {k:κ} (e:¬ p.1=k):valV (p::r) k=valV r k:=by simp [valV,List.find?_cons,e]
theorem valV_any (k:κ):∀ kvs:List (κ × V),(kvs.any fun kv=>decide (kv.1=k))=(valV kvs k).isSome
 |[]=>rfl
 |p::r=>by
  rw [List.any_cons]
  by_cases e:p.1=k
  ·simp only [YH e,decide_eq_true e,Bool.true_or,Option.isSome_some]
  ·rw [YG e,decide_eq_false e,Bool.false_or]; exact valV_any k r
theorem jY (kvs:List (κ × V)) (k:κ) (v:V):(putK kvs k v).length<=kvs.length+1:=by
 unfold putK
 split
 ·rw [List.length_map]; omega
 ·rw [List.length_append,List.length_cons,List.length_nil]; omega
theorem RelO.isSome_eq {o:Option V} {u:Option Value} (r:RelO o u):o.isSome=u.isSome:=by
 cases o with
 |none=>cases u with
  |none=>rfl
  |some _=>exact (show False from r).elim
 |some _=>cases u with
  |none=>exact (show False from r).elim
  |some _=>rfl
theorem KV.val {kvs:List (κ × V)} {vs:List (κ × Value)} (r:KV kvs vs) (k:κ):RelO (valV kvs k) (valueAt vs k):=by
 unfold KV at r
 induction r with
 |nil=>exact True.intro
 |@cons p q ps qs h t ih=>
  obtain ⟨h1,h2⟩:=h
  by_cases e:p.1=k
  ·have e':q.1=k:=h1.symm.trans e
   have b:valueAt (q::qs) k=some q.2:=by simp [valueAt,List.find?_cons,e']
   rw [YH e,b]; exact h2
  ·have e':¬ q.1=k:=fun z=>e (h1.trans z)
   have b:valueAt (q::qs) k=valueAt qs k:=by simp [valueAt,List.find?_cons,e']
   rw [YG e,b]; exact ih
theorem KV.any {kvs:List (κ × V)} {vs:List (κ × Value)} (r:KV kvs vs) (k:κ):(kvs.any fun kv=>decide (kv.1=k))=vs.any fun kv=>decide (kv.1=k):=by
 unfold KV at r
 induction r with
 |nil=>rfl
 |cons h t ih=>rw [List.any_cons,List.any_cons,ih,h.1]
theorem KV.repl {kvs:List (κ × V)} {vs:List (κ × Value)} (r:KV kvs vs) (k:κ) {y:V} {u:Value} (ry:RelV y u) :
  KV (kvs.map fun kv=>if kv.1=k then (kv.1,y) else kv) (vs.map fun kv=>if kv.1=k then (kv.1,u) else kv):=by
 unfold KV at r ⊢
 induction r with
 |nil=>exact .nil
 |@cons p q ps qs h t ih=>
  rw [List.map_cons,List.map_cons]
  refine .cons ?_ ih
  obtain ⟨h1,h2⟩:=h
  by_cases e:p.1=k
  ·rw [if_pos e,if_pos (h1.symm.trans e)]; exact ⟨h1,ry⟩
  ·rw [if_neg e,if_neg (fun z=>e (h1.trans z))]; exact ⟨h1,h2⟩
theorem KV.put {kvs:List (κ × V)} {vs:List (κ × Value)} (r:KV kvs vs) (k:κ) {y:V} {u:Value} (ry:RelV y u):KV (putK kvs k y) (stored vs k u):=by
 unfold putK stored
 rw [r.any k]
 by_cases e:(vs.any fun kv=>decide (kv.1=k))=true
 ·rw [if_pos e,if_pos e]; exact r.repl k ry
 ·rw [if_neg e,if_neg e]; exact Paired.snoc r ⟨rfl,ry⟩
theorem KV.length {kvs:List (κ × V)} {vs:List (κ × Value)} (r:KV kvs vs):kvs.length=vs.length:=Paired.length r
end
theorem kV_is {P:Program} {w:World} {k:Key} {u:Value} (r:RelV (kV k) u):(yA P w).is k u=true:=by
 cases k with
 |inl i=>obtain ⟨t,e⟩:=(show ∃ t,u=Value.int i t from r); subst e; exact mixKind_int P w i t
 |inr x=>obtain ⟨t,e⟩:=(show ∃ t,u=Value.str x t from r); subst e; exact mixKind_str P w x t
theorem J5 {P:Program} {w:World}:∀ {ks:List Key} {us:List Value},Vals (ks.map kV) us->ItemsAre (yA P w) ks us
 |[],_,r=>by rw [List.map_nil] at r; cases r; exact .nil
 |k::ks,_,r=>by
  rw [List.map_cons] at r
  cases r with
  |cons h t=>exact .cons (kV_is h) (J5 t)
noncomputable abbrev KT (H:Hp):List (List Key × V)->List (List Key × Addr × Value)->Prop:=Paired fun p q=>p.1=q.1/\H q.2.1=some (.tup (p.1.map kV))/\RelV p.2 q.2.2
theorem KT.val {H:Hp} {kvs:List (List Key × V)} {xs:List (List Key × Addr × Value)} (r:KT H kvs xs) (k:List Key):RelO (valV kvs k) ((atKey xs k).map (·.2)):=by
 induction r with
 |nil=>exact True.intro
 |@cons p q ps qs h t ih=>
  obtain ⟨h1,_,h2⟩:=h
  by_cases e:p.1=k
  ·have e':q.1=k:=h1.symm.trans e
   have b:atKey (q::qs) k=some q.2:=by simp [atKey,List.find?_cons,e']
   rw [YH e,b]; exact h2
  ·have e':¬ q.1=k:=fun z=>e (h1.trans z)
   have b:atKey (q::qs) k=atKey qs k:=by simp [atKey,List.find?_cons,e']
   rw [YG e,b]; exact ih
theorem KT.repl {H:Hp} {kvs:List (List Key × V)} {xs:List (List Key × Addr × Value)} (r:KT H kvs xs) (k:List Key) {y:V} {u:Value} (ry:RelV y u) :
  KT H (kvs.map fun kv=>if kv.1=k then (kv.1,y) else kv) (xs.map (putAt k u)):=by
 induction r with
 |nil=>exact .nil
 |@cons p q ps qs h t ih=>
  rw [List.map_cons,List.map_cons]
  refine .cons ?_ ih
  obtain ⟨h1,h2,h3⟩:=h
  unfold putAt
  by_cases e:p.1=k
  ·rw [if_pos e,if_pos (h1.symm.trans e)]; exact ⟨h1,h2,ry⟩
  ·rw [if_neg e,if_neg (fun z=>e (h1.trans z))]; exact ⟨h1,h2,h3⟩
theorem KT.put {H:Hp} {kvs:List (List Key × V)} {xs:List (List Key × Addr × Value)} (r:KT H kvs xs) (k:List Key) {b:Addr} {y:V} {u:Value} (hb:H b=some (.tup (k.map kV))) (ry:RelV y u) :
  KT H (putK kvs k y) (storedH xs k b u):=by
 have e:(kvs.any fun kv=>decide (kv.1=k))=(atKey xs k).isSome:=by
  rw [valV_any,(r.val k).isSome_eq,Option.isSome_map]
 unfold putK storedH
 rw [e]
 by_cases q:(atKey xs k).isSome=true
 ·rw [if_pos q,if_pos q]; exact r.repl k ry
 ·rw [if_neg q,if_neg q]; exact Paired.snoc r ⟨rfl,hb,ry⟩
theorem KT.keeps {H H':Hp} {kvs:List (List Key × V)} {xs:List (List Key × Addr × Value)} (r:KT H kvs xs) (ht:∀ b ys,H b=some (.tup ys)->H' b=some (.tup ys)):KT H' kvs xs:=
 Paired.mapP r fun _ _ z=>⟨z.1,ht _ _ z.2.1,z.2.2⟩
section
variable {P:Program} {w:World} {H:Hp} {h:Heap} {a:Addr}
theorem rd_of {u:HO} (ok:HOk P w H h) (e:Rd H a u):zo P w H h a u:=e.ok ok
theorem dk_rd {kvs:List (Key × V)} (ok:HOk P w H h) (e:Rd H a (.dK kvs)):kvs.length<=sizeLine/\(a == sysModules)=false/\∃ vs,KV kvs vs/\h.DictOf (yA P w) a vs:=
 show zo P w H h a (.dK kvs) from rd_of ok e
theorem dk_of {kvs:List (Key × V)} (ok:HOk P w H h) (e:H a=some (.dK kvs)):kvs.length<=sizeLine/\(a == sysModules)=false/\∃ vs,KV kvs vs/\h.DictOf (yA P w) a vs:=dk_rd ok (.inl e)
theorem key_of {ks:List Key} (ok:HOk P w H h) (e:H a=some (.tup (ks.map kV))):(tupleKind (yA P w)).is h ks a:=by
 obtain ⟨_,its,r,o,h1,h2,n,h3⟩:=(show zo P w H h a (.tup (ks.map kV)) from ok a _ e)
 exact ⟨o,its.toArray,n,h1,h2,h3,by simpa using J5 r⟩
theorem dt_rd {kvs:List (List Key × V)} (ok:HOk P w H h) (e:Rd H a (.dT kvs)):kvs.length<=sizeLine/\(a == sysModules)=false∧
  ∃ xs,KT H kvs xs/\h.DictOfH (tupleKind (yA P w)) a xs:=by
 obtain ⟨z,y,xs,r,o,es,ep,h1,h2,h3,h4,h5⟩:=(show zo P w H h a (.dT kvs) from rd_of ok e)
 refine ⟨z,y,xs,r,o,es,ep,h1,h2,h3,h4,fun x hx=>?_,h5⟩
 have all:∀ {l:List (List Key × V)} {m:List (List Key × Addr × Value)},KT H l m->∀ x∈m,(tupleKind (yA P w)).is h x.1 x.2.1:=by
  intro l m q
  induction q with
  |nil=>intro x hx; exact nomatch hx
  |@cons p q ps qs hq t ih=>
   intro x hx
   rcases List.mem_cons.mp hx with e|hx
   ·subst e
    exact key_of ok (by rw [<- hq.1]; exact hq.2.1)
   ·exact ih x hx
 exact all r x hx
theorem dt_of {kvs:List (List Key × V)} (ok:HOk P w H h) (e:H a=some (.dT kvs)):kvs.length<=sizeLine/\(a == sysModules)=false∧
  ∃ xs,KT H kvs xs/\h.DictOfH (tupleKind (yA P w)) a xs:=dt_rd ok (.inl e)
end
noncomputable def DGet (H:Hp) (a:Addr) (y:V) (r:Option V):Prop:=
 (∃ kvs k,Rd H a (.dK kvs)/\y=kV k/\r=valV kvs k)∨∃ kvs k b,Rd H a (.dT kvs)/\y=.ref b/\H b=some (.tup (k.map kV))/\r=valV kvs k
noncomputable def DPut (H:Hp) (a:Addr) (y v:V) (H':Hp):Prop:=
 (∃ kvs k,H a=some (.dK kvs)/\y=kV k/\kvs.length < sizeLine/\H'=upd H a (.dK (putK kvs k v)))∨
 ∃ kvs k b,H a=some (.dT kvs)/\y=.ref b/\H b=some (.tup (k.map kV))/\kvs.length < sizeLine/\H'=upd H a (.dT (putK kvs k v))
theorem DGet.t {H:Hp} {a b:Addr} {kvs:List (List Key × V)} {k:List Key} (e:H a=some (.dT kvs)) (eb:H b=some (.tup (k.map kV))):DGet H a (.ref b) (valV kvs k):=.inr ⟨kvs,k,b,.inl e,rfl,eb,rfl⟩
theorem DPut.t {H:Hp} {a b:Addr} {kvs:List (List Key × V)} {k:List Key} {v:V} (e:H a=some (.dT kvs)) (eb:H b=some (.tup (k.map kV))) (hl:kvs.length < sizeLine) :
  DPut H a (.ref b) v (upd H a (.dT (putK kvs k v))):=.inr ⟨kvs,k,b,e,rfl,eb,hl,rfl⟩
section
variable {X:Cx} {pins:List (Addr × Obj)} {σ:St} {H:Hp} {s:Shared} {a:Addr} {y v:V} {u r:Value} {o:Option V} {A:Around} {E:Value->Shared->Prop}
theorem Inv.big (I:Inv X pins σ H s):sysModules < s.heap.objs.size:=by
 have h:mainGlobals < s.heap.objs.size:=(I.mod.glob.keeps I.bk).lt
 exact Nat.lt_trans (by decide) h
theorem d_getItem {Q:Value->Shared->Prop} (hu:A.units+1 < cLine) (I:Inv X pins σ H s) (g:DGet H a y (some v)) (ry:RelV y u) (h:∀ w' s',Inv X pins σ H s'->RelV v w'->Q w' s') :
  wpAny (model X.prog X.w) A (getItem (.ref a) u) Q E s:=by
 rcases g with ⟨kvs,k,e,ey,l⟩|⟨kvs,k,b,e,ey,eb,l⟩
 ·subst ey
  obtain ⟨z,hd,vs,rel,dd⟩:=dk_rd I.hok e
  obtain ⟨w',hw,rw'⟩:=RelO.some_of (v:=v) (o:=valueAt vs k) (by rw [l]; exact rel.val k)
  exact wpAny_getItem_of (kV_is ry) dd.mapOf hw (h w' _ (I.tok _) rw')
 ·subst ey
  cases (show u=Value.ref b from ry)
  obtain ⟨z,hd,xs,rel,dd⟩:=dt_rd I.hok e
  obtain ⟨w',hw,rw'⟩:=RelO.some_of (v:=v) (o:=(atKey xs k).map (·.2)) (by rw [l]; exact rel.val k)
  obtain ⟨p,hp,hp2⟩:=Option.map_eq_some_iff.mp hw
  refine wpAny_getItem_heap (tupleKind_room_in1 hu) (key_of I.hok eb) dd hp ?_
  rw [hp2]
  exact h w' _ (I.tok _) rw'
theorem JF {h':Heap} {t':Nat} {ob:HO} (I:Inv X pins σ H s) (mu:Mut (H a)) (hs:Heap.SameBut a s.heap h') (he:∃ q,h'.get? a=some q) (new:zo X.prog X.w (upd H a ob) h' a ob) :
  Inv X pins σ (upd H a ob) {s with heap:=h',toks:=t'}:=
 I.write (x:=a) (e:=a) mu (.inl rfl) (fun b q hb z=>(hs.2 b hb).trans z) he new
theorem dk_new {P:Program} {w:World} {H':Hp} {h':Heap} {kvs:List (Key × V)} {vs:List (Key × Value)} (z:kvs.length<=sizeLine) (hd:(a == sysModules)=false) (rel:KV kvs vs) (dd:h'.DictOf (yA P w) a vs) :
  zo P w H' h' a (.dK kvs):=⟨z,hd,vs,rel,dd⟩
theorem d_setItem {H':Hp} {Q:Unit->Shared->Prop} (hu:A.units+1 < cLine) (I:Inv X pins σ H s) (g:DPut H a y v H') (ry:RelV y u) (rv:RelV v r) (h:∀ s',Inv X pins σ H' s'->Q () s') :
  wpAny (model X.prog X.w) A (setItem (.ref a) u r) Q E s:=by
 rcases g with ⟨kvs,k,e,ey,l,eH⟩|⟨kvs,k,b,e,ey,eb,l,eH⟩
 ·subst ey eH
  obtain ⟨z,hd,vs,rel,dd⟩:=dk_of I.hok e
  have hz:vs.length<=sizeLine:=by rw [<- rel.length]; exact z
  have hl:(putK kvs k v).length<=sizeLine:=by have:=jY kvs k v; omega
  refine wpAny_setItem_pairs (hsz:=hz) (kV_is ry) dd fun h' dd' hs=>h _ ?_
  have he:∃ q,h'.get? a=some q:=let ⟨q,_,_,hq,_⟩:=dd'; ⟨q,hq⟩
  exact JF I (by rw [e]; exact True.intro) hs he (dk_new hl hd (rel.put k rv) dd')
 ·subst ey eH
  cases (show u=Value.ref b from ry)
  obtain ⟨z,hd,xs,rel,dd⟩:=dt_of I.hok e
  have hz:xs.length<=sizeLine:=by rw [<- Paired.length rel]; exact z
  have hl:(putK kvs k v).length<=sizeLine:=by have:=jY kvs k v; omega
  refine wpAny_setItem_heap (hsz:=hz) (tupleKind_room_in1 hu) (key_of I.hok eb) dd fun h' dd' hs=>h _ ?_
  obtain ⟨q,es,ep,hq,h2,h3,h4,_,h5⟩:=dd'
  refine JF I (by rw [e]; exact True.intro) hs ⟨q,hq⟩ ⟨hl,hd,_,(rel.put k eb rv).keeps fun c ys ec=>?_,q,es,ep,hq,h2,h3,h4,h5⟩
  rw [zY (zq ec e (fun z=>nomatch z))]
  exact ec
end
section
variable {X:Cx} {pins:List (Addr × Obj)} {σ:St} {H:Hp} {s:Shared} {a:Addr} {kvs:List (Key × V)} {k:Key} {u:Value} {A:Around} {E:Value->Shared->Prop}
end
noncomputable def NoSl (i:Expr):Prop:=∀ ov iv,subscripted i false ov iv=operate [ov,iv] (getItem ov iv)
theorem subD_of {prog:Program} {w:World} {A:Around} {E:Value->Shared->Prop} {s:Shared} {env:Env} {value slice:Expr} {pos:Pos} {T id:String} {Q:Value->Shared->Prop}
  (hl:typeLookup (.type T) "__getitem__"=pure (some (.builtin id))) (hs:NoSl slice)
  (h:wpAny (model prog w) A (eval value env) (fun o s₁=>wpAny (model prog w) A (eval slice env) (fun i s₂=>s₂.TypeIs o T/\wpAny (model prog w) A (getItem o i) Q E s₂) E s₁) E s) :
  wpAny (model prog w) A (eval (.Subscript value slice pos) env) Q E s:=by
 refine Subscript_ (wpAny_mono h (fun o s₁ h₁=>wpAny_mono h₁ (fun i s₂ h₂=>?_) fun _ _ x=>x) fun _ _ x=>x)
 obtain ⟨hT,h₂⟩:=h₂
 unfold subscriptTail
 refine wpAny_bind ?_
 rw [getitemInPython_of_ne hT.not_modules]
 refine wpAny_bind (wpAny_specialOf hT hl ?_)
 have fin:wpAny (model prog w) A (subscripted slice false o i) (fun r s₃=>wpAny (model prog w) A (letTemporaryGo value o r >>= fun _=>pure r) Q E s₃) E s₂:=by
  rw [hs o i]
  exact wpAny_operating (wpAny_mono h₂ (fun r s₃ h₃=>wpAny_bind (wpAny_letTemporaryGo (wpAny_pure h₃))) fun _ _ x=>x)
 first
  |exact wpAny_pure (wpAny_bind fin)
  |exact wpAny_bind (wpAny_pure (wpAny_bind fin))
  |exact wpAny_bind fin
theorem dict_typeIs {X:Cx} {pins:List (Addr × Obj)} {σ:St} {H:Hp} {s:Shared} {a:Addr} {y:V} {o:Option V} (I:Inv X pins σ H s) (g:DGet H a y o):s.TypeIs (.ref a) "dict":=by
 rcases g with ⟨kvs,k,e,_,_⟩|⟨kvs,k,b,e,_,_,_⟩
 ·obtain ⟨_,_,vs,_,dd⟩:=dk_rd I.hok e
  exact dd.typeIs
 ·obtain ⟨_,_,xs,_,dd⟩:=dt_rd I.hok e
  exact dd.typeIs
noncomputable def tDGet (td ty:TE):TE:=fun σ H Q=>td σ H fun x H1=>ty σ H1 fun y H2=>∃ a v,x=.ref a/\DGet H2 a y (some v)/\Q v H2
noncomputable def sDPut (td ty tv:TE):TS:=fun D σ H=>tv σ H fun v H1=>td σ H1 fun x H2=>ty σ H2 fun y H3=>∃ a H4,x=.ref a/\DPut H3 a y v H4/\D.nx σ H4
section
variable {X:Cx} {o i e value:Expr} {pos pos' tpos:Pos} {td ty tv:TE}
theorem j4 (hu:X.A.units+1 < cLine) (ho:PE X o td) (hi:PE X i ty) (hs:NoSl i):PE X (.Subscript o i pos) (tDGet td ty):=by
 intro pins s σ H Q I h
 refine subD_of PySem.F.slot_dict_getitem.lookup hs (thn (ho pins s σ H _ I h) fun u s1 ⟨x,H1,I1,rx,q1⟩=>thn (hi pins s1 σ H1 _ I1 q1) fun iv s2 zz=>?_)
 obtain ⟨y,H2,I2,ry,a,v,ex,g,q2⟩:=zz
 subst ex
 obtain rfl:u=Value.ref a:=rx
 exact ⟨dict_typeIs I2 g,d_getItem hu I2 g ry fun w' s3 I3 rw'=>⟨v,H2,I3,rw',q2⟩⟩
theorem ps_dput (hu:X.A.units+1 < cLine) (ho:PE X o td) (hi:PE X i ty) (hv:PE X value tv) (hs:swapsWith value (some (.Subscript o i pos')) pos.line X.env=pure false) :
  PS X (.Assign [.Subscript o i pos'] value pos) (sDPut td ty tv):=by
 intro pins s σ H D I h
 refine wpAny_Assign_Subscript (thn (hv pins s σ H _ I h) fun r s1 ⟨v,H1,I1,rv,q1⟩=>thn (ho pins s1 σ H1 _ I1 q1) fun u s2 ⟨x,H2,I2,rx,q2⟩=>thn (hi pins s2 σ H2 _ I2 q2) fun iv s3 ⟨y,H3,I3,ry,a,H4,ex,g,q3⟩=>?_) hs
 subst ex
 obtain rfl:u=Value.ref a:=rx
 exact d_setItem hu I3 g ry rv fun s4 I4=>⟨σ,H4,I4,q3⟩
end
theorem dt_empty {P:Program} {w:World} {H:Hp} (h:Heap) (hb:sysModules < h.objs.size):zo P w H (h.push {cls:=.type "dict",data:=.dict #[]}) h.objs.size (.dT []):=
 ⟨Nat.zero_le _,beq_eq_false_iff_ne.mpr (Ne.symm (Nat.ne_of_lt hb)),[],.nil,_,#[],0,Heap.get?_push_size _ rfl,⟨rfl,rfl,rfl⟩,rfl,rfl,List.nodup_nil⟩
noncomputable def tDNewT:TE:=fun _ H Q=>∀ p,H p=none->Q (.ref p) (upd H p (.dT []))
section
variable {X:Cx} {pos:Pos}
theorem pe_dnewT:PE X (.Dict [] [] pos) tDNewT:=fun pins s σ H Q I h=>
 wpAny_Dict_empty ⟨.ref s.heap.objs.size,_,I.laid (a:=s.heap.objs.size) (o:=.dT []) (t':=s.toks) (fun _ _ q=>Heap.get?_push_of_some _ q) (Nat.le_refl _) (dt_empty s.heap I.big),rfl,h _ (I.hok.fresh (Nat.le_refl _))⟩
end
end L2
namespace Kw
open PySem PySem.Spec PyProof.Rows L2
section
variable {β:Type} {R:V->β->Prop} {xs:List V} {bs:List β}
theorem Al2.takeR:∀ {xs:List V} {bs:List β} (k:Nat),Al2 R xs bs->Al2 R (xs.take k) (bs.take k)
 |[],[],k,_=>by simp [Al2]
 |_::_,_::_,0,_=>trivial
 |_::_,_::_,k+1,z=>⟨z.1,Al2.takeR k z.2⟩
 |[],_::_,_,z=>z.elim
 |_::_,[],_,z=>z.elim
end
section
variable {prog:Program} {w:World} {K:Type} [DecidableEq K] {knd:HeapKind prog w K} {A:Around} {E:Value->Shared->Prop} {s:Shared}
theorem iter_raw {d:Addr} {od:Obj} {es:Array DictEntry} {ep:Nat} {Q:Value->Shared->Prop} (hd:(d == sysModules)=false) (ho:s.heap.get? d=some od) (hc:od.ExactDict) (hdat:od.data=.dict es ep)
  (hQ:Q (.ref s.heap.objs.size) {s with heap:=s.heap.push {cls:=.type "dict_keyiterator",data:=.fields #[.ref d,.int 0 0,.int es.size 0,.int ep 0]}}) :
  wpAny (model prog w) A (pyIter (.ref d)) Q E s:=by
 have hT:s.TypeIs (.ref d) "dict":=⟨od,ho,hc.1⟩
 refine wpAny_pyIter_slot hT F.slot_dict_iter (wpAny_call_entry F.slot_dict_iter hT F.entry_dict_iter ?_ (F.args_dict_iter_1 _))
 unfold Builtin.«dict.__iter__»
 refine wpAny_bind ?_
 unfold Builtin.Dict.dictSlotNone
 refine wpAny_bind (wpAny_notOrdered_dict hT ?_)
 show wpAny _ _ (pure (Value.ref d)) _ _ s
 refine wpAny_pure ?_
 show wpAny _ _ (Builtin.Dict.showsAll d >>= _) _ _ s
 unfold Builtin.Dict.showsAll
 rw [if_neg (by rw [hd]; exact Bool.false_ne_true)]
 refine wpAny_bind (wpAny_pure ?_)
 refine wpAny_bind (wpAny_dictEntries ho hdat ?_)
 refine wpAny_bind (wpAny_dictEpoch ho hdat ?_)
 refine wpAny_bind (wpAny_newObj_type (wpAny_pure ⟨_,rfl,"dict_keyiterator",_,⟨_,Heap.get?_push_size _ rfl,rfl⟩,F.slot_dict_keyiterator_next.lookup,?_⟩))
 simpa [rawInt] using hQ
theorem next_raw {it d:Addr} {i ep:Nat} {od:Obj} {es:Array DictEntry} {Q:Option Value->Shared->Prop} (hit:s.heap.IsKeyIter it d i es.size ep) (hod:s.heap.get? d=some od) (hdd:od.data=.dict es ep) (hlt:i < es.size)
  (hQ:∀ h',h'.IsKeyIter it d (i+1) es.size ep->Heap.SameBut it s.heap h'->Q (some es[i].key) {s with heap:=h'}) :
  wpAny (model prog w) A (pyNext (.ref it)) Q E s:=by
 obtain ⟨o,ho,hc,hd⟩:=id hit
 unfold pyNext
 refine wpAny_bind (wpAny_attempt (wpAny_callSpecial?_slot (name:=Str.ofString "__next__") hit.typeIs F.slot_dict_keyiterator_next
  (wpAny_call_entry F.slot_dict_keyiterator_next hit.typeIs F.entry_dict_keyiterator_next ?_ (F.args_dict_keyiterator_next_1 _))))
 refine wpAny_bind (wpAny_pure ?_)
 refine wpAny_bind ?_
 refine wpAny_bind ?_
 first|refine wpAny_bind (wpAny_typeNameOfWhole_keyiter hit.typeIs (wpAny_pure ?_))|refine wpAny_bind (wpAny_typeNameOf_keyiter hit.typeIs (wpAny_pure ?_))
 refine wpAny_bind (wpAny_fieldsOf ho hd ?_)
 have hown:Builtin.Dict_items.ownsTuple "dict_keyiterator"=false:=by decide
 simp only [hown,Bool.false_eq_true,if_false]
 show wpAny _ _ (if (Value.ref d == Value.none)=true then _ else _) _ _ s
 rw [if_neg (show ¬ ((Value.ref d == Value.none)=true) from Bool.false_ne_true)]
 refine wpAny_bind (wpAny_pure ?_)
 refine wpAny_bind (wpAny_dictEntries hod hdd ?_)
 rw [if_neg (by simp)]
 refine wpAny_bind (wpAny_pure ?_)
 refine wpAny_bind (wpAny_dictEpoch hod hdd ?_)
 rw [if_neg (by simp)]
 refine wpAny_pure ?_
 simp only [show ¬ ((i:Int) < 0) from by omega,if_false,Int.toNat_natCast,Array.getElem?_eq_getElem hlt]
 refine wpAny_bind ?_
 first|refine wpAny_bind (wpAny_typeNameOfWhole_keyiter hit.typeIs (wpAny_pure ?_))|refine wpAny_bind (wpAny_typeNameOf_keyiter hit.typeIs (wpAny_pure ?_))
 refine wpAny_bind (wpAny_isOneOf_keyiter hit.typeIs ?_)
 show wpAny _ _ (setField (.ref it) 1 (rawInt ((i:Int)+1)) >>= _) _ _ s
 refine wpAny_bind (wpAny_setField ho hd (by simp) ?_)
 have hit':(s.heap.update it (Obj.mapFields (·.setIfInBounds 1 (rawInt ((i:Int)+1))))).IsKeyIter it d (i+1) es.size ep:=
  ⟨_,Heap.get?_update_self _ ho (Obj.isFreed_of_fields (Obj.data_mapFields hd _)),(Obj.cls_mapFields ..).trans hc,by rw [Obj.data_mapFields hd]; simp [rawInt]⟩
 refine wpAny_bind (wpAny_holding ?_)
 refine wpAny_bind (wpAny_isOneOf_keyiter (s:={s with heap:=s.heap.update it (Obj.mapFields (·.setIfInBounds 1 (rawInt ((i:Int)+1))))}) hit'.typeIs ?_)
 show wpAny _ _ (pure es[i].key) _ _ _
 exact wpAny_pure (wpAny_pure ⟨_,rfl,wpAny_pure (hQ _ hit' (Heap.SameBut.update ..))⟩)
theorem end_raw {it d:Addr} {i ep:Nat} {od:Obj} {es:Array DictEntry} {Q:Option Value->Shared->Prop} (hh:A.handled=none) (hit:s.heap.IsKeyIter it d i es.size ep) (hod:s.heap.get? d=some od) (hdd:od.data=.dict es ep) (hge:es.size<=i)
  (hQ:∀ h',Heap.ExtBut it s.heap h'->Q none {s with heap:=h'}):wpAny (model prog w) A (pyNext (.ref it)) Q E s:=by
 obtain ⟨o,ho,hc,hd⟩:=id hit
 unfold pyNext
 refine wpAny_bind (wpAny_attempt (wpAny_callSpecial?_slot (name:=Str.ofString "__next__") hit.typeIs F.slot_dict_keyiterator_next
  (wpAny_call_entry F.slot_dict_keyiterator_next hit.typeIs F.entry_dict_keyiterator_next ?_ (F.args_dict_keyiterator_next_1 _))))
 refine wpAny_bind (wpAny_pure ?_)
 refine wpAny_bind ?_
 refine wpAny_bind ?_
 first|refine wpAny_bind (wpAny_typeNameOfWhole_keyiter hit.typeIs (wpAny_pure ?_))|refine wpAny_bind (wpAny_typeNameOf_keyiter hit.typeIs (wpAny_pure ?_))
 refine wpAny_bind (wpAny_fieldsOf ho hd ?_)
 have hown:Builtin.Dict_items.ownsTuple "dict_keyiterator"=false:=by decide
 simp only [hown,Bool.false_eq_true,if_false]
 show wpAny _ _ (if (Value.ref d == Value.none)=true then _ else _) _ _ s
 rw [if_neg (show ¬ ((Value.ref d == Value.none)=true) from Bool.false_ne_true)]
 refine wpAny_bind (wpAny_pure ?_)
 refine wpAny_bind (wpAny_dictEntries hod hdd ?_)
 rw [if_neg (by simp)]
 refine wpAny_bind (wpAny_pure ?_)
 refine wpAny_bind (wpAny_dictEpoch hod hdd ?_)
 rw [if_neg (by simp)]
 refine wpAny_pure ?_
 simp only [show ¬ ((i:Int) < 0) from by omega,if_false,Int.toNat_natCast,Array.getElem?_eq_none hge]
 refine wpAny_bind ?_
 first|refine wpAny_bind (wpAny_typeNameOfWhole_keyiter hit.typeIs (wpAny_pure ?_))|refine wpAny_bind (wpAny_typeNameOf_keyiter hit.typeIs (wpAny_pure ?_))
 show wpAny _ _ (setField (.ref it) 0 .none >>= _) _ _ s
 refine wpAny_bind (wpAny_setField ho hd (by simp) ?_)
 show wpAny _ _ (newExc (.type "StopIteration") [] >>= _) _ _ _
 refine wpAny_bind ?_
 simp only [newExc,newTuple]
 refine wpAny_bind (wpAny_newObj_type ?_ (by size_fits))
 refine wpAny_bind (m:=firstArgMember _ _) (wpAny_of_eq (a:=Value.none) (by first|rfl|(simp only [firstArgMember]; rfl)) ?_)
 refine wpAny_newObj_type ?_ (by size_fits)
 simp only [raiseNew]
 refine wpAny_bind (wpAny_handled ?_)
 rw [show A.in1.handled=none from hh]
 refine wpAny_bind (wpAny_pure (wpAny_throw ?_))
 refine wpAny_bind (wpAny_isInstance (T:="StopIteration") (b:=true) ⟨_,Heap.get?_push_size _ rfl,rfl⟩ isSubtype_stop ?_)
 exact wpAny_pure (hQ _ (((Heap.SameBut.update ..).extBut.push _).push _))
end
theorem Zx {n:Nat} (h:n+100 < cLine):n+1 < cLine:=by omega
noncomputable def Itd (a:Addr) (o:Obj) (kvs:List (List Key × V)):It:=
 ⟨fun i H=>H a=some (.frz o (.dT kvs))/\i < kvs.length,fun i H x H'=>H'=H/\∃ (b:Addr) (kv:List Key × V),kvs[i]?=some kv/\x=.ref b/\H b=some (.tup (kv.1.map kV)),fun i H=>H a=some (.frz o (.dT kvs))/\kvs.length<=i⟩
theorem kt_get {H:Hp}:∀ {kvs:List (List Key × V)} {xs:List (List Key × Addr × Value)},KT H kvs xs->∀ {i:Nat} {kv:List Key × V},kvs[i]?=some kv->∃ x,xs[i]?=some x/\H x.2.1=some (.tup (kv.1.map kV)):=by
 intro kvs xs r
 induction r with
 |nil=>intro i kv h; simp at h
 |@cons p q ps qs h t ih=>
  intro i kv hk
  cases i with
  |zero=>
   simp only [List.getElem?_cons_zero,Option.some.injEq] at hk
   subst hk
   exact ⟨q,rfl,h.2.1⟩
  |succ j=>
   simp only [List.getElem?_cons_succ] at hk
   exact ih hk
theorem turn_dict {P:Program} {w:World} {K:PySem.W.Frag} {tg:Expr} (a it:Addr) (o:Obj) (es:Array DictEntry) (ep:Nat) (kvs:List (List Key × V)) (hd:o.data=.dict es ep) (hl:es.size=kvs.length):Turn P w K tg (Itd a o kvs) [it] it (fun i h=>h.IsKeyIter it a i es.size ep) where
 mem:=by simp
 obj:=fun i h st b hb=>by
  have e:b=it:=by simpa using hb
  subst e
  obtain ⟨o,e,c,d⟩:=st
  exact ⟨o,e,fun v z=>by rw [d] at z; cases z⟩
 keep:=fun i h h' st k=>st.at fun o e=>k it (by simp) o e
 item:=by
  intro X hP hw hK hc i pins s σ H E I hf st hg
  subst hP hw hK
  obtain ⟨hq,hi⟩:=hg
  obtain ⟨ho,_,_,xs,rel,o',es',ep',ho',_,hd',he',_⟩:=(show s.heap.get? a=some o/\zo X.prog X.w H s.heap a (.dT kvs) from I.hok a _ hq)
  rw [ho] at ho'
  cases ho'
  rw [hd] at hd'
  cases hd'
  obtain ⟨f0,f1,f2,f3,f4,f5⟩:=hf it (by simp)
  have hlt:i < es.size:=by omega
  refine next_raw st ho hd hlt fun h' st' sb=>?_
  have I1:Inv X pins σ H {s with heap:=h'}:=I.turned (t':=s.toks) (fun b o hb e=>(sb.2 b hb).trans e) f0 f1 f3 f4 f5
  obtain ⟨ob,e,c,d⟩:=id st'
  obtain ⟨x,hx,hb⟩:=kt_get rel (List.getElem?_eq_getElem hi)
  have ek:es[i].key=.ref x.2.1:=by
   have z:=entry_at (knd:=tupleKind (yA X.prog X.w)) he' i
   rw [hx,Array.getElem?_eq_getElem hlt] at z
   have z':=Option.some.inj z
   rw [z']
   rfl
  rw [ek]
  exact ⟨_,rfl,go_of (s:={s with heap:=h'}) e c d (by decide) ⟨.ref x.2.1,H,I1,rfl,⟨rfl,_,_,List.getElem?_eq_getElem hi,rfl,hb⟩,st',fun b hb=>(hf b hb).1⟩⟩
 done:=by
  intro X hP hw hK hc i pins s σ H E I hf st hg
  subst hP hw hK
  obtain ⟨hq,hi⟩:=hg
  obtain ⟨ho,_⟩:=(show s.heap.get? a=some o/\zo X.prog X.w H s.heap a (.dT kvs) from I.hok a _ hq)
  obtain ⟨f0,f1,f2,f3,f4,f5⟩:=hf it (by simp)
  exact end_raw (I.ok.hd hc) st ho hd (by omega) fun h' eb=>⟨rfl,I.turned (t':=s.toks) (fun b o hb e=>eb b o hb e) f0 f1 f3 f4 f5⟩
 self:=fun _ _ _ _ _ st h=>wpAny_pyIter_keyiter st h
noncomputable def iDict (tl:TE):TI:=fun σ H R=>tl σ H fun x H1=>∃ (a:Addr) (kvs:List (List Key × V)),x=.ref a/\H1 a=some (.dT kvs)/\∀ o,R (Itd a o kvs) (upd H1 a (.frz o (.dT kvs)))
theorem JB {X:Cx} {tg:Expr} {l:Expr} {tl:TE} (hl:PE X l tl):PI X tg l (iDict tl):=by
 intro pins s σ H R I h
 refine thn (hl pins s σ H _ I h) fun v s1 zz=>?_
 obtain ⟨x,H1,I1,r1,q1⟩:=zz
 obtain ⟨a,kvs,rfl,hq,q⟩:=q1
 cases r1
 obtain ⟨hz,hm,xs,rel,o,es,ep,ho,hc,hd,he,hn⟩:=(show zo X.prog X.w H1 s1.heap a (.dT kvs) from I1.hok a _ hq)
 have len:es.size=kvs.length:=by rw [size_of_entries he,Paired.length rel]
 have kp:∀ c ys,H1 c=some (HO.tup ys)->upd H1 a (.frz o (.dT kvs)) c=some (.tup ys):=fun c ys ec=>by
  rw [zY (zq ec hq (fun z=>nomatch z))]
  exact ec
 have I2:Inv X pins σ (upd H1 a (.frz o (.dT kvs))) {s1 with heap:=s1.heap,toks:=s1.toks}:=JF I1 (by rw [hq]; exact True.intro) ⟨rfl,fun _ _=>rfl⟩ ⟨o,ho⟩ ⟨ho,hz,hm,xs,KT.keeps rel kp,o,es,ep,ho,hc,hd,he,hn⟩
 refine iter_raw hm ho hc hd ?_
 refine ⟨s1.heap.objs.size,[s1.heap.objs.size],_,_,_,rfl,I2.kept (t':=s1.toks) fun b o e=>Heap.get?_push_of_some _ e,turn_dict a _ o es ep kvs hd len,⟨_,Heap.get?_push_size _ rfl,rfl,rfl⟩,fun b hb=>?_,q o⟩
 have e:b=s1.heap.objs.size:=by simpa using hb
 subst e
 exact I2.fpOk (Nat.le_refl _) (I2.hok.fresh (Nat.le_refl _))
theorem for_dict {a:Addr} {o:Obj} {kvs:List (List Key × V)} {g:TG} {tb:TS} {D:Ends} {σ:L2.St} {H:Hp} (Pv:Nat->L2.St->Hp->Prop) (h0:Pv 0 σ H) (hl:∀ i σ H,i<=kvs.length->Pv i σ H->H a=some (.frz o (.dT kvs)))
  (hs:∀ i kv b σ H,kvs[i]?=some kv->H b=some (.tup (kv.1.map kV))->Pv i σ H->g (.ref b) σ H fun σ2 H2=>tb {D with nx:=Pv (i+1),ct:=Pv (i+1),bk:=D.nx} σ2 H2) (hd:∀ σ H,Pv kvs.length σ H->D.nx σ H) :
  ∃ W:Nat->Nat->L2.St->Hp->Prop,(∃ m,W 0 m σ H)/\∀ i m σ H,W i m σ H->
   ((Itd a o kvs).stop i H/\D.nx σ H)∨((Itd a o kvs).go i H/\∃ N:L2.St->Hp->Prop,(∀ σ' H',N σ' H'->∃ m',m' < m/\W (i+1) m' σ' H')/\∀ x H',(Itd a o kvs).yld i H x H'->g x σ H' fun σ2 H2=>tb {D with nx:=N,ct:=N,bk:=D.nx} σ2 H2):=by
 refine ⟨fun i m σ H=>m=kvs.length - i/\i<=kvs.length/\Pv i σ H,⟨kvs.length,by simp,Nat.zero_le _,h0⟩,?_⟩
 rintro i m σ H ⟨rfl,hi,p⟩
 have q:=hl i σ H hi p
 by_cases hlt:i < kvs.length
 ·refine .inr ⟨⟨q,hlt⟩,Pv (i+1),fun σ' H' p'=>⟨kvs.length - (i+1),by omega,rfl,hlt,p'⟩,fun x H' y=>?_⟩
  obtain ⟨e,b,kv,hk,ex,hb⟩:=y
  subst e ex
  exact hs i kv b σ _ hk hb p
 ·have e:i=kvs.length:=by omega
  subst e
  exact .inl ⟨⟨q,Nat.le_refl _⟩,hd σ H p⟩
noncomputable def frd (q:Rat):PyData:=.tuple [.int q.num,.int ((q.den:Nat):Int)]
theorem eqv_2 (a b c d:Int):PyData.eqv (.tuple [.int a,.int b]) (.tuple [.int c,.int d])=(decide (a=c) && decide (b=d)):=by
 show ((a == c) && ((b == d) && true))=_
 rw [Bool.and_true]
 congr 1
noncomputable def zP (s:Stmt) (j:Nat):Stmt:=match s with
 |.ClassDef _ _ _ b _ _ _ _ _ _ _=>b.getD j (.Pass ⟨0,0,0,0⟩)
 |_=>.Pass ⟨0,0,0,0⟩
noncomputable def DfM (K:PySem.W.Frag) (C:Addr) (m qual:Str) (st:Stmt) (ps:List Str):Prop:=
 ∃ (f:Addr) (oc:Value) (od:Option Addr) (kV doc pm:Value) (an:Option Addr) (cdv ct:Value) (osl:Array (Option Value)),
  K.lookup f=some ⟨oc,od,.func (PySem.W.fnOf m qual (zK st) (zJ st) (zD st) .none kV doc pm an cdv ct),osl⟩/\PySem.W.codeIn K cdv qual=true/\Meth K C m f∧
  ZN K (PySem.W.fnOf m qual (zK st) (zJ st) (zD st) .none kV doc pm an cdv ct) ps []
noncomputable def FnM (P:Program) (w:World) (K:PySem.W.Frag) (mg:Str->Option Value) (base:Heap) (k:Nat) (C:Addr) (m:Str) (ps:List Str) (sp:Sp):Prop:=
 ∃ f fd,FnOk P w K mg base (CXE P w) k f fd ps sp/\Meth K C m f/\ZN K fd ps []
section
variable {P:Program} {w:World} {K:PySem.W.Frag} {mg:Str->Option Value} {base:Heap} {C:Addr} {m qual:Str} {st:Stmt} {N ps:List Str} {k:Nat} {sp:Sp}
theorem DfM.ok0 (D:DfM K C m qual st ps) (S:FnScope N ps (zD st)) (len:∀ vs H Q E,sp vs H Q E->vs.length=ps.length)
  (hbody:∀ (f:Addr) (cdv:Value) (A:Around) (outer:List Env) (s:Shared) (H:Hp) (vs:List V) (Q:VK) (E:XK),Room k (A.deeper (envOfC qual (zD st) s.heap.objs.size f cdv))->sp vs H Q E->
   ∃ t,PSs (cxOf (CXE P w) P w K mg base N qual (zD st) f cdv A outer s H E).nox (zJ st) t/\t {nx:=fun _ H'=>Q .non H',rt:=Q} (YX N vs) H):FnM P w K mg base (k+1) C m ps sp:=by
 obtain ⟨f,oc,od,kV,doc,pm,an,cdv,ct,osl,lk,hcd,M,bd⟩:=D
 refine ⟨f,_,fn_of lk hcd S len fun A outer s H vs Q E hr hsp=>?_,M,bd⟩
 obtain ⟨t,h,q⟩:=hbody f cdv A outer s H vs Q E hr hsp
 exact ⟨t,h.nox,q⟩
theorem yI {f:Addr} {od an:Option Addr} {sl:Array (Option Value)} {oc kV dc pm cd ct:Value} (i:PySem.W.findIn K (.ref C) m=some (some (.ref f)))
  (t:PySem.W.isFn K (.ref f)=true) (l:K.lookup f=some ⟨oc,od,.func (PySem.W.fnOf m qual (zK st) (zJ st) (zD st) .none kV dc pm an cd ct),sl⟩) (q:PySem.W.codeIn K cd qual=true) (kp:PySem.W.keepIn K (.ref f)=true)
  (b:∀ us:List Value,us.length=ps.length->bindArgs (PySem.W.fnOf m qual (zK st) (zJ st) (zD st) .none kV dc pm an cd ct) ⟨us,[]⟩=pure (ps.zip us)):DfM K C m qual st ps:=
 ⟨f,oc,od,kV,dc,pm,an,cd,ct,sl,l,q,⟨i,t,kp⟩,.all b⟩
end
section
variable {X:Cx} {k k':Nat} {C:Addr} {m x f:Str} {ps:List Str} {sp:Sp} {E:XK} {p pos apos pos' tpos:Pos} {o e value:Expr} {es:List Expr} {t:TA} {ta tv:TE}
theorem yV {pl:Sem Bool} (c:Cls X.K C) (F:FnM X.prog X.w X.K X.mg X.base k C m ps sp) (hk:k<=k') (hr:Room k' X.A) (hx:jO (CXE X.prog X.w) X E) (he:PE X o ta) (ha:PA X (e::es) t)
  (hst:starEach (e::es) X.env=(false,eval e X.env)::starEach es X.env:=by rfl) (hpl:(backTo pos (starEach es X.env)).any (·.1)=false:=by rfl)
  (ht:eval (.Call (.Attribute o m apos) (e::es) [] pos) X.env=(do
   let ov <- eval o X.env
   standAt apos.atName
   let (f,first) <- holding [ov] (getMethod ov m pl)
   callWith pos f first (backTo pos (starEach (e::es) X.env)) (backToKw pos (keywordEach [] X.env))):=by rfl) :
  PE X (.Call (.Attribute o m apos) (e::es) [] pos) (tMeth C m sp [] E ta t):=by
 obtain ⟨f,fd,G,hm,bd⟩:=F
 exact pe_meth he c hm G (hr.mono hk) bd .nil hx ha hst hpl ht
theorem ZS {pl:Sem Bool} (c:Cls X.K C) (F:FnM X.prog X.w X.K X.mg X.base k C m ps sp) (hk:k<=k') (hr:Room k' X.A) (hx:jO (CXE X.prog X.w) X E) (he:PE X o ta)
  (ht:eval (.Call (.Attribute o m apos) [] [] pos) X.env=(do
   let ov <- eval o X.env
   standAt apos.atName
   let (f,first) <- holding [ov] (getMethod ov m pl)
   callWith pos f first (backTo pos (starEach [] X.env)) (backToKw pos (keywordEach [] X.env))):=by rfl) :
  PE X (.Call (.Attribute o m apos) [] [] pos) (tMeth C m sp [] E ta tNil):=by
 obtain ⟨f,fd,G,hm,bd⟩:=F
 exact pe_meth0 he c hm G (hr.mono hk) bd .nil hx ht
theorem pe_mko (mk:PySem.W.makesIn X.K C=true) (kp:PySem.W.keepIn X.K (.ref C)=true) (F:FnM X.prog X.w X.K X.mg X.base k C "__init__" ps sp) (hk:k+1≤k') (hr:Room k' X.A) (hg:Gl X x) (hm:X.mg x=some (.ref C)) (hx:jO (CXE X.prog X.w) X E)
  (ha:PA X (e::es) t) (hdb:(x == ("__debug__" : Str))=false:=by decide) (he:starEach (e::es) X.env=(false,eval e X.env)::starEach es X.env:=by rfl) (hpl:(backTo pos (starEach es X.env)).any (·.1)=false:=by rfl) :
  PE X (.Call (.Name x p) (e::es) [] pos) (tMake C sp [] E t):=by
 obtain ⟨f,fd,G,hf,bd⟩:=F
 exact pe_make ⟨mk,hf.at_,hf.fn,kp⟩ G (hr.mono hk) hg hm bd .nil hx ha hdb he hpl
noncomputable def tFldC (C:Addr) (ta:TE) (f:Str):TE:=fun σ H Q=>ta σ H fun x H1=>∃ a dx fs v,x=.ref a/\H1 a=some (.ins C dx fs)/\fs.lookup f=some v/\Q v H1
theorem zU (c:Cls X.K C) (n:yj X.K C f) (he:PE X e ta) (hb:attributeBase e f X.env (eval e X.env)=eval e X.env:=by rfl):PE X (.Attribute e f pos) (tFldC C ta f):=by
 intro pins s σ H Q I h
 refine attr_of hb (thn (he pins s σ H _ I h) fun u s1 zz=>?_)
 obtain ⟨x,H1,I1,rx,a,dx,fs,v,ex,ea,l,q⟩:=zz
 subst ex
 obtain rfl:u=Value.ref a:=rx
 exact JZ I1 ea c n l fun u' s2 I2 ru=>⟨v,H1,I2,ru,q⟩
noncomputable def sFldC (C:Addr) (ta tv:TE) (f:Str):TS:=fun D σ H=>tv σ H fun y H1=>ta σ H1 fun x H2=>∃ a dx fs,x=.ref a/\H2 a=some (.ins C dx fs)/\fs.length < 1000∧
 D.nx σ (upd H2 a (.ins C dx (putF f y fs)))
theorem jI (c:Cls X.K C) (n:yj X.K C f) (ha:PE X o ta) (hv:PE X value tv) (hs:swapsWith value (some (.Attribute o f pos')) pos.line X.env=pure false:=by rfl):PS X (.Assign [.Attribute o f pos'] value pos) (sFldC C ta tv f):=by
 intro pins s σ H D I h
 refine plainObj_wpAny_Assign_Attribute (thn (hv pins s σ H _ I h) fun u s1 ⟨y,H1,I1,ry,q⟩=>thn (ha pins s1 σ H1 _ I1 q) fun ov s2 ⟨x,H2,I2,rx,a,dx,fs,ex,ea,l,q2⟩=>?_) hs
 subst ex
 obtain rfl:ov=Value.ref a:=rx
 exact Jj I2 ea c n l ry fun s3 I3=>⟨σ,_,I3,q2⟩
noncomputable def sFldAdd (C:Addr) (ta tv:TE) (f:Str):TS:=fun D σ H=>ta σ H fun x H1=>∃ a dx fs i,x=.ref a/\H1 a=some (.ins C dx fs)/\fs.lookup f=some (.int i)∧
 tv σ H1 fun y H2=>∃ j,y=.int j/\H2=H1/\fs.length < 1000/\D.nx σ (upd H1 a (.ins C dx (putF f (.int (i+j)) fs)))
theorem ps_fldadd (c:Cls X.K C) (n:yj X.K C f) (hop:InOp X .Add rAdd) (ha:PE X o ta) (hv:PE X value tv):PS X (.AugAssign (.Attribute o f tpos) .Add value pos) (sFldAdd C ta tv f):=by
 intro pins s σ H D I h
 refine wpAny_AugAssign_AttributeAny (thn (ha pins s σ H _ I h) fun ov s1 zz=>?_)
 obtain ⟨x,H1,I1,rx,a,dx,fs,i,ex,ea,l,q⟩:=zz
 subst ex
 obtain rfl:ov=Value.ref a:=rx
 refine JZ I1 ea c n l fun u s2 I2 ru=>thn (hv pins s2 σ H1 _ I2 q) fun w3 s3 zz=>?_
 obtain ⟨y,H2,I3,ry,j,ey,eH,l',q4⟩:=zz
 subst ey eH
 refine thn (hop pins s3 σ H2 (.int i) (.int j) u w3 (fun z H3=>z=.int (i+j)/\H3=H2) I3 ru ry ⟨i,j,rfl,rfl,rfl,rfl⟩) fun w4 s4 zz=>?_
 obtain ⟨z,H3,I4,rz,ez,eH3⟩:=zz
 subst ez eH3
 exact Jj I4 ea c n l' rz fun s5 I5=>⟨σ,_,I5,q4⟩
end
noncomputable def Buts (as:List Addr) (H H':Hp):Prop:=∀ a o,a∉as->H a=some o->H' a=some o
section
variable {K:PySem.W.Frag} {H H1 H2:Hp} {as:List Addr}
theorem Buts.refl:Buts as H H:=fun _ _ _ h=>h
theorem Buts.trans (x:Buts as H H1) (y:Buts as H1 H2):Buts as H H2:=fun a o n h=>y a o n (x a o n h)
theorem Buts.of (x:Same H H1):Buts as H H1:=fun a o _ h=>x a o h
theorem Buts.one {b:Addr} (x:But b H H1) (h:b∈as):Buts as H H1:=fun a o n q=>x a o (fun e=>n (e▸h)) q
theorem Buts.mono {bs:List Addr} (x:Buts as H H1) (h:∀ a∈as,a∈bs):Buts bs H H1:=fun a o n q=>x a o (fun e=>n (h a e)) q
noncomputable def NoT (as:List Addr) (H:Hp):Prop:=∀ a∈as,(∀ ys,H a≠some (.tup ys))/\∀ o ys,H a≠some (.frz o (.tup ys))
theorem Buts.tup {p:Addr} {xs:List V} (x:Buts as H H1) (n:NoT as H) (h:SqT K H p xs):SqT K H1 p xs:=by
 rcases h with (h|⟨ob,h⟩)|h
 ·exact .inl (.inl (x _ _ (fun m=>(n _ m).1 _ h) h))
 ·exact .inl (.inr ⟨ob,x _ _ (fun m=>(n _ m).2 _ _ h) h⟩)
 ·exact .inr h
theorem NoT.nil:NoT [] H:=fun _ h=>nomatch h
theorem NoT.lst {a:Addr} {xs:List V} (h:H a=some (.lst xs)) (r:NoT as H):NoT (a::as) H:=fun b hb=>by
 rcases List.mem_cons.mp hb with rfl|hb
 ·rw [h]
  exact ⟨fun _ z=>(nomatch z),fun _ _ z=>(nomatch z)⟩
 ·exact r b hb
theorem NoT.ins {a C dx:Addr} {fs:List (Str × V)} (h:H a=some (.ins C dx fs)) (r:NoT as H):NoT (a::as) H:=fun b hb=>by
 rcases List.mem_cons.mp hb with rfl|hb
 ·rw [h]
  exact ⟨fun _ z=>(nomatch z),fun _ _ z=>(nomatch z)⟩
 ·exact r b hb
theorem NoT.dct {a:Addr} {kvs:List (List Key × V)} (h:H a=some (.dT kvs)) (r:NoT as H):NoT (a::as) H:=fun b hb=>by
 rcases List.mem_cons.mp hb with rfl|hb
 ·rw [h]
  exact ⟨fun _ z=>(nomatch z),fun _ _ z=>(nomatch z)⟩
 ·exact r b hb
end
section
variable {X:Cx} {pins:List (Addr × Obj)} {σ:L2.St} {H:Hp} {s:Shared}
theorem thaw {a:Addr} {o:Obj} {u:HO} (I:Inv X pins σ H s) (ha:H a=some (.frz o u)) (h0:∀ o u,X.H₀ a≠some (.frz o u)):Inv X pins σ (upd H a u) s:=by
 have nn:∀ {b:Addr},H b=none->upd H a u b=none:=fun {b} h=>by
  rw [zY (Ne.symm (zO ha h))]
  exact h
 have ns:∀ {b:Addr} {ob:HO},H b=some ob->ob≠.frz o u->upd H a u b=some ob:=fun {b ob} h n=>by
  rw [zY (zq h ha n)]
  exact h
 refine ⟨I.ok,I.os,I.bare,⟨I.base.keep,I.base.slot,fun b ob e n hx=>nn (I.base.free b ob e n hx),I.base.there,fun b xs e=>ns (I.base.tups b xs e) (fun z=>nomatch z),fun b ob v e=>?_,fun b ps e=>?_⟩,I.loc,I.cell,nn I.free,fun x c e=>nn (I.freeC x c e),fun p hp=>?_,fun b ob e=>?_,I.len⟩
 ·have z:=I.base.frzs b ob v e
  have ne:b≠a:=fun y=>h0 ob v (y▸e)
  rw [zY ne]
  exact z
 ·obtain ⟨more,z⟩:=I.base.tbls b ps e
  exact ⟨more,ns z (fun z=>nomatch z)⟩
 ·obtain ⟨p1,p2,p3⟩:=I.pin p hp
  exact ⟨p1,nn p2,p3⟩
 ·have ho:∀ c y,H c=some (.own y)->upd H a u c=some (.own y):=fun c y z=>ns z (fun z=>nomatch z)
  have ht:∀ c xs,H c=some (.tup xs)->upd H a u c=some (.tup xs):=fun c xs z=>ns z (fun z=>nomatch z)
  by_cases ne:b=a
  ·subst ne
   rw [zk] at e
   cases e
   obtain ⟨_,z⟩:=(show s.heap.get? b=some o/\zo X.prog X.w H s.heap b u from I.hok b _ ha)
   exact z.stay (fun _ _ _ q=>q) (fun c z=>ho c b z) ht
  ·rw [zY ne] at e
   exact (I.hok b ob e).stay (fun _ _ _ q=>q) (fun c z=>ho c b z) ht
noncomputable def Thw (H H':Hp) (q:Hp->Prop):Prop:=∃ (a:Addr) (o:Obj) (kvs:List (List Key × V)),H a=some (.dT kvs)/\H' a=some (.frz o (.dT kvs))/\q (upd H' a (.dT kvs))
theorem Thw.inv {H':Hp} {s':Shared} {σ':L2.St} {q:Hp->Prop} (I:Inv X pins σ H s) (h:Thw H H' q) (I':Inv X pins σ' H' s'):∃ H2,Inv X pins σ' H2 s'/\q H2:=by
 obtain ⟨a,o,kvs,h1,h2,h3⟩:=h
 refine ⟨_,thaw I' h2 fun o' u' z=>?_,h3⟩
 have y:=I.base.frzs a o' u' z
 rw [h1] at y
 cases y
noncomputable def tThaw (t:TE):TE:=fun σ H Q=>t σ H fun v H'=>Thw H H' (Q v)
theorem pe_thaw {e:Expr} {t:TE} (h:PE X e t):PE X e (tThaw t):=by
 intro pins s σ H Q I q
 refine thn (h pins s σ H _ I q) fun u s' zz=>?_
 obtain ⟨v,H',I',r,th⟩:=zz
 obtain ⟨H2,I2,q2⟩:=th.inv I I'
 exact ⟨v,H2,I2,r,q2⟩
noncomputable def sThaw (t:TS):TS:=fun D σ H=>t {nx:=fun σ' H'=>Thw H H' (D.nx σ'),rt:=fun v H'=>Thw H H' (D.rt v),bk:=fun σ' H'=>Thw H H' (D.bk σ'),ct:=fun σ' H'=>Thw H H' (D.ct σ')} σ H
theorem ps_thaw {st:Stmt} {t:TS} (h:PS X st t):PS X st (sThaw t):=by
 intro pins s σ H D I q
 refine thn (h pins s σ H _ I q) fun f s' hf=>?_
 cases f with
 |next=>obtain ⟨σ',H',I',th⟩:=hf; obtain ⟨H2,I2,q2⟩:=th.inv I I'; exact ⟨σ',H2,I2,q2⟩
 |brk=>obtain ⟨σ',H',I',th⟩:=hf; obtain ⟨H2,I2,q2⟩:=th.inv I I'; exact ⟨σ',H2,I2,q2⟩
 |cont=>obtain ⟨σ',H',I',th⟩:=hf; obtain ⟨H2,I2,q2⟩:=th.inv I I'; exact ⟨σ',H2,I2,q2⟩
 |ret u=>obtain ⟨v,σ',H',I',r,th⟩:=hf; obtain ⟨H2,I2,q2⟩:=th.inv I I'; exact ⟨v,σ',H2,I2,r,q2⟩
end
section
variable {X:Cx}
noncomputable def rCatA (K:PySem.W.Frag):R2:=fun x y H Q=>∃ a b xs ys,x=.ref a/\y=.ref b/\SqT K H a xs/\SqT K H b ys/\xs.length+ys.length<=sizeLine∧
 (xs=[]->Q (.ref b) H)/\(xs≠[]->ys=[]->Q (.ref a) H)/\(xs≠[]->ys≠[]->∀ p,H p=none->Q (.ref p) (upd H p (.tup (xs++ys))))
theorem op_catA:OpR X (binaryOp .Add) (rCatA X.K):=by
 intro pins s σ H x y v u Q I rx ry h
 obtain ⟨a,b,xs,ys,rfl,rfl,ha,hb,hz,q0,q1,q2⟩:=h
 by_cases hx:xs=[]
 ·subst hx
  cases rx
  cases ry
  obtain ⟨its,r1,p1,_⟩:=I.tuple ha
  obtain ⟨its2,r2,p2,_⟩:=I.tuple hb
  cases r1
  obtain ⟨⟨cls,dd,data,sl⟩,ho,hc,n,hd⟩:=id p1
  obtain ⟨⟨cls2,dd2,data2,sl2⟩,ho2,hc2,n2,hd2⟩:=id p2
  simp only at hc hd hc2 hd2
  subst hc hd hc2 hd2
  exact concat_meets ⟨_,ho,rfl⟩ ⟨_,ho2,rfl⟩ noFill_tuple_add seq_tuple_add PySem.F.slot_tuple_add PySem.F.entry_tuple_add (PySem.F.args_tuple_add_2 _ _)
   (tuple_addW0 a b #[] its2.toArray n n2 dd dd2 sl sl2 (by simp)) ⟨ho,ho2,⟨.ref b,H,I,rfl,q0 rfl⟩⟩
 ·exact op_catT pins s σ H _ _ v u Q I rx ry ⟨a,b,xs,ys,rfl,rfl,ha,hb,hx,hz,q1 hx,q2 hx⟩
theorem YV {K:PySem.W.Frag} (h:X.K=K):OpR X (binaryOp .Add) (rCatA K):=h▸op_catA
theorem ZE {K:PySem.W.Frag} (h:X.K=K):SlR X (rSlT K):=h▸sl_tup
end
section
variable {K:PySem.W.Frag} {idx:List Nat} {te:TE} {σ:L2.St} {H:Hp} {Q:VK}
theorem lc_tup {a:Addr} {xs:List V} (Pv:Nat->List V->Hp->Prop) (h0:Pv 0 [] H) (hz:xs.length<=sizeLine) (hy:∀ i ys H,Pv i ys H->ys.length=i) (hl:∀ i ys H,Pv i ys H->SqT K H a xs)
  (hs:∀ i x ys H (Q':VK),xs[i]?=some x->Pv i ys H->(∀ v H2,Pv (i+1) (ys++[v]) H2->Q' v H2)->te (stIn (some x) idx σ) H Q') (hd:∀ ys H,Pv xs.length ys H->∀ p,H p=none->Q (.ref p) (upd H p (.lst ys))) :
  Z3 (Itt K a) idx te σ Q H:=by
 refine ⟨fun i m ys H=>m=xs.length - i/\i<=xs.length/\Pv i ys H,⟨xs.length,by simp,Nat.zero_le _,h0⟩,?_⟩
 rintro i m ys H ⟨rfl,hi,p⟩
 have q:=hl i ys H p
 refine ⟨by rw [hy i ys H p]; omega,?_⟩
 by_cases hlt:i < xs.length
 ·refine .inr ⟨⟨xs,xs[i],q,by simp [hlt]⟩,fun y H' yl=>?_⟩
  obtain ⟨e,yl⟩:=yl
  subst e
  exact hs i y ys _ _ (yl xs q) p fun v H2 z=>⟨xs.length - (i+1),by omega,rfl,hlt,z⟩
 ·have e:i=xs.length:=by omega
  subst e
  exact .inl ⟨⟨xs,q,Nat.le_refl _⟩,hd ys H p⟩
end
noncomputable def FH (H:Hp) (p:Addr) (x:Rat):Prop:=H p=some (.tup [.int x.num,.int ((x.den:Nat):Int)])
section
variable {K:PySem.W.Frag} {H H':Hp} {p b c:Addr} {x y:Rat} {v:V} {ys:List V}
theorem FH.fq (h:FH H p x):FQ K H p x:=SqT.of h
theorem Z5 {n:Nat} {i:Int} (h:0 < i) (l:0 < n):¬ (HT.sIx n 0 (some i)=0/\HT.sIx n n none=n):=fun ⟨z,_⟩=>by
 rw [show i=((i.toNat:Nat):Int) by omega,HT.sIx_nat] at z
 omega
end
section
variable {X:Cx}
end
section
variable {K:PySem.W.Frag} {H H':Hp} {b c:Addr} {z:V} {k l:Bx} {ys:List V}
end
end Kw
namespace Kw
end Kw
namespace Kw
open PySem PySem.Spec PyProof.Rows L2
theorem FH.lit {H:Hp} {p:Addr} {t b:Int} (h:H p=some (.tup [.int t,.int b])) (e1:0 < b) (e2:Int.gcd t b=1):FH H p (Rat.divInt t b):=by
 obtain ⟨z1,z2⟩:=q_of e1 e2
 unfold FH
 rw [z1,z2]
 exact h
section
variable {X:Cx} {es1 es2 es3 es4 es5 es6:List Expr} {x1 x2 x3 x4 x5 x6:Nat} {q1 q2 q3 q4 q5 q6 q7 pos:Pos} {t1 t2 t3 t4 t5 t6 t7:TE}
theorem pe_lst1 (h1:PE X (.Tuple es1 x1 q1) t1):PE X (.List [.Tuple es1 x1 q1] pos) (tLst (ZU t1 tNil)):=yy (zA h1 zC)
theorem Zp {i j:Int} {k1 k2}:PE X (.Tuple [.Constant (.int i) k1 q1,.Constant (.int j) k2 q2] x1 pos) (tTup (ZU (tC (.int i)) (ZU (tC (.int j)) tNil))):=zV (zA zB (zA zB zC))
theorem pe_tup7 {x7:Nat} {i:Int} {k7} (h1:PE X (.Tuple es1 x1 q1) t1) (h2:PE X (.Tuple es2 x2 q2) t2) (h3:PE X (.Tuple es3 x3 q3) t3) (h4:PE X (.Tuple es4 x4 q4) t4) (h5:PE X (.Tuple es5 x5 q5) t5) (h6:PE X (.Tuple es6 x6 q6) t6) :
  PE X (.Tuple [.Tuple es1 x1 q1,.Tuple es2 x2 q2,.Tuple es3 x3 q3,.Tuple es4 x4 q4,.Tuple es5 x5 q5,.Tuple es6 x6 q6,.Constant (.int i) k7 q7] x7 pos) (tTup (ZU t1 (ZU t2 (ZU t3 (ZU t4 (ZU t5 (ZU t6 (ZU (tC (.int i)) tNil)))))))):=
 zV (zA h1 (zA h2 (zA h3 (zA h4 (zA h5 (zA h6 (zA zB zC)))))))
end
theorem com_fb {n:Int} {D B:Nat} (d1:1<=D) (dB:D < 2 ^ B) (nB:n.natAbs < 2 ^ B):FB B ((n:Rat) / (D:Rat)):=by
 have e:(n:Rat) / (D:Rat)=Rat.divInt n (D:Int):=by
  rw [q_dv]
  rfl
 rw [e]
 exact FB.fit (by omega) nB (show ((D:Int)).natAbs < 2 ^ B by rw [Int.natAbs_natCast]; exact dB)
theorem Z6 {D:Nat} (h:1<=D):(D:Rat)≠0:=by
 intro e
 have z:((D:Nat):Rat)=((0:Nat):Rat):=e
 have z2:=Rat.natCast_inj.mp z
 omega
theorem inv_two {a b:Rat} (ha:a≠0) (hb:b≠0):(a * b)⁻¹=a⁻¹ * b⁻¹:=by
 have i1:=Rat.mul_inv_cancel a ha
 have i2:=Rat.mul_inv_cancel b hb
 have n:a * b≠0:=fun z=>by
  rcases Rat.mul_eq_zero.mp z with z|z
  ·exact ha z
  ·exact hb z
 have i3:=Rat.mul_inv_cancel (a * b) n
 grind
open AutoSeq1 (wpAny_loadPart')
section
variable {prog:Program} {w:World} {A:Around} {E:Value->Shared->Prop} {s:Shared}
end
section
variable {prog:Program} {w:World} {A:Around} {E:Value->Shared->Prop} {s:Shared}
end
section
variable {X:Cx}
end
theorem ixN_nat {n j:Nat} (h:j < n):ixN n (j:Int)=some j:=by
 unfold ixN
 simp
 omega
section
variable {K:PySem.W.Frag} {H H':Hp} {v u:V} {o o':Option Rat} {as:List Addr}
end
section
variable {g sh nw x:Addr} {n i:Int} {j:Addr} {co v:V}
end
section
variable {K:PySem.W.Frag} {H H':Hp} {v:V} {m:Rat × Rat × Nat} {as:List Addr}
end
end Kw
namespace Kw
theorem al_app {β:Type} {R:L2.V->β->Prop}:∀ {xs xs':List L2.V} {ys ys':List β},Al2 R xs ys->Al2 R xs' ys'->Al2 R (xs++xs') (ys++ys')
 |[],_,[],_,_,h=>h
 |_::_,_,_::_,_,h,g=>⟨h.1,al_app h.2 g⟩
 |[],_,_::_,_,h,_=>h.elim
 |_::_,_,[],_,h,_=>h.elim
end Kw
namespace Kw
open PySem PySem.Spec PyProof.Rows L2
structure Bq where
 x:Rat
 y:Rat
 w:Rat
 h:Rat
 u:Rat
 v:Rat
 m:Option Int
noncomputable def Bq.pl (b:Bq) (d:Nat):Rat:=if d=0 then b.x else b.y
noncomputable def Bq.sz (b:Bq) (d:Nat):Rat:=if d=0 then b.w else b.h
noncomputable def Bq.sp (b:Bq) (d:Nat):Rat:=if d=0 then b.u else b.v
noncomputable def Bq.far (b:Bq) (d:Nat):Rat:=b.pl d+b.sz d
noncomputable def Bq.with (b:Bq) (d:Nat) (p s:Rat):Bq:=if d=0 then {b with x:=p,u:=s} else {b with y:=p,v:=s}
noncomputable def hicB (a b:Bq) (d:Nat):Bool:=decide (a.pl d < b.far d) && decide (b.pl d < a.far d)
noncomputable def tchB (a b:Bq) (d:Nat):Bool:=decide (a.far d=b.pl d)
noncomputable def besB (a b:Bq) (d:Nat):Bool:=tchB a b d && hicB a b (1 - d)
noncomputable def crnB (a b:Bq):Bool:=(tchB a b 0 || tchB b a 0) && (tchB a b 1 || tchB b a 1)
noncomputable def atB (t:Rat) (b:Bq):Bq:={b with x:=b.x+b.u * t,y:=b.y+b.v * t}
noncomputable abbrev Pr:=Nat × Int × Int
noncomputable def jQ (R:Rat × Rat) (d:Nat) (i:Int):Bq:=
 if d=0 then (if i=-1 then ⟨-1,0,1,R.2,0,0,none⟩ else ⟨R.1,0,1,R.2,0,0,none⟩) else (if i=-1 then ⟨0,-1,R.1,1,0,0,none⟩ else ⟨0,R.2,R.1,1,0,0,none⟩)
noncomputable def bxAt (gs:List Bq) (i:Nat):Bq:=gs.getD i ⟨0,0,1,1,0,0,none⟩
noncomputable def boxB (R:Rat × Rat) (gs:List Bq) (d:Nat) (i:Int):Bq:=if 0<=i then bxAt gs i.toNat else jQ R d i
noncomputable def jntP (R:Rat × Rat) (gs:List Bq) (p:Pr):Option Rat:=
 if (boxB R gs p.1 p.2.1).sp p.1<=(boxB R gs p.1 p.2.2).sp p.1 then none else some (((boxB R gs p.1 p.2.2).pl p.1 - (boxB R gs p.1 p.2.1).far p.1) / ((boxB R gs p.1 p.2.1).sp p.1 - (boxB R gs p.1 p.2.2).sp p.1))
noncomputable def prs1 (n d:Nat) (one:Int):List Pr:=(((-2:Int)::(List.range n).map fun (i:Nat)=>(i:Int)).filter fun o=>decide (one≠o) && (decide (0<=one) || decide (0<=o))).map fun o=>(d,one,o)
noncomputable def prsD (n d:Nat):List Pr:=((-1:Int)::(List.range n).map fun (i:Nat)=>(i:Int)).flatMap (prs1 n d)
noncomputable def prsP (n:Nat):List Pr:=prsD n 0++prsD n 1
noncomputable def metP (R:Rat × Rat) (gs:List Bq) (t:Rat) (p:Pr):Bool:=hicB (atB t (boxB R gs p.1 p.2.1)) (atB t (boxB R gs p.1 p.2.2)) (1 - p.1)
noncomputable def corP (R:Rat × Rat) (gs:List Bq) (p:Pr):Bool:=decide (0<=p.2.1) && (decide (0<=p.2.2) && (decide (jntP R gs p=jntP R gs (1 - p.1,p.2.1,p.2.2)) || decide (jntP R gs p=jntP R gs (1 - p.1,p.2.2,p.2.1))))
noncomputable def ZO (now:Rat) (c o:Option Rat):Bool:=match o with
 |none=>false
 |some t=>if t < now then false else (match c with|none=>true|some s=>decide (t < s))
noncomputable def yU (R:Rat × Rat) (gs:List Bq) (now:Rat) (c:Option Rat) (p:Pr):Option Rat:=
 if (ZO now c (jntP R gs p) && (metP R gs ((jntP R gs p).getD 0) p || corP R gs p))=true then jntP R gs p else c
noncomputable def comP (R:Rat × Rat) (gs:List Bq) (now:Rat):Option Rat:=(prsP gs.length).foldl (yU R gs now) none
noncomputable def cmgP (R:Rat × Rat) (gs:List Bq) (c:Option Rat) (p:Pr):Bool:=decide (c≠none) && decide (jntP R gs p=c)
noncomputable def dueP (R:Rat × Rat) (gs:List Bq) (now:Rat):List Pr:=(prsP gs.length).filter fun p=>cmgP R gs (comP R gs now) p && metP R gs ((comP R gs now).getD 0) p
noncomputable def numP (ps:List Pr):List Int:=(ps.map (·.2.1)++ps.map (·.2.2)).filter fun i=>decide (0<=i)
noncomputable def twoP (ps:List Pr):Bool:=decide (¬ (numP ps).Nodup)
noncomputable def hemP (R:Rat × Rat) (bs:List Bq) (ps:List Pr):Bool:=(prsP bs.length).any fun n=>besB (boxB R bs n.1 n.2.1) (boxB R bs n.1 n.2.2) n.1 && ps.any fun p=>decide (p.1=n.1) && (decide (p.2.1=n.2.2) || decide (p.2.2=n.2.1))
noncomputable def cnrP (bs:List Bq) (ps:List Pr):Bool:=(List.range bs.length).any fun o=>(List.range o).any fun i=>(decide ((i:Int)∈numP ps) || decide ((o:Int)∈numP ps)) && crnB (bxAt bs i) (bxAt bs o)
noncomputable def cloP (R:Rat × Rat) (gs:List Bq) (c:Option Rat):Bool:=(prsP gs.length).any fun p=>cmgP R gs c p && corP R gs p
noncomputable def crwP (R:Rat × Rat) (gs:List Bq) (now:Rat):Bool:=
 twoP (dueP R gs now) || (hemP R (gs.map (atB ((comP R gs now).getD 0))) (dueP R gs now) || (cnrP (gs.map (atB ((comP R gs now).getD 0))) (dueP R gs now) || cloP R gs (comP R gs now)))
noncomputable def ptd (a b:Rat × Rat × Option Int):Rat × Rat:=match b.2.2 with
 |none=>(b.1+b.1 - a.1,-a.2.1)
 |some u=>(mixQ a.1 b.1 (a.2.2.getD 1) u,mixQ a.2.1 b.2.1 (a.2.2.getD 1) u)
noncomputable def farG (b:Bq) (d:Nat):Rat × Rat × Option Int:=(b.far d,b.sp d,b.m)
noncomputable def yE (b:Bq) (d:Nat):Rat × Rat × Option Int:=(b.pl d,b.sp d,b.m)
noncomputable def Jq (b:Bq) (d:Nat) (g:Rat × Rat):Bq:=b.with d (g.1 - b.sz d) g.2
noncomputable def Jd (b:Bq) (d:Nat) (g:Rat × Rat):Bq:=b.with d g.1 g.2
noncomputable def prtA (R:Rat × Rat) (gs:List Bq) (p:Pr):List Bq:=
 if 0<=p.2.1 then gs.set p.2.1.toNat (Jq (boxB R gs p.1 p.2.1) p.1 (ptd (farG (boxB R gs p.1 p.2.1) p.1) (yE (boxB R gs p.1 p.2.2) p.1))) else gs
noncomputable def prtP (R:Rat × Rat) (gs:List Bq) (p:Pr):List Bq:=
 if 0<=p.2.2 then (prtA R gs p).set p.2.2.toNat (Jd (boxB R gs p.1 p.2.2) p.1 (ptd (yE (boxB R gs p.1 p.2.2) p.1) (farG (boxB R gs p.1 p.2.1) p.1))) else prtA R gs p
noncomputable def onP (R:Rat × Rat) (gs:List Bq) (now:Rat):List Bq:=(dueP R gs now).foldl (prtP R) gs
noncomputable def mtsP (R:Rat × Rat) (gs:List Bq) (now:Rat):List (Rat × Pr):=(dueP R gs now).map fun p=>((comP R gs now).getD 0,p)
inductive RunP (R:Rat × Rat):List Bq->Rat->Nat->String->List (Rat × Pr)->List Bq->Rat->Prop
 |still {gs:List Bq} {now:Rat} {n:Nat} (h:comP R gs now=none):RunP R gs now n "still" [] gs now
 |more {gs:List Bq} {now t:Rat} (h:comP R gs now=some t):RunP R gs now 0 "more" [] gs now
 |crowd {gs:List Bq} {now t:Rat} {n:Nat} (h:comP R gs now=some t) (c:crwP R gs now=true):RunP R gs now (n+1) "crowd" [] gs now
 |step {gs:List Bq} {now t:Rat} {n:Nat} {wd:String} {ms:List (Rat × Pr)} {es:List Bq} {last:Rat} (h:comP R gs now=some t) (c:crwP R gs now=false) (r:RunP R (onP R gs now) t n wd ms es last):RunP R gs now (n+1) wd (mtsP R gs now++ms) es last
noncomputable def wV:Option Int->V
 |none=>.non
 |some m=>.int m
noncomputable def WtO (o:Option Int):Prop:=∀ m,o=some m->1<=m/\m<=1000
noncomputable def BqH (K:PySem.W.Frag) (N:Nat) (H:Hp) (z:V) (b:Bq):Prop:=∃ p a0 a1 a2 a3 a4 a5,z=.ref p/\SqT K H p [.ref a0,.ref a1,.ref a2,.ref a3,.ref a4,.ref a5,wV b.m]∧
 (FQ K H a0 b.x/\FQ K H a1 b.y/\FQ K H a2 b.w/\FQ K H a3 b.h/\FQ K H a4 b.u/\FQ K H a5 b.v)/\(FB N b.x/\FB N b.y/\FB 1990 b.w/\FB 1990 b.h/\FB 1990 b.u/\FB 1990 b.v)/\WtO b.m
noncomputable def GoQ (K:PySem.W.Frag) (N:Nat) (H:Hp) (z:V) (g:Rat × Rat × Option Int):Prop:=∃ p a c,z=.ref p/\SqT K H p [.ref a,.ref c,wV g.2.2]/\FQ K H a g.1/\FQ K H c g.2.1/\FB N g.1/\FB 1990 g.2.1/\WtO g.2.2
section
variable {K:PySem.W.Frag} {H H':Hp} {N M:Nat} {z:V} {b:Bq} {g:Rat × Rat × Option Int} {as:List Addr}
theorem BqH.same (h:BqH K N H z b) (s:Same H H'):BqH K N H' z b:=by
 obtain ⟨p,a0,a1,a2,a3,a4,a5,e,h1,⟨g0,g1,g2,g3,g4,g5⟩,d⟩:=h
 exact ⟨p,a0,a1,a2,a3,a4,a5,e,Kw.Same.tup s h1,⟨Kw.Same.tup s g0,Kw.Same.tup s g1,Kw.Same.tup s g2,Kw.Same.tup s g3,Kw.Same.tup s g4,Kw.Same.tup s g5⟩,d⟩
theorem BqH.buts (h:BqH K N H z b) (s:Buts as H H') (n:NoT as H):BqH K N H' z b:=by
 obtain ⟨p,a0,a1,a2,a3,a4,a5,e,h1,⟨g0,g1,g2,g3,g4,g5⟩,d⟩:=h
 exact ⟨p,a0,a1,a2,a3,a4,a5,e,s.tup n h1,⟨s.tup n g0,s.tup n g1,s.tup n g2,s.tup n g3,s.tup n g4,s.tup n g5⟩,d⟩
theorem BqH.mono (h:BqH K N H z b) (l:N<=M):BqH K M H z b:=by
 obtain ⟨p,a0,a1,a2,a3,a4,a5,e,h1,g,⟨d0,d1,d⟩,w⟩:=h
 exact ⟨p,a0,a1,a2,a3,a4,a5,e,h1,g,⟨d0.mono l,d1.mono l,d⟩,w⟩
theorem zQ {vs:List V} {bs:List Bq} (h:Al2 (BqH K N H) vs bs) (s:Same H H'):Al2 (BqH K N H') vs bs:=Al2.imp (fun _ _ z=>z.same s) h
theorem yF {vs:List V} {bs:List Bq} (h:Al2 (BqH K N H) vs bs) (s:Buts as H H') (n:NoT as H):Al2 (BqH K N H') vs bs:=Al2.imp (fun _ _ z=>z.buts s n) h
theorem GoQ.same (h:GoQ K N H z g) (s:Same H H'):GoQ K N H' z g:=by
 obtain ⟨p,a,c,e,h1,h2,h3,d⟩:=h
 exact ⟨p,a,c,e,Kw.Same.tup s h1,Kw.Same.tup s h2,Kw.Same.tup s h3,d⟩
theorem d01 {d:Nat} (h:d<=1):d=0∨d=1:=by omega
end
noncomputable def keyP (p:Pr):List Key:=[.inl (p.1:Int),.inl p.2.1,.inl p.2.2]
noncomputable def keyW (d:Nat) (i:Int):List Key:=[.inl (d:Int),.inl i]
theorem keyP_inj {a b:Pr} (h:keyP a=keyP b):a=b:=by
 obtain ⟨a1,a2,a3⟩:=a
 obtain ⟨b1,b2,b3⟩:=b
 unfold keyP at h
 simp only [List.cons.injEq,Sum.inl.injEq,and_true] at h
 obtain ⟨h1,h2,h3⟩:=h
 have:a1=b1:=by omega
 subst this h2 h3
 rfl
noncomputable def OptB (K:PySem.W.Frag) (H:Hp) (v:V) (o:Option Rat):Prop:=(o=none/\v=.non)∨∃ (q:Rat) (p:Addr),o=some q/\v=.ref p/\FQ K H p q/\FB 2000 q
noncomputable def Wls (K:PySem.W.Frag) (H:Hp) (wl:Addr) (R:Rat × Rat):Prop:=∃ w0 w1 w2 w3:V,H wl=some (.dT [(keyW 0 (-1),w0),(keyW 0 (-2),w1),(keyW 1 (-1),w2),(keyW 1 (-2),w3)])/\BqH K 1990 H w0 (jQ R 0 (-1))/\BqH K 1990 H w1 (jQ R 0 (-2))/\BqH K 1990 H w2 (jQ R 1 (-1))/\BqH K 1990 H w3 (jQ R 1 (-2))
section
variable {K:PySem.W.Frag} {H H':Hp} {v:V} {o:Option Rat} {as:List Addr} {wl:Addr} {R:Rat × Rat} {a:Addr} {u:HO}
theorem OptB.same (h:OptB K H v o) (s:Same H H'):OptB K H' v o:=by
 rcases h with h|⟨q,p,e,e2,g,d⟩
 ·exact .inl h
 ·exact .inr ⟨q,p,e,e2,Kw.Same.tup s g,d⟩
theorem OptB.buts (h:OptB K H v o) (s:Buts as H H') (n:NoT as H):OptB K H' v o:=by
 rcases h with h|⟨q,p,e,e2,g,d⟩
 ·exact .inl h
 ·exact .inr ⟨q,p,e,e2,s.tup n g,d⟩
theorem OptB.non (h:OptB K H v o):v=.non↔o=none:=by
 rcases h with ⟨e,e2⟩|⟨q,p,e,e2,_⟩
 ·exact ⟨fun _=>e,fun _=>e2⟩
 ·exact ⟨fun z=>by (rw [e2] at z; cases z),fun z=>by (rw [e] at z; cases z)⟩
theorem optb_same {vs:List V} {os:List (Option Rat)} (h:Al2 (OptB K H) vs os) (s:Same H H'):Al2 (OptB K H') vs os:=Al2.imp (fun _ _ z=>z.same s) h
theorem yS {vs:List V} {os:List (Option Rat)} (h:Al2 (OptB K H) vs os) (s:Buts as H H') (n:NoT as H):Al2 (OptB K H') vs os:=Al2.imp (fun _ _ z=>z.buts s n) h
theorem Wls.same (h:Wls K H wl R) (s:Same H H'):Wls K H' wl R:=by
 obtain ⟨w0,w1,w2,w3,e,h0,h1,h2,h3⟩:=h
 exact ⟨w0,w1,w2,w3,s _ _ e,h0.same s,h1.same s,h2.same s,h3.same s⟩
theorem Wls.buts (h:Wls K H wl R) (s:Buts as H H') (n:NoT as H) (nw:wl∉as):Wls K H' wl R:=by
 obtain ⟨w0,w1,w2,w3,e,h0,h1,h2,h3⟩:=h
 exact ⟨w0,w1,w2,w3,s _ _ nw e,h0.buts s n,h1.buts s n,h2.buts s n,h3.buts s n⟩
theorem Wls.get (h:Wls K H wl R) {d:Nat} {i:Int} (hd:d<=1) (hi:i=-1∨i=-2):∃ w kvs,H wl=some (.dT kvs)/\valV kvs (keyW d i)=some w/\BqH K 1990 H w (jQ R d i):=by
 obtain ⟨w0,w1,w2,w3,e,h0,h1,h2,h3⟩:=h
 rcases d01 hd with rfl|rfl
 ·rcases hi with rfl|rfl
  ·exact ⟨w0,_,e,by with_unfolding_all rfl,h0⟩
  ·exact ⟨w1,_,e,by with_unfolding_all rfl,h1⟩
 ·rcases hi with rfl|rfl
  ·exact ⟨w2,_,e,by with_unfolding_all rfl,h2⟩
  ·exact ⟨w3,_,e,by with_unfolding_all rfl,h3⟩
theorem rd_same (h:Rd H a u) (s:Same H H'):Rd H' a u:=h.elim (fun z=>.inl (s _ _ z)) fun ⟨o,z⟩=>.inr ⟨o,s _ _ z⟩
end
structure NoM (fs:List (Str × V)):Prop where
 one_of:fs.lookup ("one_of" : Str)=none
 other_of:fs.lookup ("other_of" : Str)=none
 joint_of:fs.lookup ("joint_of" : Str)=none
 look_ahead:fs.lookup ("look_ahead" : Str)=none
 is_sooner:fs.lookup ("is_sooner" : Str)=none
 is_coming:fs.lookup ("is_coming" : Str)=none
 meet_at:fs.lookup ("meet_at" : Str)=none
 close_at_a_corner:fs.lookup ("close_at_a_corner" : Str)=none
 meetings:fs.lookup ("meetings" : Str)=none
 boxes_met:fs.lookup ("boxes_met" : Str)=none
 is_crowded:fs.lookup ("is_crowded" : Str)=none
 has_two_meetings:fs.lookup ("has_two_meetings" : Str)=none
 is_hemmed_in:fs.lookup ("is_hemmed_in" : Str)=none
 has_a_corner:fs.lookup ("has_a_corner" : Str)=none
 bodies_at:fs.lookup ("bodies_at" : Str)=none
 part:fs.lookup ("part" : Str)=none
 go_on:fs.lookup ("go_on" : Str)=none
structure PlG (K:PySem.W.Frag) (H:Hp) (C p:Addr) (R:Rat × Rat) (gs:List Bq) (dx:Addr) (fs:List (Str × V)) (wl g:Addr) (xs:List V):Prop where
 ob:H p=some (.ins C dx fs)
 fw:fs.lookup ("walls" : Str)=some (.ref wl)
 fg:fs.lookup ("goings" : Str)=some (.ref g)
 ws:Wls K H wl R
 hg:H g=some (.lst xs)
 al:Al2 (BqH K 1990 H) xs gs
 nm:NoM fs
structure PlJ (K:PySem.W.Frag) (H:Hp) (R:Rat × Rat) (gs:List Bq) (fs:List (Str × V)) (j:Addr) (kvs:List (List Key × V)):Prop where
 fj:fs.lookup ("joints" : Str)=some (.ref j)
 hj:Rd H j (.dT kvs)
 ks:kvs.map (·.1)=(prsP gs.length).map keyP
 js:Al2 (OptB K H) (kvs.map (·.2)) ((prsP gs.length).map (jntP R gs))
structure PlC (K:PySem.W.Frag) (H:Hp) (now:Rat) (c:Option Rat) (fs:List (Str × V)) (nw:Addr) (co:V):Prop where
 fn:fs.lookup ("now" : Str)=some (.ref nw)
 gn:FQ K H nw now
 dn:FB 2000 now
 fc:fs.lookup ("coming" : Str)=some co
 oc:OptB K H co c
section
variable {K:PySem.W.Frag} {H H':Hp} {C p:Addr} {R:Rat × Rat} {gs:List Bq} {dx:Addr} {fs:List (Str × V)} {wl g j nw:Addr} {xs:List V} {kvs:List (List Key × V)} {now:Rat} {c:Option Rat} {co:V} {as:List Addr}
theorem PlG.same (h:PlG K H C p R gs dx fs wl g xs) (s:Same H H'):PlG K H' C p R gs dx fs wl g xs:=⟨s _ _ h.ob,h.fw,h.fg,h.ws.same s,s _ _ h.hg,zQ h.al s,h.nm⟩
theorem PlJ.same (h:PlJ K H R gs fs j kvs) (s:Same H H'):PlJ K H' R gs fs j kvs:=⟨h.fj,rd_same h.hj s,h.ks,optb_same h.js s⟩
theorem PlC.same (h:PlC K H now c fs nw co) (s:Same H H'):PlC K H' now c fs nw co:=⟨h.fn,Kw.Same.tup s h.gn,h.dn,h.fc,h.oc.same s⟩
theorem val_at:∀ {kvs:List (List Key × V)} {ps:List Pr} {os:List (Option Rat)} {f:Pr->Option Rat},kvs.map (·.1)=ps.map keyP->Al2 (OptB K H) (kvs.map (·.2)) (ps.map f)->∀ q∈ps,∃ v,valV kvs (keyP q)=some v/\OptB K H v (f q)
 |[],[],_,_,_,_,q,hq=>nomatch hq
 |[],_::_,_,_,h,_,_,_=>nomatch h
 |_::_,[],_,_,h,_,_,_=>nomatch h
 |kv::kvs,p::ps,os,f,h,al,q,hq=>by
  simp only [List.map_cons,List.cons.injEq] at h
  obtain ⟨e,r⟩:=h
  by_cases z:p=q
  ·subst z
   exact ⟨kv.2,YH e,al.1⟩
  ·have hq':q∈ps:=(List.mem_cons.mp hq).resolve_left fun y=>z y.symm
   obtain ⟨v,e1,e2⟩:=val_at (os:=os) r al.2 q hq'
   exact ⟨v,by rw [YG (fun y=>z (keyP_inj (e▸y)))]; exact e1,e2⟩
theorem PlJ.get (h:PlJ K H R gs fs j kvs) {q:Pr} (hq:q∈prsP gs.length):∃ v,valV kvs (keyP q)=some v/\OptB K H v (jntP R gs q):=val_at (os:=[]) h.ks h.js q hq
end
theorem mem_prs1 {n d:Nat} {one:Int} {q:Pr}:q∈prs1 n d one↔q.1=d/\q.2.1=one/\(q.2.2=-2∨∃ i,i < n/\q.2.2=(i:Int))/\one≠q.2.2/\(0<=one∨0<=q.2.2):=by
 obtain ⟨q1,q2,q3⟩:=q
 unfold prs1
 simp only [List.mem_map,List.mem_filter,List.mem_cons,List.mem_range,Bool.and_eq_true,Bool.or_eq_true,decide_eq_true_eq,Prod.mk.injEq]
 constructor
 ·rintro ⟨o,⟨h1,h2,h3⟩,rfl,rfl,rfl⟩
  refine ⟨rfl,rfl,?_,h2,h3⟩
  rcases h1 with h1|⟨i,hi,e⟩
  ·exact .inl h1
  ·exact .inr ⟨i,hi,e.symm⟩
 ·rintro ⟨rfl,rfl,h1,h2,h3⟩
  refine ⟨q3,⟨?_,h2,h3⟩,rfl,rfl,rfl⟩
  rcases h1 with h1|⟨i,hi,e⟩
  ·exact .inl h1
  ·exact .inr ⟨i,hi,e.symm⟩
noncomputable def InP (n:Nat) (q:Pr):Prop:=q.1<=1/\(q.2.1=-1∨∃ i,i < n/\q.2.1=(i:Int))/\(q.2.2=-2∨∃ i,i < n/\q.2.2=(i:Int))/\q.2.1≠q.2.2/\(0<=q.2.1∨0<=q.2.2)
theorem mem_prsD {n d:Nat} {q:Pr}:q∈prsD n d↔q.1=d/\(q.2.1=-1∨∃ i,i < n/\q.2.1=(i:Int))/\(q.2.2=-2∨∃ i,i < n/\q.2.2=(i:Int))/\q.2.1≠q.2.2/\(0<=q.2.1∨0<=q.2.2):=by
 unfold prsD
 rw [List.mem_flatMap]
 constructor
 ·rintro ⟨one,h1,h2⟩
  obtain ⟨a,rfl,b,c,e⟩:=mem_prs1.mp h2
  refine ⟨a,?_,b,c,e⟩
  rcases List.mem_cons.mp h1 with h1|h1
  ·exact .inl h1
  ·obtain ⟨i,hi,ei⟩:=List.mem_map.mp h1
   exact .inr ⟨i,List.mem_range.mp hi,ei.symm⟩
 ·rintro ⟨a,h1,b,c,e⟩
  refine ⟨q.2.1,?_,mem_prs1.mpr ⟨a,rfl,b,c,e⟩⟩
  rcases h1 with h1|⟨i,hi,ei⟩
  ·rw [h1]
   exact List.mem_cons_self ..
  ·rw [ei]
   exact List.mem_cons_of_mem _ (List.mem_map.mpr ⟨i,List.mem_range.mpr hi,rfl⟩)
theorem yK {n:Nat} {q:Pr}:q∈prsP n↔InP n q:=by
 unfold prsP InP
 rw [List.mem_append,mem_prsD,mem_prsD]
 constructor
 ·rintro (⟨a,r⟩|⟨a,r⟩)
  ·exact ⟨by omega,r⟩
  ·exact ⟨by omega,r⟩
 ·rintro ⟨a,r⟩
  rcases d01 a with a|a
  ·exact .inl ⟨a,r⟩
  ·exact .inr ⟨a,r⟩
end Kw
namespace Kw
open PySem PySem.Spec PySem.NumText PyProof.Rows L2
end Kw
namespace Kw
open PySem PySem.Spec PySem.NumText PyProof.Rows L2
section
variable {X:Cx}
theorem any_range_bl (bs:List Bool):(List.range bs.length).any (fun i=>bs.getD i false)=bs.any id:=by
 rw [Bool.eq_iff_iff,List.any_eq_true,List.any_eq_true]
 constructor
 ·rintro ⟨i,hi,h⟩
  have hi':=List.mem_range.mp hi
  exact ⟨bs[i],List.getElem_mem hi',by simpa [List.getD,hi'] using h⟩
 ·rintro ⟨b,hb,h⟩
  obtain ⟨i,hi,rfl⟩:=List.mem_iff_getElem.mp hb
  exact ⟨i,List.mem_range.mpr hi,by simpa [List.getD,hi] using h⟩
noncomputable def rAny (K:PySem.W.Frag):List V->Hp->VK->Prop:=fun xs H Q=>∃ p,∃ bs:List Bool,xs=[.ref p]/\SqL K H p (bs.map V.bl)/\Q (.bl (bs.any id)) H
theorem call_any {K:PySem.W.Frag} (hK:X.K=K) (hc:X.calm=true):jE X (.builtin "any") (rAny K):=by
 subst hK
 intro pins s σ H xs us Q I r h
 obtain ⟨p,bs,rfl,hp,q⟩:=h
 obtain ⟨u,rfl,rx⟩:=Zz r
 cases rx
 obtain ⟨its,r',pl,hz⟩:=I.list hp
 have hlen:=r'.length
 rw [List.length_map] at hlen
 have hlt:p < s.heap.objs.size:=by
  obtain ⟨o,n,e,_⟩:=pl
  exact Heap.lt_size e
 refine call_any_walk (wpAny_pyIter_list pl.isList ?_)
 refine ⟨s.heap.objs.size,[s.heap.objs.size,p],[s.heap.objs.size],its.toArray.size,fun i v=>its.toArray[i]?=some v,fun i h=>h.IsListIter s.heap.objs.size p i/\h.IsList p its.toArray,fun i=>bs.getD i false,rfl,Walks.list (A:=X.A.in1) (I.ok.hd hc) s.heap.objs.size p (Nat.ne_of_lt hlt) its.toArray,⟨⟨_,Heap.get?_push_size _ rfl,rfl,rfl⟩,pl.isList.push _⟩,?_,fun h' tk kk=>?_⟩
 ·intro i v z Q' E' hv hq
  have hv':its[i]?=some v:=by simpa using hv
  obtain ⟨hi,e⟩:=List.getElem?_eq_some_iff.mp hv'
  have hi':i < bs.length:=by omega
  have eb:(bs.map V.bl)[i]?=some (V.bl bs[i]):=by rw [List.getElem?_map,List.getElem?_eq_getElem hi']; rfl
  obtain ⟨w',hw,rw'⟩:=r'.get eb
  rw [hv'] at hw
  cases hw
  cases (show v=Value.bool bs[i] from rw')
  have e2:bs.getD i false=bs[i]:=by simp [List.getD,hi']
  dsimp only at hq
  rw [e2] at hq
  exact wpAny_truthy_bool hq
 ·rw [List.size_toArray,<- hlen,any_range_bl]
  refine ⟨.bl (bs.any id),H,I.kept (t':=tk) fun b o e=>?_,rfl,q⟩
  exact kk b o (fun z=>by
   have e':=List.mem_singleton.mp z
   have:=Heap.lt_size e
   rw [e'] at this
   exact Nat.lt_irrefl _ this) (Heap.get?_push_of_some _ e)
end
end Kw
namespace Kw
open PySem PySem.Spec PySem.NumText PyProof.Rows L2
section
variable {X:Cx}
end
end Kw
namespace Kw
open PySem PySem.Spec PySem.NumText PyProof.Rows L2
section
variable {prog:Program} {w:World} {A:Around} {E:Value->Shared->Prop} {s:Shared} {I l:Addr} {items:Array Value}
end
section
variable {X:Cx}
end
end Kw
namespace Kw
open PySem PySem.Spec PySem.NumText PyProof.Rows L2
end Kw
namespace Kw
open PySem PySem.Spec PySem.NumText PyProof.Rows L2
end Kw
namespace Kw
open PySem PySem.Spec PySem.NumText PyProof.Rows L2
section
variable {X:Cx}
noncomputable def rInD (K:PySem.W.Frag):V->V->Hp->VK->Prop:=fun x y H Q=>∃ (d:PyData) (ds:List PyData),Dp K H x d/\(Dp K H y (.list ds)∨Dp K H y (.tuple ds))/\PyData.canLayAll0 ds=true/\d.canLay0=true/\min (PyData.depthAll ds) d.depth<=60/\Q (.bl (ds.any fun z=>PyData.eqv z d)) H
theorem op_inD {K:PySem.W.Frag} (hK:X.K=K) (hu:X.A.units+100 < cLine):OpR X (compareOp .In) (rInD K):=by
 subst hK
 intro pins s σ H x y v u Q I rx ry h
 obtain ⟨d,ds,hx,hy,cs,cd,dep,q⟩:=h
 obtain ⟨as,ra⟩:=hx.reads I rx
 rcases hy with hy|hy
 ·obtain ⟨bs,rb⟩:=hy.reads I ry
  exact SeqAt.in_list_reads rb ra cs cd (by omega) ⟨.bl _,H,I,rfl,q⟩
 ·obtain ⟨bs,rb⟩:=hy.reads I ry
  exact SeqAt.in_tuple_reads rb ra cs cd (by omega) ⟨.bl _,H,I,rfl,q⟩
end
end Kw
namespace Kw
open PySem PySem.Spec PyProof.Rows L2
section
variable {β:Type} {R:V->β->Prop} {xs:List V} {bs:List β}
end
end Kw
namespace Kw
open PySem PySem.Spec PySem.NumText PyProof.Rows L2
section
variable {X:Cx}
end
end Kw
namespace Kw
open PySem PySem.Spec PyProof.Rows L2
section
variable {X:Cx}
end
section
variable {X:Cx} {k k':Nat} {C:Addr} {x:Str} {ps:List Str} {sp:Sp} {E:XK} {p pos:Pos}
end
noncomputable def strV (k:String):V:=.str (Str.ofString k)
theorem sqt2 {K:PySem.W.Frag} {A:Addr} {o:Option Addr} {a b:String} {k1 k2:Tok} {n:Nat} {sl:Array (Option Value)} (h:K.lookup A=some ⟨.type "tuple",o,.seq #[.str (Str.ofString a) k1,.str (Str.ofString b) k2] n,sl⟩):∀ H,SqT K H A ([a,b].map strV):=fun H=>
 .inr ⟨_,_,_,h,rfl,rfl,by show 2<=sizeLine; decide,.cons ⟨_,rfl⟩ (.cons ⟨_,rfl⟩ .nil)⟩
noncomputable def tGlobS (K:PySem.W.Frag) (ks:List String):TE:=fun _ H Q=>∀ N,(∀ H1,SqT K H1 N (ks.map strV))->Q (.ref N) H
theorem pe_globS3 {X:Cx} {K:PySem.W.Frag} {ks:List String} {x:Str} {pos:Pos} (hK:X.K=K) (hg:Gl X x) (hm:∃ N,X.mg x=some (.ref N)∧∀ H,SqT K H N (ks.map strV)) (hd:(x == ("__debug__" : Str))=false:=by decide):PE X (.Name x pos) (tGlobS K ks):=by
 obtain ⟨N,hm,hN⟩:=hm
 intro pins s σ H Q I h
 exact pe_glob hg hm (v:=.ref N) rfl hd pins s σ H Q I (h N hN)
noncomputable def dd (ns:List Int):List Int:=ns.foldl step_dedup []
theorem first_dd (ns:List Int):firstMet (fun i=>ns.getD i 0) ns.length=dd ns:=by
 unfold firstMet dd
 congr 1
 refine List.ext_getElem? fun i=>?_
 rw [List.getElem?_map]
 by_cases h:i < ns.length
 ·rw [List.getElem?_range h,List.getElem?_eq_getElem h]
  simp [List.getD_eq_getElem?_getD,List.getElem?_eq_getElem h]
 ·rw [List.getElem?_eq_none (by simpa using h),List.getElem?_eq_none (by omega)]
  rfl
theorem dd_fold:∀ (ns σ:List Int),σ.Nodup->(ns.foldl step_dedup σ).length<=σ.length+ns.length/\((ns.foldl step_dedup σ).length=σ.length+ns.length↔(σ++ns).Nodup)
 |[],σ,h=>by simp [h]
 |n::ns,σ,h=>by
  rw [List.foldl_cons]
  by_cases e:σ.any (· == n)=true
  ·have m:n∈σ:=by simpa [List.any_eq_true,beq_iff_eq] using e
   have es:step_dedup σ n=σ:=if_pos e
   rw [es]
   have ih:=dd_fold ns σ h
   refine ⟨by simp; omega,⟨fun z=>?_,fun z=>?_⟩⟩
   ·simp only [List.length_cons] at z
    omega
   ·have:=(List.nodup_append.mp z).2.2 n m n (List.mem_cons_self ..)
    exact absurd rfl this
  ·have m:n∉σ:=by simpa [List.any_eq_true,beq_iff_eq] using e
   have es:step_dedup σ n=σ++[n]:=if_neg e
   rw [es]
   have h':(σ++[n]).Nodup:=List.nodup_append.mpr ⟨h,by simp,fun a ha b hb e=>m (by rw [List.mem_singleton.mp hb] at e; exact e▸ha)⟩
   have ih:=dd_fold ns (σ++[n]) h'
   rw [List.length_append,List.length_singleton] at ih
   rw [show σ++n::ns=σ++[n]++ns by simp]
   refine ⟨by simp; omega,?_⟩
   rw [<- ih.2]
   simp only [List.length_cons]
   omega
theorem dd_two (ns:List Int):(dd ns).length < ns.length↔¬ ns.Nodup:=by
 have z:=dd_fold ns [] List.nodup_nil
 simp only [List.length_nil,Nat.zero_add,List.nil_append] at z
 unfold dd
 rw [<- z.2]
 omega
section
variable {X:Cx}
theorem call_setI (hc:X.calm=true):jE X (.type "set") (fun xs H Q=>∃ p ns,xs=[.ref p]∧SqL X.K H p (ns.map V.int)∧ns.length < 4000∧∀ l,H l=none→Q (.ref l) (upd H l (.set (fun k=>(dd ns).any (· == k)) (dd ns).length))):=by
 intro pins s σ H xs us Q I r h
 obtain ⟨p,ns,rfl,hq,h64,q⟩:=h
 obtain ⟨u,rfl,rx⟩:=Zz r
 cases rx
 obtain ⟨its,r',pl,hz⟩:=I.list hq
 have hlen:=r'.length
 rw [List.length_map] at hlen
 refine PySem.call_set_list (I.ok.hd hc) pl.isList (by simpa using Kw.vals_ints r') (by show its.toArray.size+1 < 4096; simp; omega) fun h' tk hS hk=>?_
 have hsz:its.toArray.size=ns.length:=by simp; omega
 rw [hsz,first_dd] at hS
 exact ⟨.ref s.heap.objs.size,_,I.laid (t':=tk) (o:=.set (fun k=>(dd ns).any (· == k)) (dd ns).length) (fun b o ho=>hk b o (Heap.lt_size ho) ho) (Nat.le_refl _) hS,rfl,q _ (I.hok.fresh (Nat.le_refl _))⟩
theorem call_lenS:jE X (.builtin "len") (fun xs H Q=>∃ p S n,xs=[.ref p]∧H p=some (.set S n)∧Q (.int n) H):=by
 intro pins s σ H xs us Q I r h
 obtain ⟨p,S,n,rfl,hp,q⟩:=h
 obtain ⟨u,rfl,rx⟩:=Zz r
 cases rx
 obtain ⟨o,es,ep,t,ho,hex,hd,_,_,hb,hf,rfl⟩:=(I.hok p _ hp:s.heap.SetOf (intKind X.prog X.w) p S n)
 have hb':es.size < 4096:=hb
 exact call_len_set ho hex hd hf (by omega) ⟨.int _,H,I.tok _,⟨_,rfl⟩,q⟩
end
noncomputable def opD:Option Rat->PyData
 |none=>.none
 |some q=>frd q
theorem YY (o:Option Rat):(opD o).canLay0=true:=by cases o<;>rfl
theorem opD_dep (o:Option Rat):(opD o).depth<=2:=by
 cases o with
 |none=>decide
 |some q=>exact Nat.le_of_ble_eq_true rfl
theorem opD_eqv (a b:Option Rat):PyData.eqv (opD a) (opD b)=decide (a=b):=by
 cases a with
 |none=>cases b with
  |none=>rfl
  |some q=>rfl
 |some p=>cases b with
  |none=>rfl
  |some q=>
   show PyData.eqv (frd p) (frd q)=_
   unfold frd
   rw [eqv_2]
   by_cases e:p=q
   ·subst e
    rw [decide_eq_true rfl,decide_eq_true rfl,decide_eq_true rfl]
    rfl
   ·rw [decide_eq_false (fun z=>e (Option.some.inj z))]
    by_cases e1:p.num=q.num
    ·by_cases e2:p.den=q.den
     ·exact absurd (Rat.ext e1 e2) e
     ·rw [decide_eq_false (show ¬ ((p.den:Nat):Int)=((q.den:Nat):Int) by omega),Bool.and_false]
    ·rw [decide_eq_false e1,Bool.false_and]
theorem OptB.dp {K:PySem.W.Frag} {H:Hp} {v:V} {o:Option Rat} (h:OptB K H v o):Dp K H v (opD o):=by
 rcases h with ⟨rfl,rfl⟩|⟨q,p,rfl,rfl,g,_⟩
 ·exact .non
 ·exact .tup g (.cons (.int _) (.cons (.int _) .nil))
theorem op_eqOB {X:Cx} {K:PySem.W.Frag} (hK:X.K=K) (hu:X.A.units+100 < cLine):OpR X (compareOp .Eq) (fun a b H Q=>∃ o o',OptB K H a o/\OptB K H b o'/\Q (.bl (decide (o=o'))) H):=by
 intro pins s σ H a b v u Q I rx ry h
 obtain ⟨o,o',h1,h2,k⟩:=h
 refine op_eqD hK hu pins s σ H _ _ v u Q I rx ry ⟨opD o,opD o',h1.dp,h2.dp,YY _,YY _,?_,?_⟩
 ·have:=opD_dep o
  have:=opD_dep o'
  omega
 rw [opD_eqv]
 exact k
theorem op_inOB {X:Cx} {K:PySem.W.Frag} (hK:X.K=K) (hu:X.A.units+100 < cLine):OpR X (compareOp .In) (fun x y H Q=>∃ (t:Addr) (a b:V) (o o1 o2:Option Rat),y=.ref t/\SqT K H t [a,b]/\OptB K H x o/\OptB K H a o1/\OptB K H b o2/\Q (.bl (decide (o=o1) || decide (o=o2))) H):=by
 intro pins s σ H x y v u Q I rx ry h
 obtain ⟨t,a,b,o,o1,o2,rfl,ht,h0,h1,h2,k⟩:=h
 refine op_inD hK hu pins s σ H _ _ v u Q I rx ry ⟨opD o,[opD o1,opD o2],h0.dp,.inr (.tup ht (.cons h1.dp (.cons h2.dp .nil))),?_,YY _,?_,?_⟩
 ·show (PyData.canLay0 (opD o1) && (PyData.canLay0 (opD o2) && true))=true
  rw [YY,YY]
  rfl
 ·have:=opD_dep o
  omega
 ·simp only [List.any_cons,List.any_nil,Bool.or_false,opD_eqv]
  rw [show decide (o1=o)=decide (o=o1) from decide_eq_decide.mpr eq_comm,show decide (o2=o)=decide (o=o2) from decide_eq_decide.mpr eq_comm]
  exact k
theorem ZB {f k:Str} {v:V} (h:k≠f):∀ fs:List (Str × V),(putF f v fs).lookup k=fs.lookup k
 |[]=>by
  show (match k == f with|true=>some v|false=>none)=none
  rw [beq_false_of_ne h]
 | (g,x)::r=>by
  unfold putF
  by_cases e:g=f
  ·subst e
   rw [if_pos rfl,List.lookup_cons,List.lookup_cons,beq_false_of_ne h]
  ·rw [if_neg e,List.lookup_cons,List.lookup_cons,ZB h r]
theorem look_eq {f:Str} {v:V}:∀ fs:List (Str × V),(putF f v fs).lookup f=some v
 |[]=>by
  show (match f == f with|true=>some v|false=>none)=some v
  rw [beq_self_eq_true]
 | (g,x)::r=>by
  unfold putF
  by_cases e:g=f
  ·subst e
   rw [if_pos rfl,List.lookup_cons,beq_self_eq_true]
  ·rw [if_neg e,List.lookup_cons,look_eq r,beq_false_of_ne (Ne.symm e)]
theorem put_put {f:Str} {v u:V}:∀ fs:List (Str × V),putF f v (putF f u fs)=putF f v fs
 |[]=>by simp [putF]
 | (g,x)::r=>by
  by_cases e:g=f
  ·subst e
   simp [putF]
  ·simp [putF,e,put_put r]
theorem JM {f:Str} {v:V}:∀ fs:List (Str × V),(putF f v fs).length<=fs.length+1
 |[]=>Nat.le_refl _
 | (g,x)::r=>by
  unfold putF
  split
  ·simp
  ·have:=JM (f:=f) (v:=v) r
   simp only [List.length_cons]
   omega
theorem NoM.put {fs:List (Str × V)} (h:NoM fs) {f:Str} {v:V} (hf:f="coming"∨f="due"∨f="now"∨f="gone_through"):NoM (putF f v fs):=by
 have ne:∀ k:Str,k≠"coming"→k≠"due"→k≠"now"→k≠"gone_through"→k≠f:=fun k a b c d e=>by
  subst e
  rcases hf with z|z|z|z
  ·exact a z
  ·exact b z
  ·exact c z
  ·exact d z
 have g:∀ k:Str,k≠"coming"→k≠"due"→k≠"now"→k≠"gone_through"→fs.lookup k=none→(putF f v fs).lookup k=none:=fun k a b c d e=>by rw [ZB (ne k a b c d)]; exact e
 obtain ⟨h1,h2,h3,h4,h5,h6,h7,h8,h9,h10,h11,h12,h13,h14,h15,h16,h17⟩:=h
 constructor<;>exact g _ (by decide) (by decide) (by decide) (by decide) (by assumption)
section
variable {K:PySem.W.Frag} {H H':Hp} {C p:Addr} {R:Rat × Rat} {gs:List Bq} {dx:Addr} {fs:List (Str × V)} {wl g j nw:Addr} {xs:List V} {kvs:List (List Key × V)} {now:Rat} {c:Option Rat} {co:V} {as:List Addr} {f:Str} {v:V}
theorem PlG.put (h:PlG K H C p R gs dx fs wl g xs) (hf:f="coming"∨f="due"∨f="now"∨f="gone_through") (s:Buts as H H') (n:NoT as H) (nw:wl∉as) (ng:g∉as) (e:H' p=some (.ins C dx (putF f v fs))):PlG K H' C p R gs dx (putF f v fs) wl g xs:=by
 have n1:("walls" : Str)≠f:=fun z=>by subst z; revert hf; decide
 have n2:("goings" : Str)≠f:=fun z=>by subst z; revert hf; decide
 exact ⟨e,by rw [ZB n1]; exact h.fw,by rw [ZB n2]; exact h.fg,h.ws.buts s n nw,s _ _ ng h.hg,yF h.al s n,h.nm.put hf⟩
theorem PlG.buts (h:PlG K H C p R gs dx fs wl g xs) (s:Buts as H H') (n:NoT as H) (np:p∉as) (nw:wl∉as) (ng:g∉as):PlG K H' C p R gs dx fs wl g xs:=⟨s _ _ np h.ob,h.fw,h.fg,h.ws.buts s n nw,s _ _ ng h.hg,yF h.al s n,h.nm⟩
theorem PlJ.buts (h:PlJ K H R gs fs j kvs) (s:Buts as H H') (n:NoT as H) (hj:Rd H' j (.dT kvs)):PlJ K H' R gs fs j kvs:=⟨h.fj,hj,h.ks,yS h.js s n⟩
theorem PlJ.put (h:PlJ K H R gs fs j kvs) (hf:f="coming"∨f="due"∨f="now"∨f="gone_through") (s:Buts as H H') (n:NoT as H) (hj:Rd H' j (.dT kvs)):PlJ K H' R gs (putF f v fs) j kvs:=by
 have n1:("joints" : Str)≠f:=fun z=>by subst z; revert hf; decide
 exact ⟨by rw [ZB n1]; exact h.fj,hj,h.ks,yS h.js s n⟩
end
noncomputable def PrH (H:Hp) (v:V) (q:Pr):Prop:=∃ b,v=.ref b/\H b=some (.tup ((keyP q).map kV))
theorem PrH.same {H H':Hp} {v:V} {q:Pr} (h:PrH H v q) (s:Same H H'):PrH H' v q:=by
 obtain ⟨b,e,h⟩:=h
 exact ⟨b,e,s _ _ h⟩
theorem zt {H H':Hp} {vs:List V} {qs:List Pr} (h:Al2 (PrH H) vs qs) (s:Same H H'):Al2 (PrH H') vs qs:=Al2.imp (fun _ _ z=>z.same s) h
theorem PrH.but {H H':Hp} {v:V} {q:Pr} {as:List Addr} (h:PrH H v q) (s:Buts as H H') (n:NoT as H):PrH H' v q:=by
 obtain ⟨b,e,h⟩:=h
 exact ⟨b,e,s _ _ (fun m=>(n b m).1 _ h) h⟩
theorem yk {H H':Hp} {vs:List V} {qs:List Pr} {as:List Addr} (h:Al2 (PrH H) vs qs) (s:Buts as H H') (n:NoT as H):Al2 (PrH H') vs qs:=Al2.imp (fun _ _ z=>z.but s n) h
theorem Yi {kvs:List (List Key × V)} {ps:List Pr} (h:kvs.map (·.1)=ps.map keyP) {i:Nat} {kv:List Key × V} (hk:kvs[i]?=some kv):∃ q,ps[i]?=some q/\kv.1=keyP q:=by
 have lk:kvs.length=ps.length:=by
  have:=congrArg List.length h
  rwa [List.length_map,List.length_map] at this
 have hi:=(List.getElem?_eq_some_iff.mp hk).1
 obtain ⟨q,hq⟩:∃ q,ps[i]?=some q:=⟨_,List.getElem?_eq_getElem (by omega)⟩
 refine ⟨q,hq,?_⟩
 have z:=congrArg (fun l=>l[i]?) h
 simp only [List.getElem?_map,hk,hq,Option.map_some] at z
 exact Option.some.inj z
theorem NoT.frz {H:Hp} {as:List Addr} {a:Addr} {o:Obj} {kvs:List (List Key × V)} (h:H a=some (.frz o (.dT kvs))) (r:NoT as H):NoT (a::as) H:=fun b hb=>by
 rcases List.mem_cons.mp hb with rfl|hb
 ·exact ⟨fun ys z=>by (rw [h] at z; cases z),fun o' ys z=>by (rw [h] at z; cases z)⟩
 ·exact r b hb
theorem Zs {n:Nat} (h:n<=6):(prsP n).length<=200:=by
 have:n=0∨n=1∨n=2∨n=3∨n=4∨n=5∨n=6:=by omega
 rcases this with rfl|rfl|rfl|rfl|rfl|rfl|rfl<;>decide+kernel
theorem lc_dictF {idx:List Nat} {tt:TT} {te:TE} {σ:L2.St} {H:Hp} {Q:VK} {a:Addr} {o:Obj} {kvs:List (List Key × V)} {ps:List Pr} (f:Pr->Bool) (hk:kvs.map (·.1)=ps.map keyP) (hf:H a=some (.frz o (.dT kvs))) (hz:kvs.length<=sizeLine)
  (ht:∀ q b (H1:Hp),q∈ps->Same H H1->H1 b=some (.tup ((keyP q).map kV))->∀ Q':Bool->Hp->Prop,(∀ H2,Same H1 H2->Q' (f q) H2)->tt (stIn (some (.ref b)) idx σ) H1 Q')
  (he:∀ b (H1:Hp),∀ Q':VK,Q' (.ref b) H1->te (stIn (some (.ref b)) idx σ) H1 Q')
  (hd:∀ H1 ds,Same H H1->Al2 (PrH H1) ds (ps.filter f)->∀ q,H1 q=none->Q (.ref q) (upd H1 q (.lst ds))):ZF (Itd a o kvs) idx tt te σ Q H:=by
 have lk:kvs.length=ps.length:=by
  have:=congrArg List.length hk
  rwa [List.length_map,List.length_map] at this
 refine ⟨fun i m ys H'=>m=kvs.length - i/\i<=kvs.length/\Same H H'/\Al2 (PrH H') ys ((ps.take i).filter f),⟨kvs.length,by simp,Nat.zero_le _,Same.refl _,trivial⟩,?_⟩
 rintro i m ys H' ⟨rfl,hi,s1,al⟩
 have ly:=Al2.len al
 have lf:=List.length_filter_le f (ps.take i)
 rw [List.length_take] at lf
 refine ⟨by omega,?_⟩
 by_cases hlt:i < kvs.length
 ·refine .inr ⟨⟨s1 _ _ hf,hlt⟩,fun y H2 yl=>?_⟩
  obtain ⟨e,b,kv,hkv,ex,hb⟩:=yl
  subst e ex
  obtain ⟨q,hq⟩:∃ q,ps[i]?=some q:=⟨_,List.getElem?_eq_getElem (by omega)⟩
  have ek:kv.1=keyP q:=by
   have z:=congrArg (fun l=>l[i]?) hk
   simp only [List.getElem?_map,hkv,hq,Option.map_some] at z
   exact Option.some.inj z
  rw [ek] at hb
  have tk:(ps.take (i+1)).filter f=(ps.take i).filter f++(if f q=true then [q] else []):=by
   rw [zZ hq,List.filter_append]
   congr 1
   show (match f q with|true=>q::[]|false=>[])=_
   cases f q<;>rfl
  refine ht q b _ (List.mem_of_getElem? hq) s1 hb _ fun H3 s3=>?_
  cases hp:f q with
  |true=>
   rw [hp] at tk
   rw [if_pos rfl]
   exact he b _ _ ⟨kvs.length - (i+1),by omega,rfl,hlt,s1.trans s3,by rw [tk,if_pos rfl]; exact Al2.snoc (zt al s3) ⟨b,rfl,s3 _ _ hb⟩⟩
  |false=>
   rw [hp] at tk
   rw [if_neg (by decide)]
   exact ⟨kvs.length - (i+1),by omega,rfl,hlt,s1.trans s3,by rw [tk,if_neg (by decide),List.append_nil]; exact zt al s3⟩
 ·have e:i=kvs.length:=by omega
  subst e
  rw [lk,List.take_length] at al
  exact .inl ⟨⟨s1 _ _ hf,Nat.le_refl _⟩,hd H' ys s1 al⟩
theorem lc_dictB {idx:List Nat} {te:TE} {σ:L2.St} {H:Hp} {Q:VK} {a:Addr} {o:Obj} {kvs:List (List Key × V)} {ps:List Pr} (f:Pr->Bool) (hk:kvs.map (·.1)=ps.map keyP) (hf:H a=some (.frz o (.dT kvs))) (hz:kvs.length<=sizeLine)
  (he:∀ q b (H1:Hp),q∈ps->Same H H1->H1 b=some (.tup ((keyP q).map kV))->∀ Q':VK,(∀ H2,Same H1 H2->Q' (.bl (f q)) H2)->te (stIn (some (.ref b)) idx σ) H1 Q')
  (hd:∀ H1,Same H H1->∀ q,H1 q=none->Q (.ref q) (upd H1 q (.lst ((ps.map f).map V.bl)))):Z3 (Itd a o kvs) idx te σ Q H:=by
 have lk:kvs.length=ps.length:=by
  have:=congrArg List.length hk
  rwa [List.length_map,List.length_map] at this
 refine ⟨fun i m ys H'=>m=kvs.length - i/\i<=kvs.length/\Same H H'/\ys=((ps.take i).map f).map V.bl,⟨kvs.length,by simp,Nat.zero_le _,Same.refl _,rfl⟩,?_⟩
 rintro i m ys H' ⟨rfl,hi,s1,rfl⟩
 refine ⟨by rw [List.length_map,List.length_map,List.length_take]; omega,?_⟩
 by_cases hlt:i < kvs.length
 ·refine .inr ⟨⟨s1 _ _ hf,hlt⟩,fun y H2 yl=>?_⟩
  obtain ⟨e,b,kv,hkv,ex,hb⟩:=yl
  subst e ex
  obtain ⟨q,hq,ek⟩:=Yi hk hkv
  rw [ek] at hb
  refine he q b _ (List.mem_of_getElem? hq) s1 hb _ fun H3 s3=>⟨kvs.length - (i+1),by omega,rfl,hlt,s1.trans s3,?_⟩
  rw [zZ hq,List.map_append,List.map_append]
  rfl
 ·have e:i=kvs.length:=by omega
  subst e
  refine .inl ⟨⟨s1 _ _ hf,Nat.le_refl _⟩,?_⟩
  rw [lk,List.take_length]
  exact hd H' s1
theorem jB {α:Type} {l:List α} {i:Nat} {a:α} (f:α->Bool) (h:l[i]?=some a) (h0:(l.take i).any f=false) (h1:f a=false):(l.take (i+1)).any f=false:=by
 rw [zZ h,List.any_append,h0]
 simp [h1]
theorem jb {α:Type} {l:List α} {i:Nat} {a:α} (f:α->Bool) (h:l[i]?=some a) (h1:f a=true):l.any f=true:=List.any_eq_true.mpr ⟨a,List.mem_of_getElem? h,h1⟩
theorem thawed {H H1 H2 H3:Hp} {j:Addr} {u v:HO} (hj:H j=some u) (s1:But j H H1) (s2:Same H1 H2) (s3:But j H2 H3) (e:H3 j=some u):Same H H3:=fun a o ha=>by
 by_cases z:a=j
 ·subst z
  rw [hj] at ha
  cases ha
  exact e
 ·exact s3 _ _ z (s2 _ _ (s1 _ _ z ha))
theorem JJ (l:List Int) (k:Int):inV (.int k) (l.map V.int)=decide (k∈l):=by
 induction l with
 |nil=>rfl
 |cons a l ih=>
  show (eqV (.int a) (.int k) || inV (.int k) (l.map V.int))=_
  have e:eqV (.int a) (.int k)=decide (k=a):=by
   show decide (a=k)=_
   exact decide_eq_decide.mpr eq_comm
  rw [ih,e,<- Bool.decide_or]
  exact decide_eq_decide.mpr List.mem_cons.symm
theorem Zu (l:List Int):(l.map V.int).all YT=true:=by
 rw [List.all_map]
 exact List.all_eq_true.mpr fun _ _=>rfl
section
variable {prog:Program} {w:World} {A:Around} {E:Value->Shared->Prop} {s:Shared} {I d S:Addr} {od:Obj} {es:Array DictEntry} {ep:Nat}
noncomputable abbrev KeyAt (es:Array DictEntry):Nat->Value->Prop:=fun i v=>∃ e,es[i]?=some e/\v=e.key
theorem walks_raw (hh:A.handled=none) (I d:Addr) (hne:d≠I) (hdd:od.data=.dict es ep) :
  Walks prog w A I [I,d] [I] es.size (KeyAt es) (fun i h=>h.IsKeyIter I d i es.size ep/\h.get? d=some od) where
 sub:=fun b hb=>by simp at hb; simp [hb]
 frame:=fun _ _ _ st hk=>⟨st.1.at fun o e=>hk I (by simp) o e,hk d (by simp) _ st.2⟩
 item:=fun i s Q E hi st hQ=>by
  refine next_raw st.1 st.2 hdd hi fun h' hit' hs'=>?_
  exact hQ _ h' s.toks ⟨es[i],Array.getElem?_eq_getElem hi,rfl⟩ ⟨hit',hs'.extBut d _ hne st.2⟩ fun b o hb e=>hs'.extBut b o (fun h=>hb (by simp [h])) e
 done:=fun s Q E st hQ=>end_raw hh st.1 st.2 hdd (Nat.le_refl _) fun h' he'=>hQ h' s.toks fun b o hb e=>he' b o (fun h=>hb (by simp [h])) e
 self:=fun _ _ _ _ st hQ=>wpAny_pyIter_keyiter st.1 hQ
theorem hint_raw {Q:Bool→Shared→Prop} (tI:s.TypeIs (.ref d) "dict") (h:Q false s):wpAny (model prog w) A (Builtin.List.listLengthHint (.ref d)) Q E s:=by
 unfold Builtin.List.listLengthHint
 refine wpAny_bind (wpAny_specialOf tI F.slot_dict_len.lookup ?_)
 generalize hid:("dict.__len__" : String)=id0
 wp_delta
 rw [show splitId id0=some ("dict","__len__") from by subst hid; decide+kernel]
 subst hid
 refine wpAny_bind (wpAny_isInstance (b:=true) tI (by rw [isSubtype_type]; kernel_rfl) ?_)
 refine wpAny_ite_split (fun hab=>absurd hab (by decide)) (fun _=>?_)
 refine wpAny_ite_split (fun _=>?_) (fun hab=>absurd (by decide+kernel) hab)
 refine wpAny_bind (wpAny_typeOf tI ?_)
 exact wpAny_pure h
theorem extend_dct {R:Result->Shared->Prop} {res:Value} {c0:Nat} (hh:A.handled=none) (hd:(d == sysModules)=false) (ho:s.heap.get? d=some od) (hc:od.ExactDict) (hdd:od.data=.dict es ep) (hz:es.size<=sizeLine) (nS:S≠d)
  (kS:s.heap.get? S=some {cls:=.type "list",data:=.seq #[] c0})
  (hR:∀ z acc c,(∀ b o,b≠S→s.heap.get? b=some o→z.heap.get? b=some o)→z.gens=s.gens→z.drawn=s.drawn→z.os=s.os→z.heap.get? S=some {cls:=.type "list",dict:=none,data:=.seq acc c,slots:=#[]}→ItemsOf (KeyAt es) acc es.size→R (.ok (.ret res)) z) :
  wpAny (model prog w) A.in1 (Builtin.List.listExtendWith (.ref S) (.ref d) res) (fun fin z=>match fin with|.done f=>R (.ok f) z|.again c=>c.quiet=true/\codeAny (model prog w) A c R z) (fun e z=>R (.error e) z) s:=by
 have lS:=Heap.lt_size kS
 have ld:=Heap.lt_size ho
 have Wk:=(walks_raw (prog:=prog) (w:=w) (A:=A.in1) hh s.heap.objs.size d (Nat.ne_of_lt ld) hdd).toS
 have tI:s.TypeIs (.ref d) "dict":=⟨od,ho,hc.1⟩
 have d1:Builtin.List.listSameRef (.ref S) (.ref d)=false:=by simp [Builtin.List.listSameRef,nS]
 unfold Builtin.List.listExtendWith
 refine wpAny_bind (wpAny_typeOf tI ?_)
 rw [if_neg (by rw [d1]; decide)]
 refine wpAny_bind (iter_raw hd ho hc hdd ?_)
 refine wpAny_bind (wpAny_holding ?_)
 refine hint_raw ⟨od,Heap.get?_push_of_some _ ho,hc.1⟩ ?_
 rw [if_pos (by decide+kernel)]
 have kS1:=Heap.get?_push_of_some {cls:=.type "dict_keyiterator",data:=.fields #[.ref d,.int 0 0,.int es.size 0,.int ep 0]} kS
 refine wpAny_bind (wpAny_rule ?_)
 refine wpAny_bind ?_
 show wpAny _ _ (updateSeq S (·.push .none) >>= fun _=>updateSeq S (·.pop)) _ _ _
 refine wpAny_bind (wpAny_updateSeq kS1 rfl ?_)
 have kS2:=Heap.get?_update_self (Obj.mapSeq (·.push Value.none)) kS1 rfl
 refine wpAny_updateSeq (hz:=by seq_fits) kS2 rfl ?_
 have kS3:=Heap.get?_update_self (Obj.mapSeq (·.pop)) kS2 rfl
 have oth:∀ b u,b≠S→(s.heap.push {cls:=.type "dict_keyiterator",data:=.fields #[.ref d,.int 0 0,.int es.size 0,.int ep 0]}).get? b=some u→(((s.heap.push {cls:=.type "dict_keyiterator",data:=.fields #[.ref d,.int 0 0,.int es.size 0,.int ep 0]}).update S (Obj.mapSeq (·.push Value.none))).update S (Obj.mapSeq (·.pop))).get? b=some u:=fun b u hb e=>(Heap.get?_update_other _ _ (Ne.symm hb)).trans ((Heap.get?_update_other _ _ (Ne.symm hb)).trans e)
 refine wpAny_pure ⟨plainId_quiet F.plain_extend_loop _,codeAny_extend_loopS Wk hz S (by simp [nS,Nat.ne_of_lt lS]) res es.size 0 _ #[] _ rfl (Nat.zero_le _) ⟨⟨_,oth _ _ (Ne.symm (Nat.ne_of_lt lS)) (Heap.get?_push_size _ rfl),rfl,rfl⟩,oth _ _ (Ne.symm nS) (Heap.get?_push_of_some _ ho)⟩ kS3 (ItemsOf.nil _) fun z acc c hm hS hacc=>hR z acc c ?_ hm.gens hm.drawn hm.os hS hacc⟩
 intro b o hb e
 refine hm.heap b o (fun hx=>?_) (oth b o hb (Heap.get?_push_of_some _ e))
 rcases List.mem_cons.mp hx with y|y
 ·exact hb y
 ·exact absurd (Heap.lt_size e) (by rw [List.mem_singleton.mp y]; exact Nat.lt_irrefl _)
theorem init_dct {R:Result→Shared→Prop} (hh:A.handled=none) (hd:(d == sysModules)=false) (ho:s.heap.get? d=some od) (hc:od.ExactDict) (hdd:od.data=.dict es ep) (hz:es.size≤sizeLine) (nS:S≠d) (kS:s.heap.get? S=some {cls:=.type "list",data:=.seq #[]})
  (hR:∀ z acc c,(∀ b o,b≠S→s.heap.get? b=some o→z.heap.get? b=some o)→z.gens=s.gens→z.drawn=s.drawn→z.os=s.os→z.heap.get? S=some {cls:=.type "list",dict:=none,data:=.seq acc c,slots:=#[]}→ItemsOf (KeyAt es) acc es.size→R (.ok (.ret .none)) z) :
  wpAny (model prog w) A.in1 (Builtin.«list.__init__» ⟨[.ref S,.ref d],[]⟩) (fun fin z=>match fin with|.done f=>R (.ok f) z|.again c=>c.quiet=true/\codeAny (model prog w) A c R z) (fun e z=>R (.error e) z) s:=by
 show wpAny _ _ (do let o <- Builtin.List.listItems (.ref S); Builtin.List.listUpdate (.ref S) (fun _=>#[]); letGo o.toList.reverse; Builtin.List.listExtendWith (.ref S) (.ref d) .none) _ _ s
 refine wpAny_bind ?_
 unfold Builtin.List.listItems
 refine wpAny_bind (wpAny_seqItems kS rfl (wpAny_pure ?_))
 show wpAny _ _ (updateSeq S (fun _=>#[]) >>= fun _=>letGo (#[]:Array Value).toList.reverse >>= fun _=>Builtin.List.listExtendWith (.ref S) (.ref d) .none) _ _ s
 refine wpAny_bind (wpAny_updateSeq kS rfl ?_)
 have k2:=Heap.get?_update_self (Obj.mapSeq (fun _=>(#[]:Array Value))) kS rfl
 have oth:∀ b u,b≠S->s.heap.get? b=some u->(s.heap.update S (Obj.mapSeq (fun _=>(#[]:Array Value)))).get? b=some u:=fun b u hb e=>(Heap.get?_update_other _ _ (Ne.symm hb)).trans e
 refine wpAny_bind (wpAny_letGo ?_)
 exact extend_dct hh hd (oth _ _ (Ne.symm nS) ho) hc hdd hz nS k2 fun z acc c hm g1 g2 g3 hS hacc=>hR z acc c (fun b u hb e=>hm b u hb (oth b u hb e)) g1 g2 g3 hS hacc
theorem list_dct {Q:Value->Shared->Prop} (hh:A.handled=none) (hd:(d == sysModules)=false) (ho:s.heap.get? d=some od) (hc:od.ExactDict) (hdd:od.data=.dict es ep) (hz:es.size<=sizeLine)
  (hQ:∀ z acc c,(∀ b o,s.heap.get? b=some o→z.heap.get? b=some o)→z.gens=s.gens→z.drawn=s.drawn→z.os=s.os→z.heap.get? s.heap.objs.size=some {cls:=.type "list",dict:=none,data:=.seq acc c,slots:=#[]}→
   ItemsOf (KeyAt es) acc es.size→Q (.ref s.heap.objs.size) z):wpAny (model prog w) A (call (.type "list") [.ref d]) Q E s:=by
 have ld:=Heap.lt_size ho
 refine callType_codes (Q₁:=fun ob z=>ob=.ref s.heap.objs.size∧z={s with heap:=s.heap.push {cls:=.type "list",data:=.seq #[]}}) F.called_list (F.typeCall_list_1 _) F.entry_list_init (code_list_new _ ⟨rfl,rfl⟩) fun ob z q=>?_
 obtain ⟨rfl,rfl⟩:=q
 have kS:(s.heap.push {cls:=.type "list",data:=.seq #[]}).get? s.heap.objs.size=some {cls:=.type "list",data:=.seq #[]}:=Heap.get?_push_size _ rfl
 refine ⟨⟨_,kS,rfl⟩,F.args_list_init_2 _ _,init_dct hh hd (Heap.get?_push_of_some _ ho) hc hdd hz (Ne.symm (Nat.ne_of_lt ld)) kS fun z acc c hm g1 g2 g3 hS hacc=>⟨rfl,hQ z acc c (fun b o e=>hm b o (Nat.ne_of_lt (Heap.lt_size e)) (Heap.get?_push_of_some _ e)) g1 g2 g3 hS hacc⟩⟩
end
section
variable {X:Cx}
theorem call_list_dct (hc:X.calm=true):jE X (.type "list") (fun xs H Q=>∃ (a:Addr) (kvs:List (List Key × V)) (ps:List Pr),xs=[.ref a]∧H a=some (.dT kvs)∧kvs.map (·.1)=ps.map keyP∧∀ (l:Addr) (ds:List V),H l=none→Al2 (PrH H) ds ps→Q (.ref l) (upd H l (.lst ds))):=by
 intro pins s σ H xs us Q I r h
 obtain ⟨a,kvs,ps,rfl,ha,hk,q⟩:=h
 obtain ⟨u,rfl,rx⟩:=Zz r
 cases rx
 obtain ⟨hz,hm,ys,rel,o,es,ep,ho,hcc,hd,he,hn⟩:=(show zo X.prog X.w H s.heap a (.dT kvs) from I.hok a _ ha)
 have len:es.size=kvs.length:=by rw [size_of_entries he,Paired.length rel]
 refine list_dct (I.ok.hd hc) hm ho hcc hd (by omega) fun z acc c keep g1 g2 g3 hS hacc=>?_
 obtain ⟨h0,h2⟩:=hacc
 have kat:∀ (i:Nat) (q:Pr),ps[i]?=some q->∃ b,acc[i]?=some (.ref b)/\H b=some (.tup ((keyP q).map kV)):=fun i q hq=>by
  have hi:i < kvs.length:=by
   have z1:=congrArg List.length hk
   rw [List.length_map,List.length_map] at z1
   have:=(List.getElem?_eq_some_iff.mp hq).1
   omega
  obtain ⟨kv,hkv⟩:∃ kv,kvs[i]?=some kv:=⟨_,List.getElem?_eq_getElem hi⟩
  obtain ⟨q',hq',ek⟩:=Yi hk hkv
  rw [hq] at hq'
  cases hq'
  obtain ⟨y,hy,hyb⟩:=kt_get rel hkv
  rw [ek] at hyb
  have hia:i < acc.size:=by omega
  obtain ⟨e,ee,ev⟩:=h2 i acc[i] (Array.getElem?_eq_getElem hia)
  have ee':es.toList[i]?=some e:=by rw [Array.getElem?_toList]; exact ee
  rw [he,List.getElem?_map,hy] at ee'
  simp only [Option.map_some,Option.some.injEq] at ee'
  refine ⟨y.2.1,?_,hyb⟩
  rw [Array.getElem?_eq_getElem hia,ev,<- ee']
  rfl
 have al:∀ (qs:List Pr) (k:Nat),(∀ i q,qs[i]?=some q->ps[k+i]?=some q)->∃ ds:List V,Al2 (PrH H) ds qs/\Vals ds ((acc.toList.drop k).take qs.length):=fun qs=>by
  induction qs with
  |nil=>exact fun k _=>⟨[],trivial,.nil⟩
  |cons q qs ih=>
   intro k hq
   obtain ⟨b,hb1,hb2⟩:=kat k q (hq 0 q rfl)
   obtain ⟨ds,d1,d2⟩:=ih (k+1) fun i q' hi=>by
    have z1:=hq (i+1) q' (by simpa using hi)
    rwa [show k+(i+1)=k+1+i by omega] at z1
   refine ⟨.ref b::ds,⟨⟨b,rfl,hb2⟩,d1⟩,?_⟩
   have hk1:acc.toList[k]?=some (.ref b):=by rw [Array.getElem?_toList]; exact hb1
   obtain ⟨hl,hv⟩:=List.getElem?_eq_some_iff.mp hk1
   rw [List.drop_eq_getElem_cons hl,hv,List.length_cons,List.take_succ_cons]
   exact .cons rfl d2
 obtain ⟨ds,d1,d2⟩:=al ps 0 fun i q hi=>by rw [Nat.zero_add]; exact hi
 have lp:ps.length=kvs.length:=by
  have z1:=congrArg List.length hk
  rw [List.length_map,List.length_map] at z1
  exact z1.symm
 rw [List.drop_zero,List.take_of_length_le (by rw [Array.length_toList]; omega)] at d2
 have ld:ds.length<=sizeLine:=by
  have:=Al2.len d1
  omega
 have ez:z={s with heap:=z.heap,toks:=z.toks}:=by
  obtain ⟨h',g',d',tk',os'⟩:=z
  cases g1
  cases g2
  cases g3
  rfl
 rw [ez]
 exact ⟨.ref s.heap.objs.size,_,I.laid (t':=z.toks) (o:=.lst ds) keep (Nat.le_refl _) ⟨ld,acc.toList,c,d2,by rw [hS,Array.toArray_toList]⟩,rfl,q _ ds (I.hok.fresh (Nat.le_refl _)) d1⟩
end
noncomputable def Rt (D B:Nat) (r:Rat):Prop:=∃ n:Int,r=(n:Rat) / (D:Rat)/\n.natAbs < 2 ^ B
section
variable {D B:Nat} {x y:Rat}
theorem Rt.mono {B':Nat} (h:Rt D B x) (l:B<=B'):Rt D B' x:=by
 obtain ⟨n,e,b⟩:=h
 have p:2 ^ B<=2 ^ B':=Nat.pow_le_pow_right (by decide) l
 exact ⟨n,e,by omega⟩
theorem Rt.fb (h:Rt D B x) (d1:1<=D) (dB:D < 2 ^ B):FB B x:=by
 obtain ⟨n,e,b⟩:=h
 rw [e]
 exact com_fb d1 dB b
theorem Rt.add (h:Rt D B x) (g:Rt D B y):Rt D (B+1) (x+y):=by
 obtain ⟨n,e,b⟩:=h
 obtain ⟨m,f,c⟩:=g
 have p:2 ^ (B+1)=2 ^ B * 2:=Nat.pow_succ ..
 refine ⟨n+m,?_,by omega⟩
 rw [e,f,Rat.intCast_add,Rat.div_def,Rat.div_def,Rat.div_def]
 grind
theorem Rt.neg (h:Rt D B x):Rt D B (-x):=by
 obtain ⟨n,e,b⟩:=h
 refine ⟨-n,?_,by omega⟩
 rw [e,Rat.intCast_neg,Rat.div_def,Rat.div_def]
 grind
theorem Rt.sub (h:Rt D B x) (g:Rt D B y):Rt D (B+1) (x - y):=by
 have z:=h.add g.neg
 rwa [show x+-y=x - y by grind] at z
theorem Rt.int {i:Int} (d1:1<=D) (dB:D < 2 ^ B) (hi:i.natAbs<=1):Rt D B (i:Rat):=by
 refine ⟨i * (D:Int),?_,?_⟩
 ·have D0:=Z6 d1
  have c:((((D:Nat):Int)):Rat)=(D:Rat):=rfl
  rw [Rat.intCast_mul,c,Rat.div_def]
  have i1:=Rat.mul_inv_cancel _ D0
  grind
 ·rw [Int.natAbs_mul,Int.natAbs_natCast]
  have:=Nat.mul_le_mul_right D hi
  omega
theorem Rt.up (h:Rt D B x) (d1:1<=D) {c:Nat} (c1:1<=c) (c2:c<=2000):Rt (D * c) (B+11) x:=by
 obtain ⟨n,e,b⟩:=h
 have p:2 ^ (B+11)=2 ^ B * 2048:=Nat.pow_add ..
 refine ⟨n * (c:Int),?_,?_⟩
 ·have D0:=Z6 d1
  have s0:=Z6 c1
  have e1:((D * c:Nat):Rat)=(D:Rat) * (c:Rat):=by rw [Rat.natCast_mul]
  have e2:(((c:Nat):Int):Rat)=(c:Rat):=rfl
  rw [e,e1,Rat.intCast_mul,e2,Rat.div_def,Rat.div_def,inv_two D0 s0]
  have i1:=Rat.mul_inv_cancel _ s0
  grind
 ·rw [Int.natAbs_mul,Int.natAbs_natCast,p]
  exact Nat.lt_of_lt_of_le (Nat.mul_lt_mul_of_pos_right b (by omega)) (Nat.mul_le_mul_left _ (by omega))
theorem Rt.mix (h:Rt D B x) (g:Rt D B y) (d1:1<=D) {m u:Nat} (m1:1<=m) (m2:m<=1000) (u1:1<=u) (u2:u<=1000):Rt (D * (m+u)) (B+12) (mixQ x y (m:Int) (u:Int)):=by
 obtain ⟨n,e1,b1⟩:=h
 obtain ⟨n',e2,b2⟩:=g
 have p:2 ^ (B+12)=2 ^ B * 4096:=Nat.pow_add ..
 refine ⟨((m:Int) - u) * n+2 * u * n',?_,?_⟩
 ·rw [YL,e1,e2]
  have ab:((m+u:Nat):Rat)≠0:=Z6 (by omega)
  have D0:=Z6 d1
  have c1:((D * (m+u):Nat):Rat)=(D:Rat) * ((m:Rat)+(u:Rat)):=by push_cast; rfl
  have c2:((m+u:Nat):Rat)=(m:Rat)+(u:Rat):=by push_cast; rfl
  have c3:(((m:Int)):Rat)=(m:Rat):=rfl
  have c4:(((u:Int)):Rat)=(u:Rat):=rfl
  rw [c1,Rat.intCast_add,Rat.intCast_mul,Rat.intCast_mul,Rat.intCast_sub,Rat.intCast_mul,c3,c4]
  rw [c2] at ab
  have two:((2:Int):Rat)=2:=rfl
  rw [two]
  rw [Rat.div_def,Rat.div_def,Rat.div_def,Rat.div_def,Rat.div_def,inv_two D0 ab]
  have i1:=Rat.mul_inv_cancel _ ab
  have i2:=Rat.mul_inv_cancel _ D0
  grind
 ·have z1:(((m:Int) - u) * n).natAbs<=1000 * n.natAbs:=by
   rw [Int.natAbs_mul]
   exact Nat.mul_le_mul_right _ (by omega)
  have z2:(2 * (u:Int) * n').natAbs<=2000 * n'.natAbs:=by
   rw [Int.natAbs_mul]
   exact Nat.mul_le_mul_right _ (by omega)
  have z3:=Int.natAbs_add_le (((m:Int) - u) * n) (2 * u * n')
  omega
end
noncomputable def RtB (D B:Nat) (b:Bq):Prop:=Rt D B b.x/\Rt D B b.y/\Rt D B b.w/\Rt D B b.h/\Rt D B b.u/\Rt D B b.v
noncomputable def CmP (B:Nat) (R:Rat × Rat) (gs:List Bq):Prop:=∃ D:Nat,1<=D/\D < 2 ^ B/\Rt D B R.1/\Rt D B R.2/\∀ b∈gs,RtB D B b
noncomputable def WtB (gs:List Bq):Prop:=∀ b∈gs,∃ m:Int,b.m=some m/\1<=m/\m<=1000
section
variable {D B:Nat} {R:Rat × Rat} {gs:List Bq} {b:Bq} {d:Nat}
theorem RtB.pl (h:RtB D B b):Rt D B (b.pl d):=by
 unfold Bq.pl
 split
 ·exact h.1
 ·exact h.2.1
theorem RtB.sz (h:RtB D B b):Rt D B (b.sz d):=by
 unfold Bq.sz
 split
 ·exact h.2.2.1
 ·exact h.2.2.2.1
theorem RtB.sp (h:RtB D B b):Rt D B (b.sp d):=by
 unfold Bq.sp
 split
 ·exact h.2.2.2.2.1
 ·exact h.2.2.2.2.2
theorem RtB.far (h:RtB D B b):Rt D (B+1) (b.far d):=h.pl.add h.sz
theorem JN (d1:1<=D) (dB:D < 2 ^ B) (r1:Rt D B R.1) (r2:Rt D B R.2) (al:∀ b∈gs,RtB D B b) (d:Nat) (i:Int):RtB D B (boxB R gs d i):=by
 have z0:Rt D B (0:Rat):=Rt.int (i:=0) d1 dB (by decide)
 have z1:Rt D B (1:Rat):=Rt.int (i:=1) d1 dB (by decide)
 have z2:Rt D B (-1:Rat):=Rt.int (i:=-1) d1 dB (by decide)
 unfold boxB
 split
 ·unfold bxAt
  rw [List.getD_eq_getElem?_getD]
  cases q:gs[i.toNat]? with
  |none=>exact ⟨z0,z0,z1,z1,z0,z0⟩
  |some b=>exact al b (List.mem_of_getElem? q)
 ·unfold jQ
  split<;>split
  ·exact ⟨z2,z0,z1,r2,z0,z0⟩
  ·exact ⟨r1,z0,z1,r2,z0,z0⟩
  ·exact ⟨z0,z2,r1,z1,z0,z0⟩
  ·exact ⟨z0,r2,r1,z1,z0,z0⟩
theorem CmP.far (h:CmP B R gs) (d:Nat) (i:Int):FB (B+1) ((boxB R gs d i).far d):=by
 obtain ⟨D,d1,dB,r1,r2,al⟩:=h
 have p:2 ^ (B+1)=2 ^ B * 2:=Nat.pow_succ ..
 exact ((JN d1 dB r1 r2 al d i).far).fb d1 (by omega)
theorem CmP.jnt (h:CmP B R gs) {q:Pr} {t:Rat} (e:jntP R gs q=some t):FB (B+2) t:=by
 obtain ⟨D,d1,dB,r1,r2,al⟩:=h
 unfold jntP at e
 split at e
 ·cases e
 ·rename_i c
  have ha:=JN d1 dB r1 r2 al q.1 q.2.1
  have hb:=JN d1 dB r1 r2 al q.1 q.2.2
  generalize boxB R gs q.1 q.2.1=a at *
  generalize boxB R gs q.1 q.2.2=b at *
  have p1:2 ^ (B+1)=2 ^ B * 2:=Nat.pow_succ ..
  have p2:2 ^ (B+2)=2 ^ (B+1) * 2:=Nat.pow_succ ..
  obtain ⟨n,en,bn⟩:=(hb.pl (d:=q.1)).mono (Nat.le_succ B) |>.sub (ha.far (d:=q.1))
  obtain ⟨k,ek,bk⟩:=(ha.sp (d:=q.1)).sub (hb.sp (d:=q.1))
  injection e with e
  have k0:k≠0:=fun z=>by
   rw [z] at ek
   have:a.sp q.1 - b.sp q.1=0:=by
    rw [ek]
    show ((0:Int):Rat) / _=0
    rw [Rat.div_def]
    grind
   exact c (by grind)
  rw [en,ek] at e
  have D0:=Z6 d1
  have kr:(k:Rat)≠0:=q_intne k0
  have v:t=Rat.divInt n k:=by
   rw [<- e,q_dv,Rat.div_def,Rat.div_def,Rat.div_def,Rat.div_def]
   have i1:=Rat.mul_inv_cancel (D:Rat) D0
   have i2:=Rat.mul_inv_cancel (k:Rat) kr
   have f:(k:Rat) * (D:Rat)⁻¹≠0:=fun z=>kr (by grind)
   have i3:=Rat.mul_inv_cancel _ f
   grind
  rw [v]
  exact FB.fit k0 (show n.natAbs < 2 ^ (B+2) by omega) (show k.natAbs < 2 ^ (B+2) by omega)
theorem CmP.mono {B':Nat} (h:CmP B R gs) (l:B<=B'):CmP B' R gs:=by
 obtain ⟨D,d1,dB,r1,r2,al⟩:=h
 have p:2 ^ B<=2 ^ B':=Nat.pow_le_pow_right (by decide) l
 exact ⟨D,d1,by omega,r1.mono l,r2.mono l,fun b hb=>by
  obtain ⟨h1,h2,h3,h4,h5,h6⟩:=al b hb
  exact ⟨h1.mono l,h2.mono l,h3.mono l,h4.mono l,h5.mono l,h6.mono l⟩⟩
end
section
variable {b:Bq} {d d':Nat} {p s:Rat}
theorem YW (h:d<=1) (h':d'<=1):(b.with d p s).pl d'=if d'=d then p else b.pl d':=by
 rcases d01 h with rfl|rfl<;>rcases d01 h' with rfl|rfl<;>rfl
theorem ZH (h:d<=1) (h':d'<=1):(b.with d p s).sp d'=if d'=d then s else b.sp d':=by
 rcases d01 h with rfl|rfl<;>rcases d01 h' with rfl|rfl<;>rfl
theorem with_sz:(b.with d p s).sz d'=b.sz d':=by
 unfold Bq.with Bq.sz
 split<;>split<;>rfl
theorem with_m:(b.with d p s).m=b.m:=by
 unfold Bq.with
 split<;>rfl
end
section
variable {R:Rat × Rat} {gs:List Bq} {q r:Pr}
theorem ZT:(prtA R gs q).length=gs.length:=by
 unfold prtA
 split
 ·rw [List.length_set]
 ·rfl
theorem yr:(prtP R gs q).length=gs.length:=by
 unfold prtP
 split
 ·rw [List.length_set,ZT]
 ·exact ZT
noncomputable def oneP (R:Rat × Rat) (gs:List Bq) (q:Pr):Bq:=Jq (boxB R gs q.1 q.2.1) q.1 (ptd (farG (boxB R gs q.1 q.2.1) q.1) (yE (boxB R gs q.1 q.2.2) q.1))
noncomputable def othP (R:Rat × Rat) (gs:List Bq) (q:Pr):Bq:=Jd (boxB R gs q.1 q.2.2) q.1 (ptd (yE (boxB R gs q.1 q.2.2) q.1) (farG (boxB R gs q.1 q.2.1) q.1))
theorem set_at (l:List Bq) (k i:Nat) (b:Bq) (hk:k < l.length):bxAt (l.set k b) i=if i=k then b else bxAt l i:=by
 unfold bxAt
 rw [List.getD_eq_getElem?_getD,List.getD_eq_getElem?_getD,List.getElem?_set]
 by_cases e:k=i
 ·subst e
  rw [if_pos rfl,if_pos hk,if_pos rfl]
  rfl
 ·rw [if_neg e,if_neg (fun z=>e z.symm)]
theorem JK (h:InP gs.length q) (d:Nat) (i:Int):boxB R (prtP R gs q) d i=if 0<=i/\i=q.2.1 then oneP R gs q else if 0<=i/\i=q.2.2 then othP R gs q else boxB R gs d i:=by
 obtain ⟨_,h1,h2,ne,_⟩:=h
 have l1:0<=q.2.1->q.2.1.toNat < gs.length:=fun z=>by
  rcases h1 with y|⟨i,hi,y⟩<;>omega
 have l2:0<=q.2.2->q.2.2.toNat < gs.length:=fun z=>by
  rcases h2 with y|⟨i,hi,y⟩<;>omega
 by_cases i0:0<=i
 ·have bx:∀ l:List Bq,boxB R l d i=bxAt l i.toNat:=fun l=>by unfold boxB; rw [if_pos i0]
  rw [bx,bx]
  have a1:∀ k:Nat,bxAt (prtA R gs q) k=if 0<=q.2.1/\k=q.2.1.toNat then oneP R gs q else bxAt gs k:=fun k=>by
   unfold prtA
   by_cases c:0<=q.2.1
   ·rw [if_pos c,set_at _ _ _ _ (l1 c)]
    by_cases e:k=q.2.1.toNat
    ·rw [if_pos e,if_pos ⟨c,e⟩]
     rfl
    ·rw [if_neg e,if_neg (fun z=>e z.2)]
   ·rw [if_neg c,if_neg (fun z=>c z.1)]
  have a2:bxAt (prtP R gs q) i.toNat=if 0<=q.2.2/\i.toNat=q.2.2.toNat then othP R gs q else bxAt (prtA R gs q) i.toNat:=by
   unfold prtP
   by_cases c:0<=q.2.2
   ·rw [if_pos c,set_at _ _ _ _ (by rw [ZT]; exact l2 c)]
    by_cases e:i.toNat=q.2.2.toNat
    ·rw [if_pos e,if_pos ⟨c,e⟩]
     rfl
    ·rw [if_neg e,if_neg (fun z=>e z.2)]
   ·rw [if_neg c,if_neg (fun z=>c z.1)]
  rw [a2,a1]
  by_cases e1:i=q.2.1
  ·rw [if_neg (show ¬ (0<=q.2.2/\i.toNat=q.2.2.toNat) by omega),if_pos (show 0<=q.2.1/\i.toNat=q.2.1.toNat by omega),if_pos ⟨i0,e1⟩]
  ·by_cases e2:i=q.2.2
   ·rw [if_pos (show 0<=q.2.2/\i.toNat=q.2.2.toNat by omega),if_neg (fun z=>e1 z.2),if_pos ⟨i0,e2⟩]
   ·rw [if_neg (show ¬ (0<=q.2.2/\i.toNat=q.2.2.toNat) by omega),if_neg (show ¬ (0<=q.2.1/\i.toNat=q.2.1.toNat) by omega),if_neg (fun z=>e1 z.2),if_neg (fun z=>e2 z.2)]
 ·rw [if_neg (fun z=>i0 z.1),if_neg (fun z=>i0 z.1)]
  unfold boxB
  rw [if_neg i0,if_neg i0]
theorem J0 (h:InP gs.length q) {d:Nat} (hd:d<=1) (ne:d≠q.1) (i:Int):(boxB R (prtP R gs q) d i).pl d=(boxB R gs d i).pl d/\(boxB R (prtP R gs q) d i).sz d=(boxB R gs d i).sz d/\(boxB R (prtP R gs q) d i).sp d=(boxB R gs d i).sp d:=by
 have bd:∀ i:Int,0<=i->boxB R gs q.1 i=boxB R gs d i:=fun i z=>by
  unfold boxB
  rw [if_pos z,if_pos z]
 rw [JK h]
 split
 ·rename_i c
  unfold oneP Jq
  rw [YW h.1 hd,with_sz,ZH h.1 hd,if_neg ne,if_neg ne,<- c.2,bd i c.1]
  exact ⟨rfl,rfl,rfl⟩
 ·split
  ·rename_i c
   unfold othP Jd
   rw [YW h.1 hd,with_sz,ZH h.1 hd,if_neg ne,if_neg ne,<- c.2,bd i c.1]
   exact ⟨rfl,rfl,rfl⟩
  ·exact ⟨rfl,rfl,rfl⟩
theorem Y3 {R:Rat × Rat} {gs gs':List Bq} {r:Pr} (a:(boxB R gs' r.1 r.2.1).pl r.1=(boxB R gs r.1 r.2.1).pl r.1/\(boxB R gs' r.1 r.2.1).sz r.1=(boxB R gs r.1 r.2.1).sz r.1/\(boxB R gs' r.1 r.2.1).sp r.1=(boxB R gs r.1 r.2.1).sp r.1)
  (b:(boxB R gs' r.1 r.2.2).pl r.1=(boxB R gs r.1 r.2.2).pl r.1/\(boxB R gs' r.1 r.2.2).sz r.1=(boxB R gs r.1 r.2.2).sz r.1/\(boxB R gs' r.1 r.2.2).sp r.1=(boxB R gs r.1 r.2.2).sp r.1):jntP R gs' r=jntP R gs r:=by
 unfold jntP Bq.far
 rw [a.1,a.2.1,a.2.2,b.1,b.2.2]
theorem jnt_else (h:InP gs.length q) (hr:r.1<=1) (c:r.1≠q.1∨(¬ (0<=r.2.1/\(r.2.1=q.2.1∨r.2.1=q.2.2))/\¬ (0<=r.2.2/\(r.2.2=q.2.1∨r.2.2=q.2.2)))):jntP R (prtP R gs q) r=jntP R gs r:=by
 rcases c with c|⟨c1,c2⟩
 ·exact Y3 (J0 h hr c _) (J0 h hr c _)
 ·have e1:boxB R (prtP R gs q) r.1 r.2.1=boxB R gs r.1 r.2.1:=by
   rw [JK h,if_neg (fun z=>c1 ⟨z.1,.inl z.2⟩),if_neg (fun z=>c1 ⟨z.1,.inr z.2⟩)]
  have e2:boxB R (prtP R gs q) r.1 r.2.2=boxB R gs r.1 r.2.2:=by
   rw [JK h,if_neg (fun z=>c2 ⟨z.1,.inl z.2⟩),if_neg (fun z=>c2 ⟨z.1,.inr z.2⟩)]
  exact Y3 ⟨by rw [e1],by rw [e1],by rw [e1]⟩ ⟨by rw [e2],by rw [e2],by rw [e2]⟩
theorem mem_prt {b:Bq} (h:b∈prtP R gs q):b∈gs∨b=oneP R gs q/\0<=q.2.1∨b=othP R gs q/\0<=q.2.2:=by
 have a1:b∈prtA R gs q->b∈gs∨b=oneP R gs q/\0<=q.2.1∨b=othP R gs q/\0<=q.2.2:=fun h=>by
  unfold prtA at h
  split at h
  ·rcases List.mem_or_eq_of_mem_set h with z|z
   ·exact .inl z
   ·exact .inr (.inl ⟨z,by assumption⟩)
  ·exact .inl h
 unfold prtP at h
 split at h
 ·rcases List.mem_or_eq_of_mem_set h with z|z
  ·exact a1 z
  ·exact .inr (.inr ⟨z,by assumption⟩)
 ·exact a1 h
theorem jp (hw:WtB gs) {d:Nat} {i:Int} (i0:0<=i) (hi:i.toNat < gs.length):∃ m:Int,(boxB R gs d i).m=some m/\1<=m/\m<=1000:=by
 unfold boxB bxAt
 rw [if_pos i0,List.getD_eq_getElem?_getD,List.getElem?_eq_getElem hi]
 exact hw _ (List.getElem_mem hi)
theorem Jk {d:Nat} {i:Int} (i0:¬ 0<=i):(boxB R gs d i).m=none:=by
 unfold boxB
 rw [if_neg i0]
 unfold jQ
 split<;>split<;>rfl
theorem InP.l1 (h:InP gs.length q) (z:0<=q.2.1):q.2.1.toNat < gs.length:=by
 rcases h.2.1 with y|⟨i,hi,y⟩<;>omega
theorem InP.l2 (h:InP gs.length q) (z:0<=q.2.2):q.2.2.toNat < gs.length:=by
 rcases h.2.2.1 with y|⟨i,hi,y⟩<;>omega
theorem prt_wt (hw:WtB gs) (h:InP gs.length q):WtB (prtP R gs q):=fun b hb=>by
 rcases mem_prt hb with z|⟨rfl,z⟩|⟨rfl,z⟩
 ·exact hw b z
 ·unfold oneP Jq
  rw [with_m]
  exact jp hw z (h.l1 z)
 ·unfold othP Jd
  rw [with_m]
  exact jp hw z (h.l2 z)
end
section
variable {D B:Nat} {R:Rat × Rat} {gs:List Bq} {q:Pr}
theorem JC {b:Bq} {d:Nat} {p s:Rat} (h:RtB D B b) (hp:Rt D B p) (hs:Rt D B s):RtB D B (b.with d p s):=by
 obtain ⟨h1,h2,h3,h4,h5,h6⟩:=h
 unfold Bq.with
 split
 ·exact ⟨hp,h2,h3,h4,hs,h6⟩
 ·exact ⟨h1,hp,h3,h4,h5,hs⟩
theorem RtB.mono {B':Nat} {b:Bq} (h:RtB D B b) (l:B<=B'):RtB D B' b:=⟨h.1.mono l,h.2.1.mono l,h.2.2.1.mono l,h.2.2.2.1.mono l,h.2.2.2.2.1.mono l,h.2.2.2.2.2.mono l⟩
theorem RtB.up {b:Bq} (h:RtB D B b) (d1:1<=D) {c:Nat} (c1:1<=c) (c2:c<=2000):RtB (D * c) (B+11) b:=⟨h.1.up d1 c1 c2,h.2.1.up d1 c1 c2,h.2.2.1.up d1 c1 c2,h.2.2.2.1.up d1 c1 c2,h.2.2.2.2.1.up d1 c1 c2,h.2.2.2.2.2.up d1 c1 c2⟩
theorem CmP.two (h:CmP B R gs) (hw:WtB gs) (hin:InP gs.length q):∃ D:Nat,1<=D/\D < 2 ^ (B+15)/\Rt D (B+15) R.1/\Rt D (B+15) R.2/\(∀ b∈gs,RtB D (B+15) b)/\(0<=q.2.1->Rt D (B+15) (ptd (farG (boxB R gs q.1 q.2.1) q.1) (yE (boxB R gs q.1 q.2.2) q.1)).1/\RtB D (B+15) (oneP R gs q))/\(0<=q.2.2->RtB D (B+15) (othP R gs q)):=by
 obtain ⟨D,d1,dB,r1,r2,al⟩:=h
 have ha:=JN d1 dB r1 r2 al q.1 q.2.1
 have hb:=JN d1 dB r1 r2 al q.1 q.2.2
 have p15:2 ^ (B+15)=2 ^ B * 32768:=Nat.pow_add ..
 have p11:2 ^ (B+11)=2 ^ B * 2048:=Nat.pow_add ..
 unfold oneP othP Jq Jd farG yE
 by_cases c1:0<=q.2.1
 ·obtain ⟨m,em,m1,m2⟩:=jp (R:=R) (d:=q.1) hw c1 (hin.l1 c1)
  by_cases c2:0<=q.2.2
  ·obtain ⟨u,eu,u1,u2⟩:=jp (R:=R) (d:=q.1) hw c2 (hin.l2 c2)
   generalize boxB R gs q.1 q.2.1=a at *
   generalize boxB R gs q.1 q.2.2=b at *
   obtain ⟨m',rfl⟩:∃ m':Nat,m=(m':Int):=⟨m.toNat,by omega⟩
   obtain ⟨u',rfl⟩:∃ u':Nat,u=(u':Int):=⟨u.toNat,by omega⟩
   have one:Rt (D * (m'+u')) (B+13) (mixQ (a.far q.1) (b.pl q.1) (m':Int) (u':Int)):=(ha.far.mix (hb.pl.mono (Nat.le_succ B)) d1 (by omega) (by omega) (by omega) (by omega))
   have oneS:Rt (D * (m'+u')) (B+12) (mixQ (a.sp q.1) (b.sp q.1) (m':Int) (u':Int)):=ha.sp.mix hb.sp d1 (by omega) (by omega) (by omega) (by omega)
   have oth:Rt (D * (u'+m')) (B+13) (mixQ (b.pl q.1) (a.far q.1) (u':Int) (m':Int)):=((hb.pl.mono (Nat.le_succ B)).mix ha.far d1 (by omega) (by omega) (by omega) (by omega))
   have othS:Rt (D * (u'+m')) (B+12) (mixQ (b.sp q.1) (a.sp q.1) (u':Int) (m':Int)):=hb.sp.mix ha.sp d1 (by omega) (by omega) (by omega) (by omega)
   rw [Nat.add_comm u' m'] at oth othS
   have upx:∀ {x:Rat},Rt D B x->Rt (D * (m'+u')) (B+15) x:=fun z=>(z.up d1 (by omega) (by omega)).mono (by omega)
   have upb:∀ {b:Bq},RtB D B b->RtB (D * (m'+u')) (B+15) b:=fun z=>(z.up d1 (by omega) (by omega)).mono (by omega)
   refine ⟨D * (m'+u'),Nat.mul_pos d1 (by omega),?_,upx r1,upx r2,fun b hb=>upb (al b hb),fun _=>?_,fun _=>?_⟩
   ·rw [p15]
    exact Nat.lt_of_lt_of_le (Nat.mul_lt_mul_of_pos_right dB (by omega)) (Nat.mul_le_mul_left _ (by omega))
   ·have e1:ptd (a.far q.1,a.sp q.1,a.m) (b.pl q.1,b.sp q.1,b.m)=(mixQ (a.far q.1) (b.pl q.1) (m':Int) (u':Int),mixQ (a.sp q.1) (b.sp q.1) (m':Int) (u':Int)):=by
     unfold ptd
     dsimp only
     rw [em,eu]
     rfl
    rw [e1]
    refine ⟨one.mono (by omega),JC (upb ha) ?_ (oneS.mono (by omega))⟩
    exact ((one.sub ((ha.sz.up d1 (by omega) (by omega)).mono (by omega))).mono (by omega))
   ·have e1:ptd (b.pl q.1,b.sp q.1,b.m) (a.far q.1,a.sp q.1,a.m)=(mixQ (b.pl q.1) (a.far q.1) (u':Int) (m':Int),mixQ (b.sp q.1) (a.sp q.1) (u':Int) (m':Int)):=by
     unfold ptd
     dsimp only
     rw [em,eu]
     rfl
    rw [e1]
    exact JC (upb hb) (oth.mono (by omega)) (othS.mono (by omega))
  ·have eu:=Jk (R:=R) (gs:=gs) (d:=q.1) c2
   generalize boxB R gs q.1 q.2.1=a at *
   generalize boxB R gs q.1 q.2.2=b at *
   refine ⟨D,d1,by omega,r1.mono (by omega),r2.mono (by omega),fun b hb=>(al b hb).mono (by omega),fun _=>?_,fun z=>absurd z c2⟩
   have e1:ptd (a.far q.1,a.sp q.1,a.m) (b.pl q.1,b.sp q.1,b.m)=(b.pl q.1+b.pl q.1 - a.far q.1,-a.sp q.1):=by
    unfold ptd
    dsimp only
    rw [eu]
   rw [e1]
   have z1:=(hb.pl (d:=q.1)).add (hb.pl (d:=q.1))
   have z2:=z1.sub (ha.far (d:=q.1))
   refine ⟨z2.mono (by omega),JC (ha.mono (by omega)) ?_ (ha.sp.neg.mono (by omega))⟩
   exact (z2.sub (ha.sz.mono (by omega))).mono (by omega)
 ·have c2:0<=q.2.2:=hin.2.2.2.2.resolve_left c1
  obtain ⟨u,eu,u1,u2⟩:=jp (R:=R) (d:=q.1) hw c2 (hin.l2 c2)
  have em:=Jk (R:=R) (gs:=gs) (d:=q.1) c1
  generalize boxB R gs q.1 q.2.1=a at *
  generalize boxB R gs q.1 q.2.2=b at *
  refine ⟨D,d1,by omega,r1.mono (by omega),r2.mono (by omega),fun b hb=>(al b hb).mono (by omega),fun z=>absurd z c1,fun _=>?_⟩
  have e1:ptd (b.pl q.1,b.sp q.1,b.m) (a.far q.1,a.sp q.1,a.m)=(a.far q.1+a.far q.1 - b.pl q.1,-b.sp q.1):=by
   unfold ptd
   dsimp only
   rw [em]
  rw [e1]
  have z1:=(ha.far (d:=q.1)).add (ha.far (d:=q.1))
  have z2:=z1.sub ((hb.pl (d:=q.1)).mono (B':=B+1+1) (by omega))
  exact JC (hb.mono (by omega)) (z2.mono (by omega)) (hb.sp.neg.mono (by omega))
theorem CmP.part (h:CmP B R gs) (hw:WtB gs) (hin:InP gs.length q):CmP (B+15) R (prtP R gs q):=by
 obtain ⟨D,d1,dB,r1,r2,al,h1,h2⟩:=h.two hw hin
 refine ⟨D,d1,dB,r1,r2,fun b hb=>?_⟩
 rcases mem_prt hb with z|⟨rfl,z⟩|⟨rfl,z⟩
 ·exact al b z
 ·exact (h1 z).2
 ·exact h2 z
end
theorem putK_at {κ:Type} [DecidableEq κ] {k:κ} {v:V}:∀ {kvs:List (κ × V)} {i:Nat} {w:V},(kvs.map (·.1)).Nodup->kvs[i]?=some (k,w)->putK kvs k v=kvs.set i (k,v):=by
 intro kvs i w nd hi
 have hm:(kvs.any fun kv=>decide (kv.1=k))=true:=List.any_eq_true.mpr ⟨(k,w),List.mem_of_getElem? hi,decide_eq_true rfl⟩
 unfold putK
 rw [if_pos hm]
 refine List.ext_getElem? fun n=>?_
 rw [List.getElem?_map,List.getElem?_set]
 by_cases e:i=n
 ·subst e
  have hl:=(List.getElem?_eq_some_iff.mp hi).1
  rw [hi,if_pos rfl,if_pos hl]
  show some (if k=k then _ else _)=_
  rw [if_pos rfl]
 ·rw [if_neg e]
  cases q:kvs[n]? with
  |none=>rfl
  |some kv=>
   show some (if kv.1=k then (kv.1,v) else kv)=some kv
   rw [if_neg]
   intro z
   obtain ⟨hl,hv⟩:=List.getElem?_eq_some_iff.mp hi
   obtain ⟨hl',hv'⟩:=List.getElem?_eq_some_iff.mp q
   have:=(List.nodup_iff_pairwise_ne.mp nd)
   have z1:(kvs.map (·.1))[i]'(by simpa using hl)=k:=by simp [hv]
   have z2:(kvs.map (·.1))[n]'(by simpa using hl')=k:=by simp [hv',z]
   rcases Nat.lt_or_gt_of_ne e with l|l
   ·exact (List.pairwise_iff_getElem.mp this i n (by simpa using hl) (by simpa using hl') l) (z1.trans z2.symm)
   ·exact (List.pairwise_iff_getElem.mp this n i (by simpa using hl') (by simpa using hl) l) (z2.trans z1.symm)
theorem prs_nodup {n:Nat} (h:n<=6):(prsP n).Nodup:=by
 have:n=0∨n=1∨n=2∨n=3∨n=4∨n=5∨n=6:=by omega
 rcases this with rfl|rfl|rfl|rfl|rfl|rfl|rfl<;>decide+kernel
theorem JY {n:Nat} (h:n<=6):((prsP n).map keyP).Nodup:=by
 rw [List.nodup_iff_pairwise_ne,List.pairwise_map]
 exact (List.nodup_iff_pairwise_ne.mp (prs_nodup h)).imp fun z e=>z (keyP_inj e)
section
variable {B:Nat} {R:Rat × Rat} {gs:List Bq} {q:Pr}
theorem CmP.fbs (h:CmP B R gs) (hw:WtB gs) (hin:InP gs.length q) (hB:B+15<=1990) :
  (0<=q.2.1->FB 1990 (ptd (farG (boxB R gs q.1 q.2.1) q.1) (yE (boxB R gs q.1 q.2.2) q.1)).1/\FB 1990 (ptd (farG (boxB R gs q.1 q.2.1) q.1) (yE (boxB R gs q.1 q.2.2) q.1)).2/\FB 1990 ((ptd (farG (boxB R gs q.1 q.2.1) q.1) (yE (boxB R gs q.1 q.2.2) q.1)).1 - (boxB R gs q.1 q.2.1).sz q.1))∧
  (0<=q.2.2->FB 1990 (ptd (yE (boxB R gs q.1 q.2.2) q.1) (farG (boxB R gs q.1 q.2.1) q.1)).1/\FB 1990 (ptd (yE (boxB R gs q.1 q.2.2) q.1) (farG (boxB R gs q.1 q.2.1) q.1)).2):=by
 obtain ⟨D,d1,dB,_,_,_,h1,h2⟩:=h.two hw hin
 constructor
 ·intro z
  obtain ⟨a,b⟩:=h1 z
  have b1:=b.pl (d:=q.1)
  have b2:=b.sp (d:=q.1)
  unfold oneP Jq at b1 b2
  rw [YW hin.1 hin.1,if_pos rfl] at b1
  rw [ZH hin.1 hin.1,if_pos rfl] at b2
  exact ⟨(a.fb d1 dB).mono hB,(b2.fb d1 dB).mono hB,(b1.fb d1 dB).mono hB⟩
 ·intro z
  have b:=h2 z
  have b1:=b.pl (d:=q.1)
  have b2:=b.sp (d:=q.1)
  unfold othP Jd at b1 b2
  rw [YW hin.1 hin.1,if_pos rfl] at b1
  rw [ZH hin.1 hin.1,if_pos rfl] at b2
  exact ⟨(b1.fb d1 dB).mono hB,(b2.fb d1 dB).mono hB⟩
end
noncomputable def mixL {α β:Type} (f f':α->β) (l:List α) (i:Nat):List β:=(l.take i).map f'++(l.drop i).map f
theorem mix_zero {α β:Type} (f f':α->β) (l:List α):mixL f f' l 0=l.map f:=by
 unfold mixL
 simp
theorem mix_all {α β:Type} (f f':α->β) (l:List α):mixL f f' l l.length=l.map f':=by
 unfold mixL
 simp
theorem mix_set {α β:Type} {f f':α->β} {l:List α} {i:Nat} {q:α} (h:l[i]?=some q):(mixL f f' l i).set i (f' q)=mixL f f' l (i+1):=by
 obtain ⟨hl,hv⟩:=List.getElem?_eq_some_iff.mp h
 unfold mixL
 have lt:((l.take i).map f').length=i:=by simp; omega
 rw [List.set_append_right _ _ (by omega),lt,Nat.sub_self,List.drop_eq_getElem_cons hl,List.map_cons,List.set_cons_zero,zZ h,List.map_append,List.append_assoc]
 rfl
theorem mix_same {α β:Type} {f f':α->β} {l:List α} {i:Nat} {q:α} (h:l[i]?=some q) (e:f' q=f q):mixL f f' l i=mixL f f' l (i+1):=by
 obtain ⟨hl,hv⟩:=List.getElem?_eq_some_iff.mp h
 unfold mixL
 rw [List.drop_eq_getElem_cons hl,List.map_cons,zZ h,List.map_append,List.append_assoc,hv]
 show _++f q::_=_++(f' q::[]++_)
 rw [e]
 rfl
section
variable {K:PySem.W.Frag} {te:TE} {tt:TT} {σ:L2.St} {H:Hp} {Q:VK} {idx:List Nat}
theorem lc_tupG {a:Addr} {xs:List V} (p:V->Bool) (hl:SqT K H a xs) (hz:xs.length<=sizeLine) (ht:∀ x∈xs,∀ Q':Bool->Hp->Prop,Q' (p x) H->tt (stIn (some x) idx σ) H Q') (he:∀ x∈xs,∀ Q':VK,Q' x H->te (stIn (some x) idx σ) H Q')
  (hd:∀ q,H q=none->Q (.ref q) (upd H q (.lst (xs.filter p)))):ZF (Itt K a) idx tt te σ Q H:=by
 refine ⟨fun i m ys H'=>m=xs.length - i/\i<=xs.length/\H'=H/\ys=(xs.take i).filter p,⟨xs.length,by simp,Nat.zero_le _,rfl,by simp⟩,?_⟩
 rintro i m ys H' ⟨rfl,hi,rfl,rfl⟩
 refine ⟨Nat.le_trans (List.length_filter_le _ _) (by rw [List.length_take]; omega),?_⟩
 by_cases hlt:i < xs.length
 ·refine .inr ⟨⟨xs,xs[i],hl,by simp [hlt]⟩,fun y H' yl=>?_⟩
  obtain ⟨e,yl⟩:=yl
  subst e
  have hy:=yl xs hl
  have hm:y∈xs:=List.mem_of_getElem? hy
  have tk:=take_succ_filter p xs i y hy
  refine ht y hm _ ?_
  cases hp:p y with
  |true=>
   rw [hp] at tk
   rw [if_pos rfl]
   exact he y hm _ ⟨xs.length - (i+1),by omega,rfl,hlt,rfl,by rw [tk]; rfl⟩
  |false=>
   rw [hp] at tk
   rw [if_neg (by decide)]
   exact ⟨xs.length - (i+1),by omega,rfl,hlt,rfl,by rw [tk]; simp⟩
 ·have e:i=xs.length:=by omega
  subst e
  refine .inl ⟨⟨xs,hl,Nat.le_refl _⟩,?_⟩
  rw [List.take_length]
  exact hd
end
noncomputable def plF (wl g nw:Addr) (n:Int) (j:Addr) (co:V) (du:Addr):List (Str × V):=[("walls",.ref wl),("goings",.ref g),("now",.ref nw),("gone_through",.int n),("joints",.ref j),("coming",co),("due",.ref du)]
theorem plF_nm {wl g nw:Addr} {n:Int} {j:Addr} {co:V} {du:Addr}:NoM (plF wl g nw n j co du):=⟨rfl,rfl,rfl,rfl,rfl,rfl,rfl,rfl,rfl,rfl,rfl,rfl,rfl,rfl,rfl,rfl,rfl⟩
noncomputable def ZL (K:PySem.W.Frag) (H:Hp) (C p:Addr) (R:Rat × Rat) (gs:List Bq) (now:Rat) (n:Nat) (wl g j:Addr):Prop:=∃ (dx nw:Addr) (co:V) (du:Addr) (xs:List V) (kvs:List (List Key × V)) (ds:List V),
 PlG K H C p R gs dx (plF wl g nw (n:Int) j co du) wl g xs/\PlJ K H R gs (plF wl g nw (n:Int) j co du) j kvs/\H j=some (.dT kvs)/\wl≠j/\FQ K H nw now/\FB 2000 now/\OptB K H co (comP R gs now)/\H du=some (.lst ds)/\Al2 (PrH H) ds (dueP R gs now)/\du≠g
section
variable {K:PySem.W.Frag} {H H':Hp} {C p:Addr} {R:Rat × Rat} {gs:List Bq} {now:Rat} {n:Nat} {wl g j:Addr}
theorem ZL.same (h:ZL K H C p R gs now n wl g j) (s:Same H H'):ZL K H' C p R gs now n wl g j:=by
 obtain ⟨dx,nw,co,du,xs,kvs,ds,h1,h2,h3,h4,h5,h6,h7,h8,h9,h10⟩:=h
 exact ⟨dx,nw,co,du,xs,kvs,ds,h1.same s,h2.same s,s _ _ h3,h4,Kw.Same.tup s h5,h6,h7.same s,s _ _ h8,zt h9 s,h10⟩
theorem due_few (l6:gs.length<=6):(dueP R gs now).length<=200:=Nat.le_trans (List.length_filter_le _ _) (Zs l6)
theorem jj:∀ q∈dueP R gs now,InP gs.length q:=fun q hq=>yK.mp (List.mem_filter.mp hq).1
theorem Zq:∀ (l:List Pr) (gs:List Bq),(l.foldl (prtP R) gs).length=gs.length
 |[],_=>rfl
 |q::l,gs=>by rw [List.foldl_cons,Zq l,yr]
theorem YA:∀ (l:List Pr) {gs:List Bq} {B:Nat},CmP B R gs->WtB gs->(∀ q∈l,InP gs.length q)->CmP (B+15 * l.length) R (l.foldl (prtP R) gs)/\WtB (l.foldl (prtP R) gs)
 |[],_,_,h,w,_=>⟨h,w⟩
 |q::l,gs,B,h,w,hl=>by
  have hq:=hl q (List.mem_cons_self ..)
  have z:=YA l (h.part w hq) (prt_wt w hq) fun r hr=>by rw [yr]; exact hl r (List.mem_cons_of_mem _ hr)
  rw [List.foldl_cons,List.length_cons,show B+15 * (l.length+1)=B+15+15 * l.length by omega]
  exact z
theorem due_six (l6:gs.length<=6) (h:twoP (dueP R gs now)=false):(dueP R gs now).length<=6:=by
 have nd:(numP (dueP R gs now)).Nodup:=by
  unfold twoP at h
  have:=of_decide_eq_false h
  exact Decidable.not_not.mp this
 have lt:∀ i∈numP (dueP R gs now),0<=i/\i < 6:=fun i hi=>by
  unfold numP at hi
  obtain ⟨h1,h2⟩:=List.mem_filter.mp hi
  have i0:=of_decide_eq_true h2
  refine ⟨i0,?_⟩
  rcases List.mem_append.mp h1 with z|z
  ·obtain ⟨q,hq,rfl⟩:=List.mem_map.mp z
   have:=(jj q hq).l1 (gs:=gs) i0
   omega
  ·obtain ⟨q,hq,rfl⟩:=List.mem_map.mp z
   have:=(jj q hq).l2 (gs:=gs) i0
   omega
 have l1:(numP (dueP R gs now)).length<=6:=by
  have z:(numP (dueP R gs now)) ⊆ (List.range 6).map fun (i:Nat)=>(i:Int):=fun i hi=>by
   have:=lt i hi
   exact List.mem_map.mpr ⟨i.toNat,List.mem_range.mpr (by omega),by omega⟩
  have:=List.Nodup.length_le_of_subset nd z
  simpa using this
 have l2:∀ l:List Pr,(∀ q∈l,InP gs.length q)->l.length<=(numP l).length:=fun l=>by
  induction l with
  |nil=>exact fun _=>Nat.le_refl _
  |cons q l ih=>
   intro hl
   have z:=ih fun r hr=>hl r (List.mem_cons_of_mem _ hr)
   have hq:=(hl q (List.mem_cons_self ..)).2.2.2.2
   unfold numP at z ⊢
   simp only [List.map_cons,List.filter_append,List.length_append,List.filter_cons] at z ⊢
   rcases hq with hq|hq
   ·rw [if_pos (decide_eq_true hq)]
    split<;>simp only [List.length_cons]<;>omega
   ·rw [if_pos (decide_eq_true hq)]
    split<;>simp only [List.length_cons]<;>omega
 have:=l2 (dueP R gs now) jj
 omega
end
noncomputable def tPairs:List (TE × TE)->L2.St->Hp->(List (V × V)->Hp->Prop)->Prop
 |[],_,H,Q=>Q [] H
 | (tk,tv)::r,σ,H,Q=>tk σ H fun k H1=>tv σ H1 fun v H2=>tPairs r σ H2 fun l H3=>Q ((k,v)::l) H3
noncomputable def KeysT (H:Hp):List (V × V)->List (List Key × V)->Prop
 |[],[]=>True
 | (k,v)::r,e::es=>(∃ b,k=.ref b/\H b=some (.tup (e.1.map kV)))/\v=e.2/\KeysT H r es
 |_,_=>False
noncomputable def Yl (l:List (List Key × V)):List (List Key × V)->List (List Key × V):=fun es=>es.foldl (fun a e=>putK a e.1 e.2) l
noncomputable def tDictT (ts:List (TE × TE)):TE:=fun σ H Q=>∀ d,H d=none->tPairs ts σ (upd H d (.dT [])) fun l H1=>H1 d=some (.dT [])/\∃ es:List (List Key × V),KeysT H1 l es/\es.length<=100/\Q (.ref d) (upd H1 d (.dT (Yl [] es)))
inductive PPs (X:Cx):List (Option Expr)->List Expr->List (TE × TE)->Prop
 |nil:PPs X [] [] []
 |cons {k v:Expr} {ks:List (Option Expr)} {vs:List Expr} {tk tv:TE} {ts:List (TE × TE)}:PE X k tk->PE X v tv->PPs X ks vs ts->PPs X (some k::ks) (v::vs) ((tk,tv)::ts)
noncomputable def RelP:List (V × V)->List (Value × Value)->Prop
 |[],[]=>True
 | (k,v)::r,(k',v')::r'=>RelV k k'/\RelV v v'/\RelP r r'
 |_,_=>False
section
variable {X:Cx} {pos:Pos}
theorem pairs_walk {ks:List (Option Expr)} {vs:List Expr} {ts:List (TE × TE)} (h:PPs X ks vs ts):∀ (pins:List (Addr × Obj)) (s:Shared) (σ:L2.St) (H:Hp) (Q:List (V × V)->Hp->Prop) (I:Inv X pins σ H s),tPairs ts σ H Q->
  wpAny (model X.prog X.w) X.A (evalPairs (pairTrees ks vs X.env pos)) (fun us s'=>∃ l H',Inv X pins σ H' s'/\RelP l us/\Q l H') X.xe s:=by
 induction h with
 |nil=>exact fun pins s σ H Q I q=>wpAny_pure ⟨[],H,I,trivial,q⟩
 |@cons k v ks vs tk tv ts hk hv hr ih=>
  intro pins s σ H Q I q
  show wpAny _ _ (evalPairs ((eval k X.env,do let x <- eval v X.env; standAt pos; pure x)::pairTrees ks vs X.env pos)) _ _ s
  unfold evalPairs
  refine wpAny_bind (thn (hk pins s σ H _ I q) fun u s1 zz=>?_)
  obtain ⟨y,H1,I1,r1,q1⟩:=zz
  refine wpAny_bind (wpAny_holding ?_)
  refine wpAny_bind (thn (hv pins s1 σ H1 _ I1 q1) fun u2 s2 zz=>?_)
  obtain ⟨y2,H2,I2,r2,q2⟩:=zz
  refine wpAny_bind (wpAny_standAt (wpAny_pure ?_))
  refine wpAny_bind (wpAny_holding ?_)
  refine wpAny_mono (ih pins s2 σ H2 _ I2 q2) (fun us s3 ⟨l,H3,I3,r3,q3⟩=>?_) (fun _ _ e=>e)
  exact wpAny_pure ⟨(y,y2)::l,H3,I3,⟨r1,r2,r3⟩,q3⟩
theorem Jb {H H':Hp} (k:∀ c ys,H c=some (.tup ys)->H' c=some (.tup ys)):∀ (l:List (V × V)) (es:List (List Key × V)),KeysT H l es->KeysT H' l es
 |[],[],_=>trivial
 | (_,_)::r,_::es,⟨⟨b,e,hb⟩,ev,t⟩=>⟨⟨b,e,k b _ hb⟩,ev,Jb k r es t⟩
 |[],_::_,h=>h.elim
 |_::_,[],h=>h.elim
theorem pps_len {ks:List (Option Expr)} {vs:List Expr} {ts:List (TE × TE)} (h:PPs X ks vs ts):ks.length=vs.length:=by
 induction h with
 |nil=>rfl
 |cons _ _ _ ih=>exact congrArg (·+1) ih
theorem some_all {ks:List (Option Expr)} {vs:List Expr} {ts:List (TE × TE)} (h:PPs X ks vs ts):ks.all (·.isSome)=true:=by
 induction h with
 |nil=>rfl
 |cons _ _ _ ih=>exact ih
theorem Jy (hu:X.A.units+1 < cLine) {d:Addr} {pins:List (Addr × Obj)} {σ:L2.St} {Q:Hp->Prop}:∀ (l:List (V × V)) (us:List (Value × Value)) (es kvs:List (List Key × V)) (s:Shared) (H:Hp) (I:Inv X pins σ H s),RelP l us->KeysT H l es->H d=some (.dT kvs)->kvs.length+es.length<=1000->Q (upd H d (.dT (Yl kvs es)))->
  wpAny (model X.prog X.w) X.A (storeAll d us) (fun _ s'=>∃ H',Inv X pins σ H' s'/\Q H') X.xe s
 |[],[],[],kvs,s,H,I,_,_,hd,_,q=>by
  refine wpAny_pure ⟨_,I,?_⟩
  have e:upd H d (.dT (Yl kvs []))=H:=by
   funext b
   by_cases z:b=d
   ·subst z
    rw [zk,hd]
    rfl
   ·rw [zY z]
  rw [<- e]
  exact q
 | (k,v)::l,(k',v')::us,e::es,kvs,s,H,I,r,ky,hd,hz,q=>by
  obtain ⟨rk,rv,rr⟩:=r
  obtain ⟨⟨b,rfl,hb⟩,ev,kr⟩:=ky
  subst ev
  cases (show k'=Value.ref b from rk)
  show wpAny _ _ (forIn ((Value.ref b,v')::us) PUnit.unit fun (x:Value × Value) (_:PUnit)=>(do dictSet d x.1 x.2; pure (ForInStep.yield PUnit.unit):Sem (ForInStep PUnit))) _ _ s
  rw [List.forIn_cons]
  obtain ⟨z,hsm,xs,rel,dd⟩:=dt_of I.hok hd
  have hx:xs.length<=sizeLine:=by rw [<- Paired.length rel]; exact z
  have hz':kvs.length+(es.length+1)<=1000:=hz
  have hl:(putK kvs e.1 e.2).length<=sizeLine:=by have:=jY kvs e.1 e.2; rw [sizeLine_eq]; omega
  refine wpAny_bind (wpAny_bind (wpAny_dictSet_heap (hsz:=hx) (knd:=tupleKind (yA X.prog X.w)) (Nat.lt_of_succ_lt hu) (key_of I.hok hb) dd fun h' dd' hs=>wpAny_pure ?_))
  obtain ⟨o,eo,ep,hq,h2,h3,h4,_,h5⟩:=dd'
  have I2:Inv X pins σ (upd H d (.dT (putK kvs e.1 e.2))) {s with heap:=h',toks:=s.toks+(tupleKind (yA X.prog X.w)).draws e.1}:=by
   refine JF I (by rw [hd]; exact True.intro) hs ⟨o,hq⟩ ⟨hl,hsm,_,(rel.put e.1 hb rv).keeps fun c ys ec=>?_,o,eo,ep,hq,h2,h3,h4,h5⟩
   rw [zY (zq ec hd (fun z=>nomatch z))]
   exact ec
  have hlen:(putK kvs e.1 e.2).length<=kvs.length+1:=jY kvs e.1 e.2
  exact Jy hu l us es (putK kvs e.1 e.2) _ _ I2 rr (Jb (fun c ys ec=>by rw [zY (zq ec hd (fun z=>nomatch z))]; exact ec) l es kr) zk (by omega) (by rw [upd_upd]; exact q)
 |[],_::_,_,_,_,_,_,r,_,_,_,_=>r.elim
 |_::_,[],_,_,_,_,_,r,_,_,_,_=>r.elim
 |[],[],_::_,_,_,_,_,_,ky,_,_,_=>ky.elim
 |_::_,_::_,[],_,_,_,_,_,ky,_,_,_=>ky.elim
theorem pe_dictT (hu:X.A.units+1 < cLine) {ks:List (Option Expr)} {vs:List Expr} {ts:List (TE × TE)} (h:PPs X ks vs ts) (h0:ks≠[]) (hn:ks.length<=15):PE X (.Dict ks vs pos) (tDictT ts):=by
 intro pins s σ H Q I q
 refine wpAny_Dict_any (some_all h) (pps_len h) h0 hn ?_
 have I1:=I.laid (a:=s.heap.objs.size) (o:=.dT []) (t':=s.toks) (fun _ _ q=>Heap.get?_push_of_some _ q) (Nat.le_refl _) (dt_empty s.heap I.big)
 refine wpAny_mono (pairs_walk h pins _ σ _ _ I1 (q s.heap.objs.size (I.hok.fresh (Nat.le_refl _)))) (fun us s1 ⟨l,H1,I2,rp,hd,es,ky,hl,q1⟩=>?_) (fun _ _ e=>e)
 exact wpAny_mono (Jy hu l us es [] s1 H1 I2 rp ky hd (by simp only [List.length_nil]; omega) q1) (fun _ s2 ⟨H2,I3,q2⟩=>⟨.ref s.heap.objs.size,H2,I3,rfl,q2⟩) (fun _ _ e=>e)
end
section
variable {K:PySem.W.Frag} {H H':Hp} {p:Addr}
theorem z7 (h:SqT K H p [.int 0,.int 1]):FQ K H p 0:=h
theorem fq_one (h:SqT K H p [.int 1,.int 1]):FQ K H p 1:=h
theorem fq_mone (h:SqT K H p [.int (-1),.int 1]):FQ K H p (-1):=h
theorem zy:FB 1990 (0:Rat):=(FB.ofInt (n:=64) (i:=0) (Bd.small (by decide) (by decide)) (by decide)).mono (by decide)
theorem fb_one:FB 1990 (1:Rat):=(FB.ofInt (n:=64) (i:=1) (Bd.small (by decide) (by decide)) (by decide)).mono (by decide)
theorem fb_mone:FB 1990 (-1:Rat):=(FB.ofInt (n:=64) (i:=-1) (Bd.small (by decide) (by decide)) (by decide)).mono (by decide)
noncomputable def WlT (K:PySem.W.Frag) (H:Hp) (z:V) (b:Bq):Prop:=∃ p a0 a1 a2 a3 a4 a5,z=.ref p/\SqT K H p [.ref a0,.ref a1,.ref a2,.ref a3,.ref a4,.ref a5,.non]/\(FQ K H a0 b.x/\FQ K H a1 b.y/\FQ K H a2 b.w/\FQ K H a3 b.h/\FQ K H a4 b.u/\FQ K H a5 b.v)
theorem wls_new {R:Rat × Rat} {H14:Hp} {d:Addr} {w0 w1 w2 w3:V} (fx:FB 1990 R.1) (fy:FB 1990 R.2) (n:H d=none) (s:Same H H14) (hd:H14 d=some (.dT [])) (h0:WlT K H14 w0 (jQ R 0 (-1))) (h1:WlT K H14 w1 (jQ R 0 (-2))) (h2:WlT K H14 w2 (jQ R 1 (-1))) (h3:WlT K H14 w3 (jQ R 1 (-2))) :
  Same H (upd H14 d (.dT (Yl [] [(keyW 0 (-1),w0),(keyW 0 (-2),w1),(keyW 1 (-1),w2),(keyW 1 (-2),w3)])))/\Wls K (upd H14 d (.dT (Yl [] [(keyW 0 (-1),w0),(keyW 0 (-2),w1),(keyW 1 (-1),w2),(keyW 1 (-2),w3)]))) d R:=by
 have e:Yl [] [(keyW 0 (-1),w0),(keyW 0 (-2),w1),(keyW 1 (-1),w2),(keyW 1 (-2),w3)]=[(keyW 0 (-1),w0),(keyW 0 (-2),w1),(keyW 1 (-1),w2),(keyW 1 (-2),w3)]:=by with_unfolding_all rfl
 rw [e]
 have bs:Buts [d] H14 (upd H14 d (.dT [(keyW 0 (-1),w0),(keyW 0 (-2),w1),(keyW 1 (-1),w2),(keyW 1 (-2),w3)])):=fun a o na ha=>by
  have ne:a≠d:=fun z=>na (by rw [z]; exact List.mem_cons_self ..)
  rw [zY ne]
  exact ha
 have nt:NoT [d] H14:=NoT.dct hd NoT.nil
 have g:∀ {z:V} {b:Bq},WlT K H14 z b->b.m=none->(FB 1990 b.x/\FB 1990 b.y/\FB 1990 b.w/\FB 1990 b.h/\FB 1990 b.u/\FB 1990 b.v)->BqH K 1990 H14 z b:=fun ⟨p,a0,a1,a2,a3,a4,a5,ez,h,f⟩ em db=>⟨p,a0,a1,a2,a3,a4,a5,ez,by rw [em]; exact h,f,db,by rw [em]; exact fun m z=>nomatch z⟩
 refine ⟨fun a o ha=>?_,w0,w1,w2,w3,zk,(g h0 rfl ⟨fb_mone,zy,fb_one,fy,zy,zy⟩).buts bs nt,(g h1 rfl ⟨fx,zy,fb_one,fy,zy,zy⟩).buts bs nt,(g h2 rfl ⟨zy,fb_mone,fx,fb_one,zy,zy⟩).buts bs nt,(g h3 rfl ⟨zy,fy,fx,fb_one,zy,zy⟩).buts bs nt⟩
 rw [zY (fun z=>by rw [z,n] at ha; cases ha)]
 exact s _ _ ha
end
noncomputable def onesN (n:Nat):List Int:=(-1:Int)::(List.range n).map fun (i:Nat)=>(i:Int)
noncomputable def Jn (n:Nat):List Int:=(-2:Int)::(List.range n).map fun (i:Nat)=>(i:Int)
noncomputable def okP (one o:Int):Bool:=decide (one≠o) && (decide (0<=one) || decide (0<=o))
theorem prsD_eq {n d:Nat}:prsD n d=(onesN n).flatMap (prs1 n d):=rfl
theorem ones_at {n i:Nat} (h:i<=n):(onesN n)[i]?=some (-1+(i:Int)):=by
 unfold onesN
 cases i with
 |zero=>rfl
 |succ k=>
  rw [List.getElem?_cons_succ,List.getElem?_map,List.getElem?_range (by omega)]
  show some ((k:Nat):Int)=_
  congr 1
  omega
theorem oth_len {n:Nat}:(Jn n).length=n+1:=by simp [Jn]
theorem ones_len {n:Nat}:(onesN n).length=n+1:=by simp [onesN]
theorem oth_vs {n:Nat}:[V.int (-2)]++((List.range n).map fun (i:Nat)=>V.int (i:Int))=(Jn n).map V.int:=by
 simp [Jn]
theorem putK_snoc {kvs:List (List Key × V)} {ps:List Pr} {i:Nat} {q:Pr} {v:V} (nd:(ps.map keyP).Nodup) (hk:kvs.map (·.1)=(ps.take i).map keyP) (hq:ps[i]?=some q):putK kvs (keyP q) v=kvs++[(keyP q,v)]:=by
 unfold putK
 refine if_neg fun h=>?_
 obtain ⟨kv,hm,e⟩:=List.any_eq_true.mp h
 have e:=of_decide_eq_true e
 have hin:keyP q∈(ps.take i).map keyP:=by
  rw [<- hk,<- e]
  exact List.mem_map_of_mem hm
 have nd2:((ps.take (i+1)).map keyP).Nodup:=nd.sublist ((List.take_sublist _ _).map _)
 rw [zZ hq,List.map_append] at nd2
 exact (List.nodup_append.mp nd2).2.2 _ hin _ (List.mem_singleton.mpr rfl) rfl
noncomputable def InR (R:Rat × Rat) (b:Bq):Prop:=0 < b.w/\0 < b.h/\0<=b.x/\0<=b.y/\b.far 0<=R.1/\b.far 1<=R.2
structure GdP (R:Rat × Rat) (gs:List Bq):Prop where
 r1:0 < R.1
 r2:0 < R.2
 l1:1<=gs.length
 l6:gs.length<=6
 wt:WtB gs
 al:∀ b∈gs,InR R b
 ap:∀ i j,i < j->j < gs.length->(hicB (bxAt gs i) (bxAt gs j) 0 && hicB (bxAt gs i) (bxAt gs j) 1)=false
theorem yX {gs:List Bq} {i:Nat} {b:Bq} (h:gs[i]?=some b):bxAt gs i=b:=by
 unfold bxAt
 rw [List.getD_eq_getElem?_getD,h]
 rfl
theorem YQ {x y:Rat} (h:x<=y):¬ y < x:=Rat.not_lt.mpr h
section
variable {s:Rat} {b c:Bq} {d:Nat}
end
section
variable {s:Rat} {R:Rat × Rat} {gs bs:List Bq} {d:Nat}
theorem mul_le_q {x y:Rat} (hs:0 < s):s * x<=s * y↔x<=y:=by
 constructor
 ·intro h
  exact Rat.not_lt.mp fun z=>by
   have:=Rat.mul_lt_mul_of_pos_left z hs
   exact Rat.not_lt.mpr h this
 ·exact fun h=>Rat.mul_le_mul_of_nonneg_left h (Rat.le_of_lt hs)
theorem mul_lt_q {x y:Rat} (hs:0 < s):s * x < s * y↔x < y:=by
 rw [<- Rat.not_le,<- Rat.not_le,mul_le_q hs]
end
theorem J1 {s x:Rat} (hs:0 < s) (hx:0 < x):0 < s * x:=by
 have:=(mul_lt_q (x:=0) (y:=x) hs).mpr hx
 rwa [Rat.mul_zero] at this
theorem jw {s x:Rat} (hs:0 < s) (hx:0<=x):0<=s * x:=by
 have:=(mul_le_q (x:=0) (y:=x) hs).mpr hx
 rwa [Rat.mul_zero] at this
section
variable {K:PySem.W.Frag} {H H':Hp} {v:V} {r:List Int × Int} {z:Scn} {as:List Addr}
end
section
variable {a d b:Rat} {c:Int}
end
section
variable {u:Rat}
end
section
variable {K:PySem.W.Frag} {tt:TT} {te:TE} {idx:List Nat} {σ:L2.St} {Q:VK} {H:Hp}
end
noncomputable def wtD:Option Int->PyData
 |none=>.none
 |some m=>.int m
noncomputable def bqD (b:Bq):PyData:=.tuple [frD b.x,frD b.y,frD b.w,frD b.h,frD b.u,frD b.v,wtD b.m]
theorem wtD_dp {K:PySem.W.Frag} {H:Hp} (o:Option Int):Dp K H (wV o) (wtD o):=by
 cases o with
 |none=>exact .non
 |some m=>exact .int _
theorem BqH.dp {K:PySem.W.Frag} {H:Hp} {N:Nat} {z:V} {b:Bq} (h:BqH K N H z b):Dp K H z (bqD b):=by
 obtain ⟨p,a0,a1,a2,a3,a4,a5,rfl,h1,⟨g0,g1,g2,g3,g4,g5⟩,d⟩:=h
 exact .tup h1 (.cons (FQ.dp g0) (.cons (FQ.dp g1) (.cons (FQ.dp g2) (.cons (FQ.dp g3) (.cons (FQ.dp g4) (.cons (FQ.dp g5) (.cons (wtD_dp _) .nil)))))))
theorem bqs_dp {K:PySem.W.Frag} {H:Hp} {N:Nat}:∀ {xs:List V} {bs:List Bq},Al2 (BqH K N H) xs bs->Dps K H xs (bs.map bqD)
 |[],[],_=>.nil
 |_::_,_::_,z=>.cons z.1.dp (bqs_dp z.2)
 |[],_::_,z=>z.elim
 |_::_,[],z=>z.elim
theorem bq_lay (b:Bq):PyData.canLay0 (bqD b)=true:=by
 unfold bqD
 cases b.m<;>rfl
theorem bqs_lay:∀ bs:List Bq,PyData.canLayAll0 (bs.map bqD)=true
 |[]=>rfl
 |m::ms=>by
  show (PyData.canLay0 (bqD m) && PyData.canLayAll0 (ms.map bqD))=true
  rw [bqs_lay ms,bq_lay m]
  rfl
theorem bq_deep (b:Bq):PyData.depth (bqD b)=2:=by
 unfold bqD
 cases b.m<;>rfl
theorem bqs_deep:∀ bs:List Bq,PyData.depthAll (bs.map bqD)<=2
 |[]=>Nat.zero_le _
 |m::ms=>by
  show max (PyData.depth (bqD m)) (PyData.depthAll (ms.map bqD))<=2
  have e:=bq_deep m
  have:=bqs_deep ms
  omega
noncomputable def wdS (d:Nat):String:=if d=0 then "across" else "along"
noncomputable def mpD (m:Rat × Pr):PyData:=.tuple [frD m.1,.str (Str.ofString (wdS m.2.1)),.int m.2.2.1,.int m.2.2.2]
theorem wdS_lay (d:Nat):PyData.canLay0 (.str (Str.ofString (wdS d)))=true:=by
 unfold wdS
 split<;>decide+kernel
theorem mps_lay:∀ ms:List (Rat × Pr),PyData.canLayAll0 (ms.map mpD)=true
 |[]=>rfl
 |m::ms=>by
  show ((PyData.canLay0 (frD m.1) && (PyData.canLay0 (.str (Str.ofString (wdS m.2.1))) && true)) && PyData.canLayAll0 (ms.map mpD))=true
  rw [mps_lay ms,wdS_lay]
  rfl
theorem mps_deep:∀ ms:List (Rat × Pr),PyData.depthAll (ms.map mpD)<=2
 |[]=>Nat.zero_le _
 |m::ms=>by
  show max (PyData.depth (mpD m)) (PyData.depthAll (ms.map mpD))<=2
  have e:PyData.depth (mpD m)=2:=rfl
  have:=mps_deep ms
  omega
theorem J4 (b:Bq):atB 0 b=b:=by
 unfold atB
 cases b
 simp [Rat.add_zero]
theorem ats_nought (bs:List Bq):bs.map (atB 0)=bs:=by
 rw [show atB 0=id from funext J4,List.map_id]
theorem bqs_but {K:PySem.W.Frag} {H H':Hp} {N:Nat} {c:Addr} {ys vs:List V} {bs:List Bq} (h:Al2 (BqH K N H) vs bs) (s:But c H H') (hc:H c=some (.lst ys)):Al2 (BqH K N H') vs bs:=yF h (Buts.one s (List.mem_singleton.mpr rfl):Buts [c] H H') (NoT.lst hc NoT.nil)
theorem rt42 {n b:Int} (hb:b=1∨b=2∨b=3∨b=7) (h1:-1000<=n) (h2:n<=1000):Rt 42 20 (Rat.divInt n b):=by
 have p:(2:Nat) ^ 20=1048576:=by decide
 rcases hb with rfl|rfl|rfl|rfl
 ·refine ⟨n * 42,?_,by omega⟩
  rw [Rat.divInt_eq_div,Rat.intCast_mul]
  show (n:Rat) / 1=(n:Rat) * 42 / 42
  grind
 ·refine ⟨n * 21,?_,by omega⟩
  rw [Rat.divInt_eq_div,Rat.intCast_mul]
  show (n:Rat) / 2=(n:Rat) * 21 / 42
  grind
 ·refine ⟨n * 14,?_,by omega⟩
  rw [Rat.divInt_eq_div,Rat.intCast_mul]
  show (n:Rat) / 3=(n:Rat) * 14 / 42
  grind
 ·refine ⟨n * 6,?_,by omega⟩
  rw [Rat.divInt_eq_div,Rat.intCast_mul]
  show (n:Rat) / 7=(n:Rat) * 6 / 42
  grind
theorem Ja {n:Int} (h1:-1000<=n) (h2:n<=1000):Rt 42 20 (n:Rat):=by
 have z:=rt42 (n:=n) (b:=1) (.inl rfl) h1 h2
 rwa [Rat.divInt_eq_div,show (n:Rat) / ((1:Int):Rat)=(n:Rat) from by show (n:Rat) / 1=(n:Rat); grind] at z
theorem q_divnn {a b:Int} (ha:0<=a) (hb:0 < b):(0:Rat)<=Rat.divInt a b:=by
 rcases Int.lt_or_eq_of_le ha with h|h
 ·exact Rat.le_of_lt (Yh h hb)
 ·rw [<- h,Rat.zero_divInt]
  exact Rat.le_refl
theorem Rt.f42 {x:Rat} (h:Rt 42 20 x):FB 1990 x:=(h.fb (by decide) (by decide)).mono (by decide)
noncomputable def RmQ (R:Rat × Rat):Prop:=4<=R.1/\4<=R.2/\Rt 42 20 R.1/\Rt 42 20 R.2
noncomputable def App (gs:List Bq):Prop:=∀ i j,i < j->j < gs.length->(hicB (bxAt gs i) (bxAt gs j) 0 && hicB (bxAt gs i) (bxAt gs j) 1)=false
noncomputable def BxsQ (R:Rat × Rat) (gs:List Bq):Prop:=gs.length<=6/\(∀ g∈gs,InR R g/\RtB 42 20 g/\∃ m:Int,g.m=some m/\1<=m/\m<=1000)/\App gs
theorem jx (a b:Bq) (d:Nat):hicB a b d=hicB b a d:=by
 unfold hicB
 rw [Bool.and_comm]
theorem bx_left {gs hs:List Bq} {i:Nat} (h:i < gs.length):bxAt (gs++hs) i=bxAt gs i:=by
 rw [yX (b:=gs[i]) (by rw [List.getElem?_append_left h,List.getElem?_eq_getElem h]),yX (gs:=gs) (b:=gs[i]) (List.getElem?_eq_getElem h)]
theorem bx_last {gs:List Bq} {b:Bq}:bxAt (gs++[b]) gs.length=b:=yX (by rw [List.getElem?_append_right (Nat.le_refl _)]; simp)
theorem app_snoc {gs:List Bq} {b:Bq} (h:App gs) (g:∀ c∈gs,(!(hicB b c 0 && hicB b c 1))=true):App (gs++[b]):=by
 intro i j ij jl
 rw [List.length_append] at jl
 simp only [List.length_cons,List.length_nil] at jl
 rcases Nat.lt_or_ge j gs.length with c|c
 ·rw [bx_left (by omega),bx_left c]
  exact h i j ij c
 ·have e:j=gs.length:=by omega
  subst e
  rw [bx_left ij,bx_last,jx,jx (bxAt gs i) b 1]
  have z:=g (bxAt gs i) (by rw [yX (List.getElem?_eq_getElem ij)]; exact List.getElem_mem ij)
  rw [Bool.not_eq_true'] at z
  exact z
theorem bxs_snoc {R:Rat × Rat} {gs:List Bq} {b:Bq} (h:BxsQ R gs) (l:gs.length < 6) (i:InR R b) (r:RtB 42 20 b) (m:∃ m:Int,b.m=some m/\1<=m/\m<=1000) (g:∀ c∈gs,(!(hicB b c 0 && hicB b c 1))=true):BxsQ R (gs++[b]):=by
 refine ⟨by rw [List.length_append]; simp only [List.length_cons,List.length_nil]; omega,fun c hc=>?_,app_snoc h.2.2 g⟩
 rcases List.mem_append.mp hc with z|z
 ·exact h.2.1 c z
 ·rw [List.mem_singleton.mp z]
  exact ⟨i,r,m⟩
theorem BxsQ.gd {R:Rat × Rat} {gs:List Bq} (h:BxsQ R gs) (r:RmQ R) (l:1<=gs.length):GdP R gs:=by
 refine ⟨?_,?_,l,h.1,fun b hb=>(h.2.1 b hb).2.2,fun b hb=>(h.2.1 b hb).1,h.2.2⟩
 ·have:=r.1; grind
 ·have:=r.2.1; grind
theorem BxsQ.cm {R:Rat × Rat} {gs:List Bq} (h:BxsQ R gs) (r:RmQ R):CmP 20 R gs:=⟨42,by decide,by decide,r.2.2.1,r.2.2.2,fun b hb=>(h.2.1 b hb).2.1⟩
theorem bxs_nil {R:Rat × Rat}:BxsQ R []:=⟨by decide,fun _ h=>(nomatch h),fun i j _ h=>absurd h (by simp)⟩
noncomputable def bx0:Bq:=⟨((1:Int):Rat),((1:Int):Rat),((1:Int):Rat),Rat.divInt 1 2,((1:Int):Rat),((2:Int):Rat),some 3⟩
theorem bxs_one {R:Rat × Rat} (r:RmQ R):BxsQ R [bx0]:=by
 refine bxs_snoc (gs:=[]) bxs_nil (by decide) ?_ ⟨Ja (by decide) (by decide),Ja (by decide) (by decide),Ja (by decide) (by decide),rt42 (n:=1) (b:=2) (by decide) (by decide) (by decide),Ja (by decide) (by decide),Ja (by decide) (by decide)⟩ ⟨3,rfl,by decide,by decide⟩ (fun c h=>(nomatch h))
 refine ⟨by decide,Yh (by decide) (by decide),by decide,by decide,?_,?_⟩
 ·show (1:Rat)+1<=R.1
  have:=r.1; grind
 ·show (1:Rat)+Rat.divInt 1 2<=R.2
  have:=r.2.1
  have e:Rat.divInt 1 2<=1:=by decide
  grind
theorem rm_int {a b:Int} (h1:6<=a) (h2:a<=12) (h3:4<=b) (h4:b<=10):RmQ ((a:Rat),(b:Rat)):=
 ⟨by show ((4:Int):Rat)<=(a:Rat); exact Rat.intCast_le_intCast.mpr (by omega),by show ((4:Int):Rat)<=(b:Rat); exact Rat.intCast_le_intCast.mpr (by omega),Ja (by omega) (by omega),Ja (by omega) (by omega)⟩
theorem le_div7 {a:Int} (h:28<=a):(4:Rat)<=Rat.divInt a 7:=by
 rw [Rat.divInt_eq_div]
 have z:((28:Int):Rat)<=(a:Rat):=Rat.intCast_le_intCast.mpr h
 have e:((28:Int):Rat)=28:=rfl
 have e7:((7:Int):Rat)=7:=rfl
 rw [e] at z
 rw [e7]
 grind
theorem rm_sev {a b:Int} (h1:30<=a) (h2:a<=100) (h3:30<=b) (h4:b<=100):RmQ (Rat.divInt a 7,Rat.divInt b 7):=
 ⟨le_div7 (by omega),le_div7 (by omega),rt42 (n:=a) (b:=7) (by decide) (by omega) (by omega),rt42 (n:=b) (b:=7) (by decide) (by omega) (by omega)⟩
section
variable {R:Rat × Rat} {gs:List Bq} {now t:Rat}
theorem step_le {c:Option Rat} {p:Pr} {T:Rat} (h:c=some T):∃ T',yU R gs now c p=some T'/\T'<=T:=by
 subst h
 unfold yU
 split
 ·rename_i e
  rw [Bool.and_eq_true] at e
  obtain ⟨e1,_⟩:=e
  cases j:jntP R gs p with
  |none=>rw [j] at e1; cases e1
  |some s=>
   rw [j] at e1
   unfold ZO at e1
   dsimp only at e1
   split at e1
   ·cases e1
   ·exact ⟨s,rfl,Rat.le_of_lt (of_decide_eq_true e1)⟩
 ·exact ⟨T,rfl,Rat.le_refl⟩
theorem fold_le:∀ (l:List Pr) {c:Option Rat} {T:Rat},c=some T->∃ T',l.foldl (yU R gs now) c=some T'/\T'<=T
 |[],c,T,h=>⟨T,h,Rat.le_refl⟩
 |p::l,c,T,h=>by
  obtain ⟨T1,e1,l1⟩:=step_le (R:=R) (gs:=gs) (now:=now) (p:=p) h
  obtain ⟨T2,e2,l2⟩:=fold_le l e1
  exact ⟨T2,e2,Rat.le_trans l2 l1⟩
theorem step_at {c:Option Rat} {p:Pr} {s:Rat} (j:jntP R gs p=some s) (n:now<=s) (m:(metP R gs s p || corP R gs p)=true):∃ T,yU R gs now c p=some T/\T<=s:=by
 have ns:¬ s < now:=Rat.not_lt.mpr n
 unfold yU
 rw [j]
 show ∃ T,(if (ZO now c (some s) && (metP R gs s p || corP R gs p))=true then some s else c)=some T/\T<=s
 rw [m,Bool.and_true]
 cases c with
 |none=>
  have e:ZO now none (some s)=true:=by
   unfold ZO
   dsimp only
   rw [if_neg ns]
  rw [e]
  exact ⟨s,rfl,Rat.le_refl⟩
 |some r=>
  have e:ZO now (some r) (some s)=decide (s < r):=by
   unfold ZO
   dsimp only
   rw [if_neg ns]
  rw [e]
  by_cases c:s < r
  ·rw [decide_eq_true c]
   exact ⟨s,rfl,Rat.le_refl⟩
  ·rw [decide_eq_false c]
   exact ⟨r,rfl,Rat.not_lt.mp c⟩
theorem com_le {p:Pr} {s:Rat} (hp:InP gs.length p) (j:jntP R gs p=some s) (n:now<=s) (m:(metP R gs s p || corP R gs p)=true):∃ T,comP R gs now=some T/\T<=s:=by
 unfold comP
 obtain ⟨a,b,e⟩:=List.append_of_mem (yK.mpr hp)
 rw [e,List.foldl_append,List.foldl_cons]
 obtain ⟨T1,e1,l1⟩:=step_at (c:=a.foldl (yU R gs now) none) j n m
 obtain ⟨T2,e2,l2⟩:=fold_le b e1
 exact ⟨T2,e2,Rat.le_trans l2 l1⟩
noncomputable def ComG (R:Rat × Rat) (gs:List Bq) (now T:Rat):Prop:=now<=T/\∃ p,InP gs.length p/\jntP R gs p=some T/\(metP R gs T p || corP R gs p)=true
theorem fold_good:∀ (l:List Pr) {c:Option Rat},(∀ p∈l,InP gs.length p)->(∀ T,c=some T->ComG R gs now T)->∀ T,l.foldl (yU R gs now) c=some T->ComG R gs now T
 |[],_,_,h=>h
 |p::l,c,hl,h=>by
  rw [List.foldl_cons]
  refine fold_good l (fun q hq=>hl q (List.mem_cons_of_mem _ hq)) fun T e=>?_
  unfold yU at e
  split at e
  ·rename_i y
   rw [Bool.and_eq_true] at y
   obtain ⟨y1,y2⟩:=y
   rw [e] at y1 y2
   unfold ZO at y1
   dsimp only at y1
   split at y1
   ·cases y1
   ·rename_i z
    exact ⟨Rat.not_lt.mp z,p,hl p (List.mem_cons_self ..),e,y2⟩
  ·exact h T e
theorem JW {T:Rat} (h:comP R gs now=some T):ComG R gs now T:=fold_good (prsP gs.length) (c:=none) (fun p hp=>yK.mp hp) (fun T e=>(nomatch e)) T h
theorem due_ne {T:Rat} (h:comP R gs now=some T) (c:crwP R gs now=false):dueP R gs now≠[]:=by
 obtain ⟨_,p,hp,j,m⟩:=JW h
 rw [Bool.or_eq_true] at m
 have cm:cmgP R gs (comP R gs now) p=true:=by
  unfold cmgP
  rw [h,j]
  simp
 intro e
 rcases m with m|m
 ·have z:p∈dueP R gs now:=List.mem_filter.mpr ⟨yK.mpr hp,by rw [cm,h]; exact m⟩
  rw [e] at z
  cases z
 ·unfold crwP at c
  rw [Bool.or_eq_false_iff,Bool.or_eq_false_iff,Bool.or_eq_false_iff] at c
  have y:cloP R gs (comP R gs now)=true:=List.any_eq_true.mpr ⟨p,yK.mpr hp,by rw [cm,m]; rfl⟩
  rw [y] at c
  cases c.2.2.2
end
theorem Jh (b:Bq) (t:Rat) (d:Nat):(atB t b).pl d=b.pl d+b.sp d * t:=by
 unfold atB Bq.pl Bq.sp
 split<;>rfl
theorem at_sz (b:Bq) (t:Rat) (d:Nat):(atB t b).sz d=b.sz d:=rfl
theorem Yw (b:Bq) (t:Rat) (d:Nat):(atB t b).far d=b.far d+b.sp d * t:=by
 unfold Bq.far
 rw [Jh,at_sz]
 grind
theorem Zn {k x y:Rat} (hk:0 < k) (h:0<=k * (y - x)):x<=y:=by
 rcases (Rat.le_total (a:=x) (b:=y)) with z|z
 ·exact z
 ·rcases Classical.em (x=y) with e|e
  ·rw [e]; exact Rat.le_refl
  ·have lt:y < x:=Rat.lt_of_le_of_ne z (Ne.symm e)
   have:=J1 hk (show 0 < x - y by grind)
   grind
theorem lt_of_mul_q {k x y:Rat} (hk:0 < k) (h:0 < k * (y - x)):x < y:=by
 rcases (Rat.le_total (a:=y) (b:=x)) with z|z
 ·have:=jw hk (show 0<=x - y by grind)
  grind
 ·rcases Classical.em (x=y) with e|e
  ·subst e; grind
  ·exact Rat.lt_of_le_of_ne z e
theorem hic_half {pa fa va pb fb vb now t:Rat} (lt:now<=t) (h1:pa < fa) (h2:pb < fb) (k1:pa+va * t < fb+vb * t) (k2:pb+vb * t < fa+va * t) (c:fb+vb * now<=pa+va * now) :
  ∃ s,now<=s/\s < t/\¬ vb<=va/\s=(pa - fb) / (vb - va)/\∀ r,s < r->r<=t->pa+va * r < fb+vb * r/\pb+vb * r < fa+va * r:=by
 have v0:¬ vb<=va:=fun z=>by
  have:=Rat.mul_nonneg (show 0<=va - vb by grind) (show 0<=t - now by grind)
  grind
 have v1:0 < vb - va:=by grind
 have e:(vb - va) * ((pa - fb) / (vb - va))=pa - fb:=by
  have:vb - va≠0:=by grind
  grind
 generalize hs:(pa - fb) / (vb - va)=s at e
 refine ⟨s,Zn v1 (by grind),lt_of_mul_q v1 (by grind),v0,rfl,fun r hr ht=>⟨?_,?_⟩⟩
 ·have:=J1 v1 (show 0 < r - s by grind)
  grind
 ·have:=jw v1 (show 0<=t - r by grind)
  grind
theorem hic_full {pa fa va pb fb vb now t:Rat} (k1:pa+va * t < fb+vb * t) (k2:pb+vb * t < fa+va * t) (c1:pa+va * now < fb+vb * now) (c2:pb+vb * now < fa+va * now) (r:Rat) (h1:now<=r) (h2:r<=t) :
  pa+va * r < fb+vb * r/\pb+vb * r < fa+va * r:=by
 rcases (Rat.le_total (a:=va) (b:=vb)) with z|z
 ·have e1:=Rat.mul_nonneg (show 0<=vb - va by grind) (show 0<=t - r by grind)
  have e2:=Rat.mul_nonneg (show 0<=vb - va by grind) (show 0<=r - now by grind)
  constructor<;>grind
 ·have e1:=Rat.mul_nonneg (show 0<=va - vb by grind) (show 0<=t - r by grind)
  have e2:=Rat.mul_nonneg (show 0<=va - vb by grind) (show 0<=r - now by grind)
  constructor<;>grind
theorem Zt {a b:Bq} {d:Nat} {t:Rat}:hicB (atB t a) (atB t b) d=true↔a.pl d+a.sp d * t < b.far d+b.sp d * t/\b.pl d+b.sp d * t < a.far d+a.sp d * t:=by
 unfold hicB
 rw [Bool.and_eq_true,decide_eq_true_eq,decide_eq_true_eq,Jh,Jh,Yw,Yw]
theorem way_hic {a b:Bq} {d:Nat} {now t:Rat} (lt:now<=t) (wa:0 < a.sz d) (wb:0 < b.sz d) (h:hicB (atB t a) (atB t b) d=true) :
  (∀ r,now<=r->r<=t->hicB (atB r a) (atB r b) d=true)∨
  ∃ s,now<=s/\s < t/\((¬ a.sp d<=b.sp d/\s=(b.pl d - a.far d) / (a.sp d - b.sp d))∨(¬ b.sp d<=a.sp d/\s=(a.pl d - b.far d) / (b.sp d - a.sp d)))/\∀ r,s < r->r<=t->hicB (atB r a) (atB r b) d=true:=by
 obtain ⟨k1,k2⟩:=Zt.mp h
 have fa:a.pl d < a.far d:=by unfold Bq.far; grind
 have fb:b.pl d < b.far d:=by unfold Bq.far; grind
 by_cases c1:a.pl d+a.sp d * now < b.far d+b.sp d * now
 ·by_cases c2:b.pl d+b.sp d * now < a.far d+a.sp d * now
  ·exact .inl fun r h1 h2=>Zt.mpr (hic_full k1 k2 c1 c2 r h1 h2)
  ·obtain ⟨s,z1,z2,z3,z4,z5⟩:=hic_half lt fb fa k2 k1 (Rat.not_lt.mp c2)
   exact .inr ⟨s,z1,z2,.inl ⟨z3,z4⟩,fun r h1 h2=>Zt.mpr (And.symm (z5 r h1 h2))⟩
 ·obtain ⟨s,z1,z2,z3,z4,z5⟩:=hic_half lt fa fb k1 k2 (Rat.not_lt.mp c1)
  exact .inr ⟨s,z1,z2,.inr ⟨z3,z4⟩,fun r h1 h2=>Zt.mpr (z5 r h1 h2)⟩
noncomputable def GdT (R:Rat × Rat) (gs:List Bq) (t:Rat):Prop:=(∀ b∈gs,InR R (atB t b))/\App (gs.map (atB t))
section
variable {R:Rat × Rat} {gs:List Bq} {now t:Rat}
theorem Yu {i:Nat} (h:i < gs.length):bxAt (gs.map (atB t)) i=atB t (bxAt gs i):=by
 rw [yX (b:=atB t gs[i]) (by simp [h]),yX (gs:=gs) (b:=gs[i]) (List.getElem?_eq_getElem h)]
theorem yc {d i:Nat}:boxB R gs d (i:Int)=bxAt gs i:=by
 unfold boxB
 rw [if_pos (Int.natCast_nonneg i)]
 rfl
theorem jnt_two {d i j:Nat}:jntP R gs (d,(i:Int),(j:Int))=if (bxAt gs i).sp d<=(bxAt gs j).sp d then none else some (((bxAt gs j).pl d - (bxAt gs i).far d) / ((bxAt gs i).sp d - (bxAt gs j).sp d)):=by
 unfold jntP
 show (if (boxB R gs d (i:Int)).sp d<=(boxB R gs d (j:Int)).sp d then none else _)=_
 rw [yc,yc]
theorem in_two {d i j:Nat} (hd:d<=1) (hi:i < gs.length) (hj:j < gs.length) (ne:i≠j):InP gs.length (d,(i:Int),(j:Int)):=⟨hd,.inr ⟨i,hi,rfl⟩,.inr ⟨j,hj,rfl⟩,fun z=>ne (by have:(i:Int)=(j:Int):=z; omega),.inl (Int.natCast_nonneg i)⟩
theorem met_two {d i j:Nat} {s:Rat}:metP R gs s (d,(i:Int),(j:Int))=hicB (atB s (bxAt gs i)) (atB s (bxAt gs j)) (1 - d):=by
 unfold metP
 show hicB (atB s (boxB R gs d (i:Int))) (atB s (boxB R gs d (j:Int))) (1 - d)=_
 rw [yc,yc]
theorem Yj {d i j:Nat} {s:Rat} (hd:d<=1) (hi:i < gs.length) (hj:j < gs.length) (ne:i≠j) (h:(¬ (bxAt gs i).sp d<=(bxAt gs j).sp d/\s=((bxAt gs j).pl d - (bxAt gs i).far d) / ((bxAt gs i).sp d - (bxAt gs j).sp d))∨(¬ (bxAt gs j).sp d<=(bxAt gs i).sp d/\s=((bxAt gs i).pl d - (bxAt gs j).far d) / ((bxAt gs j).sp d - (bxAt gs i).sp d))) :
  ∃ x y:Nat,(x=i/\y=j∨x=j/\y=i)/\jntP R gs (d,(x:Int),(y:Int))=some s:=by
 rcases h with ⟨h1,h2⟩|⟨h1,h2⟩
 ·exact ⟨i,j,.inl ⟨rfl,rfl⟩,by rw [jnt_two,if_neg h1,h2]⟩
 ·exact ⟨j,i,.inr ⟨rfl,rfl⟩,by rw [jnt_two,if_neg h1,h2]⟩
theorem stay_two {i j:Nat} (hi:i < gs.length) (hj:j < gs.length) (ne:i≠j) (sz:∀ d,0 < (bxAt gs i).sz d/\0 < (bxAt gs j).sz d) (lt:now<=t) (hT:∀ T,comP R gs now=some T->t<=T)
  (a:(hicB (atB now (bxAt gs i)) (atB now (bxAt gs j)) 0 && hicB (atB now (bxAt gs i)) (atB now (bxAt gs j)) 1)=false):(hicB (atB t (bxAt gs i)) (atB t (bxAt gs j)) 0 && hicB (atB t (bxAt gs i)) (atB t (bxAt gs j)) 1)=false:=by
 rw [Bool.eq_false_iff]
 intro z
 rw [Bool.and_eq_true] at z
 have no:∀ (d x y:Nat) (s:Rat),d<=1->(x=i/\y=j∨x=j/\y=i)->jntP R gs (d,(x:Int),(y:Int))=some s->now<=s->s < t->(metP R gs s (d,(x:Int),(y:Int)) || corP R gs (d,(x:Int),(y:Int)))=true->False:=fun d x y s hd xy e h1 h2 m=>by
  have ip:InP gs.length (d,(x:Int),(y:Int)):=by
   rcases xy with ⟨rfl,rfl⟩|⟨rfl,rfl⟩
   ·exact in_two hd hi hj ne
   ·exact in_two hd hj hi (Ne.symm ne)
  obtain ⟨T,e1,e2⟩:=com_le ip e h1 m
  have:=hT T e1
  grind
 have mt:∀ (d x y:Nat) (s:Rat),(x=i/\y=j∨x=j/\y=i)->hicB (atB s (bxAt gs i)) (atB s (bxAt gs j)) (1 - d)=true->metP R gs s (d,(x:Int),(y:Int))=true:=fun d x y s xy h=>by
  rw [met_two]
  rcases xy with ⟨rfl,rfl⟩|⟨rfl,rfl⟩
  ·exact h
  ·rw [jx]; exact h
 rcases way_hic lt (sz 0).1 (sz 0).2 z.1 with w0|⟨s0,n0,t0,c0,w0⟩
 ·rcases way_hic lt (sz 1).1 (sz 1).2 z.2 with w1|⟨s1,n1,t1,c1,w1⟩
  ·rw [w0 now Rat.le_refl lt,w1 now Rat.le_refl lt] at a
   cases a
  ·obtain ⟨x,y,xy,e⟩:=Yj (R:=R) (d:=1) (by decide) hi hj ne c1
   exact no 1 x y s1 (by decide) xy e n1 t1 (by rw [mt 1 x y s1 xy (w0 s1 n1 (Rat.le_of_lt t1))]; rfl)
 ·obtain ⟨x,y,xy,e⟩:=Yj (R:=R) (d:=0) (by decide) hi hj ne c0
  rcases way_hic lt (sz 1).1 (sz 1).2 z.2 with w1|⟨s1,n1,t1,c1,w1⟩
  ·exact no 0 x y s0 (by decide) xy e n0 t0 (by rw [mt 0 x y s0 xy (w1 s0 n0 (Rat.le_of_lt t0))]; rfl)
  ·obtain ⟨x',y',xy',e'⟩:=Yj (R:=R) (d:=1) (by decide) hi hj ne c1
   by_cases c:s0 < s1
   ·exact no 1 x' y' s1 (by decide) xy' e' n1 t1 (by rw [mt 1 x' y' s1 xy' (w0 s1 c (Rat.le_of_lt t1))]; rfl)
   ·by_cases c':s1 < s0
    ·exact no 0 x y s0 (by decide) xy e n0 t0 (by rw [mt 0 x y s0 xy (w1 s0 c' (Rat.le_of_lt t0))]; rfl)
    ·have es:s1=s0:=by grind
     subst es
     refine no 0 x y s1 (by decide) xy e n0 t0 ?_
     have co:corP R gs (0,(x:Int),(y:Int))=true:=by
      unfold corP
      rw [decide_eq_true (Int.natCast_nonneg x),decide_eq_true (Int.natCast_nonneg y),Bool.true_and,Bool.true_and,Bool.or_eq_true,decide_eq_true_eq,decide_eq_true_eq]
      show jntP R gs (0,(x:Int),(y:Int))=jntP R gs (1,(x:Int),(y:Int))∨jntP R gs (0,(x:Int),(y:Int))=jntP R gs (1,(y:Int),(x:Int))
      rw [e]
      rcases xy with ⟨rfl,rfl⟩|⟨rfl,rfl⟩<;>rcases xy' with ⟨rfl,rfl⟩|⟨rfl,rfl⟩
      ·exact .inl e'.symm
      ·exact .inr e'.symm
      ·exact .inr e'.symm
      ·exact .inl e'.symm
     rw [co,Bool.or_true]
end
theorem sum_set:∀ (l:List Rat) {i:Nat} {x y:Rat},l[i]?=some y->sumQ (l.set i x)=sumQ l - y+x
 |[],_,_,_,h=>by simp at h
 |a::l,0,x,y,h=>by
  simp at h
  subst h
  rw [List.set_cons_zero,Zo,Zo]
  grind
 |a::l,i+1,x,y,h=>by
  rw [List.set_cons_succ,Zo,Zo,sum_set l (by simpa using h)]
  grind
theorem eqv_len:∀ (as bs:List PyData),as.length≠bs.length->PyData.eqv (.list as) (.list bs)=false
 |[],[],h=>absurd rfl h
 |[],_::_,_=>rfl
 |_::_,[],_=>rfl
 |a::as,b::bs,h=>by
  show (PyData.eqv a b && PyData.eqv (.list as) (.list bs))=false
  rw [eqv_len as bs (fun z=>h (by rw [List.length_cons,List.length_cons,z])),Bool.and_false]
theorem J9 {xs:List V} {k:Nat} (h:k<=xs.length):cutV xs none (some (k:Int))=xs.take k:=by
 unfold cutV
 rw [HT.sIx_none,HT.sIx_nat,Nat.min_eq_left h]
 rfl
theorem Je {p f v L now t:Rat} (lt:now<=t) (n1:0<=p+v * now) (n2:f+v * now<=L) :
  (∀ r,now<=r->r<=t->0<=p+v * r/\f+v * r<=L)∨∃ s,now<=s/\s < t/\((¬ 0<=v/\s=(p - 0) / (0 - v))∨(¬ v<=0/\s=(L - f) / (v - 0)))/\∀ r,now<=r->r<=s->0<=p+v * r/\f+v * r<=L:=by
 by_cases v0:0<=v
 ·by_cases v1:v<=0
  ·have e:v=0:=by grind
   subst e
   exact .inl fun r _ _=>⟨by grind,by grind⟩
  ·have vp:0 < v - 0:=by grind
   have e:(v - 0) * ((L - f) / (v - 0))=L - f:=by
    have:v - 0≠0:=by grind
    grind
   generalize hs:(L - f) / (v - 0)=s at e
   have k:∀ r,now<=r->r<=s->0<=p+v * r/\f+v * r<=L:=fun r h1 h2=>by
    have e1:=jw vp (show 0<=r - now by grind)
    have e2:=jw vp (show 0<=s - r by grind)
    exact ⟨by grind,by grind⟩
   by_cases c:s < t
   ·exact .inr ⟨s,Zn vp (by grind),c,.inr ⟨v1,rfl⟩,k⟩
   ·exact .inl fun r h1 h2=>k r h1 (by grind)
 ·have vp:0 < 0 - v:=by grind
  have e:(0 - v) * ((p - 0) / (0 - v))=p - 0:=by
   have:0 - v≠0:=by grind
   grind
  generalize hs:(p - 0) / (0 - v)=s at e
  have k:∀ r,now<=r->r<=s->0<=p+v * r/\f+v * r<=L:=fun r h1 h2=>by
   have e1:=jw vp (show 0<=r - now by grind)
   have e2:=jw vp (show 0<=s - r by grind)
   exact ⟨by grind,by grind⟩
  by_cases c:s < t
  ·exact .inr ⟨s,Zn vp (by grind),c,.inl ⟨v0,rfl⟩,k⟩
  ·exact .inl fun r h1 h2=>k r h1 (by grind)
noncomputable def rmD (R:Rat × Rat) (d:Nat):Rat:=if d=0 then R.1 else R.2
section
variable {R:Rat × Rat} {gs:List Bq} {now t:Rat}
theorem wall_near {d:Nat} (hd:d<=1):(boxB R gs d (-1)).far d=0/\(boxB R gs d (-1)).sp d=0/\(boxB R gs d (-1)).pl (1 - d)=0/\(boxB R gs d (-1)).far (1 - d)=rmD R (1 - d)/\(boxB R gs d (-1)).sp (1 - d)=0:=by
 rcases d01 hd with rfl|rfl
 ·refine ⟨?_,rfl,rfl,?_,rfl⟩
  ·show (-1:Rat)+1=0
   grind
  ·show (0:Rat)+R.2=R.2
   grind
 ·refine ⟨?_,rfl,rfl,?_,rfl⟩
  ·show (-1:Rat)+1=0
   grind
  ·show (0:Rat)+R.1=R.1
   grind
theorem wall_far {d:Nat} (hd:d<=1):(boxB R gs d (-2)).pl d=rmD R d/\(boxB R gs d (-2)).sp d=0/\(boxB R gs d (-2)).pl (1 - d)=0/\(boxB R gs d (-2)).far (1 - d)=rmD R (1 - d)/\(boxB R gs d (-2)).sp (1 - d)=0:=by
 rcases d01 hd with rfl|rfl
 ·refine ⟨rfl,rfl,rfl,?_,rfl⟩
  show (0:Rat)+R.2=R.2
  grind
 ·refine ⟨rfl,rfl,rfl,?_,rfl⟩
  show (0:Rat)+R.1=R.1
  grind
theorem JG {b:Bq}:InR R (atB t b)↔(0 < b.w/\0 < b.h)/\∀ d,d<=1->0<=b.pl d+b.sp d * t/\b.far d+b.sp d * t<=rmD R d:=by
 have e0:=Yw b t 0
 have e1:=Yw b t 1
 have p0:=Jh b t 0
 have p1:=Jh b t 1
 constructor
 ·rintro ⟨h1,h2,h3,h4,h5,h6⟩
  refine ⟨⟨h1,h2⟩,fun d hd=>?_⟩
  rcases d01 hd with rfl|rfl
  ·exact ⟨by rw [<- p0]; exact h3,by rw [<- e0]; exact h5⟩
  ·exact ⟨by rw [<- p1]; exact h4,by rw [<- e1]; exact h6⟩
 ·rintro ⟨⟨h1,h2⟩,h⟩
  have a:=h 0 (by decide)
  have b':=h 1 (by decide)
  rw [<- p0,<- e0] at a
  rw [<- p1,<- e1] at b'
  exact ⟨h1,h2,a.1,b'.1,a.2,b'.2⟩
theorem sz_pos {b:Bq} (h:0 < b.w/\0 < b.h) (d:Nat):0 < b.sz d:=by
 unfold Bq.sz
 split
 ·exact h.1
 ·exact h.2
theorem stay_in {i:Nat} (hi:i < gs.length) (r0:∀ d,0 < rmD R d) (lt:now<=t) (hT:∀ T,comP R gs now=some T->t<=T) (h:InR R (atB now (bxAt gs i))):InR R (atB t (bxAt gs i)):=by
 obtain ⟨hs,hw⟩:=JG.mp h
 have sp:=sz_pos hs
 have no:∀ (d:Nat) (s:Rat),d<=1->now<=s->s < t->((¬ 0<=(bxAt gs i).sp d/\s=((bxAt gs i).pl d - 0) / (0 - (bxAt gs i).sp d))∨(¬ (bxAt gs i).sp d<=0/\s=(rmD R d - (bxAt gs i).far d) / ((bxAt gs i).sp d - 0)))->(0<=(bxAt gs i).pl (1 - d)+(bxAt gs i).sp (1 - d) * s/\(bxAt gs i).far (1 - d)+(bxAt gs i).sp (1 - d) * s<=rmD R (1 - d))->False:=fun d s hd n s' c w=>by
  have fr:(bxAt gs i).far (1 - d)=(bxAt gs i).pl (1 - d)+(bxAt gs i).sz (1 - d):=rfl
  have sz:=sp (1 - d)
  have l1:(bxAt gs i).pl (1 - d)+(bxAt gs i).sp (1 - d) * s < rmD R (1 - d):=by grind
  have l2:0 < (bxAt gs i).far (1 - d)+(bxAt gs i).sp (1 - d) * s:=by grind
  rcases c with ⟨c1,c2⟩|⟨c1,c2⟩
  ·obtain ⟨w1,w2,w3,w4,w5⟩:=wall_near (R:=R) (gs:=gs) hd
   have ip:InP gs.length (d,-1,(i:Int)):=⟨hd,.inl rfl,.inr ⟨i,hi,rfl⟩,(by show (-1:Int)≠(i:Int); omega),.inr (Int.natCast_nonneg i)⟩
   have j:jntP R gs (d,-1,(i:Int))=some s:=by
    unfold jntP
    show (if (boxB R gs d (-1)).sp d<=(boxB R gs d (i:Int)).sp d then none else some (((boxB R gs d (i:Int)).pl d - (boxB R gs d (-1)).far d) / ((boxB R gs d (-1)).sp d - (boxB R gs d (i:Int)).sp d)))=_
    rw [yc,w1,w2,if_neg c1,c2]
   have m:metP R gs s (d,-1,(i:Int))=true:=by
    unfold metP
    show hicB (atB s (boxB R gs d (-1))) (atB s (boxB R gs d (i:Int))) (1 - d)=true
    rw [yc,Zt,w3,w4,w5]
    exact ⟨by grind,by grind⟩
   obtain ⟨T,e1,e2⟩:=com_le ip j n (by rw [m]; rfl)
   have:=hT T e1
   grind
  ·obtain ⟨w1,w2,w3,w4,w5⟩:=wall_far (R:=R) (gs:=gs) hd
   have ip:InP gs.length (d,(i:Int),-2):=⟨hd,.inr ⟨i,hi,rfl⟩,.inl rfl,(by show (i:Int)≠-2; omega),.inl (Int.natCast_nonneg i)⟩
   have j:jntP R gs (d,(i:Int),-2)=some s:=by
    unfold jntP
    show (if (boxB R gs d (i:Int)).sp d<=(boxB R gs d (-2)).sp d then none else some (((boxB R gs d (-2)).pl d - (boxB R gs d (i:Int)).far d) / ((boxB R gs d (i:Int)).sp d - (boxB R gs d (-2)).sp d)))=_
    rw [yc,w1,w2,if_neg c1,c2]
   have m:metP R gs s (d,(i:Int),-2)=true:=by
    unfold metP
    show hicB (atB s (boxB R gs d (i:Int))) (atB s (boxB R gs d (-2))) (1 - d)=true
    rw [yc,Zt,w3,w4,w5]
    exact ⟨by grind,by grind⟩
   obtain ⟨T,e1,e2⟩:=com_le ip j n (by rw [m]; rfl)
   have:=hT T e1
   grind
 have a0:=hw 0 (by decide)
 have a1:=hw 1 (by decide)
 rcases Je lt a0.1 a0.2 with w0|⟨s0,n0,t0,c0,w0⟩
 ·rcases Je lt a1.1 a1.2 with w1|⟨s1,n1,t1,c1,w1⟩
  ·refine JG.mpr ⟨hs,fun d hd=>?_⟩
   rcases d01 hd with rfl|rfl
   ·exact w0 t lt Rat.le_refl
   ·exact w1 t lt Rat.le_refl
  ·exact (no 1 s1 (by decide) n1 t1 c1 (w0 s1 n1 (Rat.le_of_lt t1))).elim
 ·rcases Je lt a1.1 a1.2 with w1|⟨s1,n1,t1,c1,w1⟩
  ·exact (no 0 s0 (by decide) n0 t0 c0 (w1 s0 n0 (Rat.le_of_lt t0))).elim
  ·rcases (Rat.le_total (a:=s0) (b:=s1)) with z|z
   ·exact (no 0 s0 (by decide) n0 t0 c0 (w1 s0 n0 z)).elim
   ·exact (no 1 s1 (by decide) n1 t1 c1 (w0 s1 n1 z)).elim
theorem rm_pos (r1:0 < R.1) (r2:0 < R.2) (d:Nat):0 < rmD R d:=by
 unfold rmD
 split
 ·exact r1
 ·exact r2
theorem bx_mem {i:Nat} (h:i < gs.length):bxAt gs i∈gs:=by
 rw [yX (List.getElem?_eq_getElem h)]
 exact List.getElem_mem h
theorem gd_stay (r1:0 < R.1) (r2:0 < R.2) (g:GdT R gs now) (lt:now<=t) (hT:∀ T,comP R gs now=some T->t<=T):GdT R gs t:=by
 refine ⟨fun b hb=>?_,fun i j ij jl=>?_⟩
 ·obtain ⟨i,hi,rfl⟩:=List.getElem_of_mem hb
  have e:bxAt gs i=gs[i]:=yX (List.getElem?_eq_getElem hi)
  rw [<- e]
  exact stay_in hi (rm_pos r1 r2) lt hT (g.1 _ (bx_mem hi))
 ·rw [List.length_map] at jl
  have a:=g.2 i j ij (by rw [List.length_map]; exact jl)
  rw [Yu (by omega),Yu jl] at a ⊢
  have si:=(JG.mp (g.1 _ (bx_mem (gs:=gs) (i:=i) (by omega)))).1
  have sj:=(JG.mp (g.1 _ (bx_mem jl))).1
  exact stay_two (by omega) jl (by omega) (fun d=>⟨sz_pos si d,sz_pos sj d⟩) lt hT a
end
noncomputable def PosE (T:Rat) (b b':Bq):Prop:=(∀ d,d<=1->b'.pl d+b'.sp d * T=b.pl d+b.sp d * T/\b'.sz d=b.sz d)/\b'.m=b.m
theorem PosE.refl (T:Rat) (b:Bq):PosE T b b:=⟨fun _ _=>⟨rfl,rfl⟩,rfl⟩
theorem PosE.trans {T:Rat} {a b c:Bq} (h:PosE T a b) (g:PosE T b c):PosE T a c:=⟨fun d hd=>⟨(g.1 d hd).1.trans (h.1 d hd).1,(g.1 d hd).2.trans (h.1 d hd).2⟩,g.2.trans h.2⟩
theorem mix_meet {x y T c:Rat} {v w:Rat} {m u:Int} (m1:1<=m) (u1:1<=u) (h1:x+v * T=c) (h2:y+w * T=c):mixQ x y m u+mixQ v w m u * T=c:=by
 have k:(((m+u:Int)):Rat)≠0:=by
  intro z
  have:m+u=0:=Rat.intCast_inj.mp z
  omega
 rw [Rat.intCast_add] at k
 rw [YL,YL]
 have e:∀ p q:Rat,p * (((m:Rat) - u) / (m+u))+q * ((2 * u) / (m+u))=(p * ((m:Rat) - u)+q * (2 * u)) / (m+u):=fun p q=>by grind
 rw [e,e]
 have e2:x * ((m:Rat) - u)+y * (2 * u)+(v * ((m:Rat) - u)+w * (2 * u)) * T=c * ((m:Rat)+u):=by grind
 have e3:(x * ((m:Rat) - u)+y * (2 * u)) / ((m:Rat)+u)+(v * ((m:Rat) - u)+w * (2 * u)) / ((m:Rat)+u) * T=(x * ((m:Rat) - u)+y * (2 * u)+(v * ((m:Rat) - u)+w * (2 * u)) * T) / ((m:Rat)+u):=by grind
 rw [e3,e2]
 grind
theorem ptd_keep {a b:Rat × Rat × Option Int} {T:Rat} (wa:1<=a.2.2.getD 1) (wb:∀ u,b.2.2=some u->1<=u) (w0:b.2.2=none->b.2.1=0) (e:a.1+a.2.1 * T=b.1+b.2.1 * T):(ptd a b).1+(ptd a b).2 * T=a.1+a.2.1 * T:=by
 obtain ⟨b1,b2,b3⟩:=b
 cases b3 with
 |none=>
  have z:b2=0:=w0 rfl
  subst z
  show b1+b1 - a.1+-a.2.1 * T=_
  have e':a.1+a.2.1 * T=b1+0 * T:=e
  grind
 |some u=>exact mix_meet wa (wb u rfl) rfl e.symm
section
variable {R:Rat × Rat} {gs gs0:List Bq} {now T:Rat} {q:Pr}
theorem wall_sp {d:Nat} {i:Int} (i0:¬ 0<=i) (e:Nat):(boxB R gs d i).sp e=0:=by
 unfold boxB
 rw [if_neg i0]
 unfold jQ
 split<;>split<;>(unfold Bq.sp; split<;>rfl)
theorem box_w1 (hw:WtB gs) (h:InP gs.length q) {i:Int} (hi:i=q.2.1∨i=q.2.2) (d:Nat):1<=(boxB R gs d i).m.getD 1/\(∀ u,(boxB R gs d i).m=some u->1<=u)/\((boxB R gs d i).m=none->∀ e,(boxB R gs d i).sp e=0):=by
 by_cases i0:0<=i
 ·have l:i.toNat < gs.length:=by
   rcases hi with rfl|rfl
   ·exact h.l1 i0
   ·exact h.l2 i0
  obtain ⟨m,e,m1,_⟩:=jp (R:=R) (d:=d) hw i0 l
  rw [e]
  exact ⟨m1,fun u z=>by cases z; exact m1,fun z=>(nomatch z)⟩
 ·rw [Jk i0]
  exact ⟨by decide,fun u z=>(nomatch z),fun _ e=>wall_sp i0 e⟩
noncomputable def TchT (R:Rat × Rat) (gs:List Bq) (q:Pr) (T:Rat):Prop:=(boxB R gs q.1 q.2.1).far q.1+(boxB R gs q.1 q.2.1).sp q.1 * T=(boxB R gs q.1 q.2.2).pl q.1+(boxB R gs q.1 q.2.2).sp q.1 * T
theorem jnt_tch (h:jntP R gs q=some T):TchT R gs q T:=by
 unfold jntP at h
 split at h
 ·cases h
 ·rename_i c
  injection h with h
  unfold TchT
  generalize (boxB R gs q.1 q.2.1).far q.1=f at h ⊢
  generalize (boxB R gs q.1 q.2.2).pl q.1=p at h ⊢
  generalize (boxB R gs q.1 q.2.1).sp q.1=v at h c ⊢
  generalize (boxB R gs q.1 q.2.2).sp q.1=w at h c ⊢
  have:v - w≠0:=by grind
  grind
theorem pos_with {b:Bq} {d:Nat} {p s:Rat} (hd:d<=1) (h:p+s * T=b.pl d+b.sp d * T):PosE T b (b.with d p s):=by
 refine ⟨fun e he=>?_,with_m⟩
 rw [YW hd he,ZH hd he,with_sz]
 refine ⟨?_,rfl⟩
 by_cases c:e=d
 ·subst c
  rw [if_pos rfl,if_pos rfl,h]
 ·rw [if_neg c,if_neg c]
theorem prt_keep (h:InP gs.length q) (hw:WtB gs) (t:TchT R gs q T) (i:Nat):PosE T (bxAt gs i) (bxAt (prtP R gs q) i):=by
 have z:=JK (R:=R) h q.1 (i:Int)
 rw [yc,yc] at z
 rw [z]
 obtain ⟨a1,a2,a3⟩:=box_w1 (R:=R) (i:=q.2.1) hw h (.inl rfl) q.1
 obtain ⟨b1,b2,b3⟩:=box_w1 (R:=R) (i:=q.2.2) hw h (.inr rfl) q.1
 unfold TchT at t
 split
 ·rename_i c
  have e:bxAt gs i=boxB R gs q.1 q.2.1:=by rw [<- c.2,yc]
  rw [e]
  unfold oneP Jq
  refine pos_with h.1 ?_
  have k:=ptd_keep (a:=farG (boxB R gs q.1 q.2.1) q.1) (b:=yE (boxB R gs q.1 q.2.2) q.1) (T:=T) a1 b2 (fun z=>b3 z q.1) t
  have f:(farG (boxB R gs q.1 q.2.1) q.1).1=(boxB R gs q.1 q.2.1).pl q.1+(boxB R gs q.1 q.2.1).sz q.1:=rfl
  have f2:(farG (boxB R gs q.1 q.2.1) q.1).2.1=(boxB R gs q.1 q.2.1).sp q.1:=rfl
  rw [f,f2] at k
  grind
 ·split
  ·rename_i c
   have e:bxAt gs i=boxB R gs q.1 q.2.2:=by rw [<- c.2,yc]
   rw [e]
   unfold othP Jd
   refine pos_with h.1 ?_
   exact ptd_keep (a:=yE (boxB R gs q.1 q.2.2) q.1) (b:=farG (boxB R gs q.1 q.2.1) q.1) (T:=T) b1 a2 (fun z=>a3 z q.1) t.symm
  ·exact PosE.refl T _
noncomputable def PosL (T:Rat) (gs gs':List Bq):Prop:=gs'.length=gs.length/\∀ i,PosE T (bxAt gs i) (bxAt gs' i)
theorem PosE.far {b b':Bq} (h:PosE T b b') {d:Nat} (hd:d<=1):b'.far d+b'.sp d * T=b.far d+b.sp d * T:=by
 have:=h.1 d hd
 unfold Bq.far
 grind
theorem tch_pos (h:PosL T gs0 gs) (hd:q.1<=1) (t:TchT R gs0 q T):TchT R gs q T:=by
 unfold TchT at t ⊢
 have k:∀ i:Int,PosE T (boxB R gs0 q.1 i) (boxB R gs q.1 i):=fun i=>by
  unfold boxB
  split
  ·exact h.2 _
  ·exact PosE.refl _ _
 rw [(k _).far hd,((k _).1 _ hd).1,t]
theorem fold_keep:∀ (l:List Pr) {gs:List Bq},(∀ q∈l,InP gs.length q/\TchT R gs0 q T)->WtB gs->PosL T gs0 gs->PosL T gs0 (l.foldl (prtP R) gs)
 |[],_,_,_,h=>h
 |q::l,gs,hl,hw,h=>by
  obtain ⟨hq,tq⟩:=hl q (List.mem_cons_self ..)
  rw [List.foldl_cons]
  refine fold_keep l (fun r hr=>?_) (prt_wt hw hq) ⟨by rw [yr]; exact h.1,fun i=>(h.2 i).trans (prt_keep hq hw (tch_pos h hq.1 tq) i)⟩
  have:=hl r (List.mem_cons_of_mem _ hr)
  rw [yr]
  exact this
theorem due_jnt (h:comP R gs now=some T) (hq:q∈dueP R gs now):InP gs.length q/\TchT R gs q T:=by
 refine ⟨jj q hq,jnt_tch ?_⟩
 have z:=(List.mem_filter.mp hq).2
 rw [Bool.and_eq_true] at z
 have y:=z.1
 unfold cmgP at y
 rw [Bool.and_eq_true,h] at y
 exact of_decide_eq_true y.2
theorem on_keep (h:comP R gs now=some T) (hw:WtB gs):PosL T gs (onP R gs now):=fold_keep _ (fun q hq=>due_jnt h hq) hw ⟨rfl,fun i=>PosE.refl T _⟩
theorem PosE.at {b b':Bq} (h:PosE T b b') {d:Nat} (hd:d<=1):(atB T b').pl d=(atB T b).pl d/\(atB T b').far d=(atB T b).far d/\(atB T b').sz d=(atB T b).sz d:=by
 rw [Jh,Jh,Yw,Yw,h.far hd,(h.1 d hd).1,at_sz,at_sz]
 exact ⟨rfl,rfl,(h.1 d hd).2⟩
theorem gd_pos {gs':List Bq} (h:PosL T gs gs') (g:GdT R gs T):GdT R gs' T:=by
 refine ⟨fun b hb=>?_,fun i j ij jl=>?_⟩
 ·obtain ⟨i,hi,rfl⟩:=List.getElem_of_mem hb
  have e:bxAt gs' i=gs'[i]:=yX (List.getElem?_eq_getElem hi)
  rw [<- e]
  have il:i < gs.length:=by rw [<- h.1]; exact hi
  obtain ⟨h1,h2,h3,h4,h5,h6⟩:=g.1 _ (bx_mem il)
  have a0:=(h.2 i).at (d:=0) (by decide)
  have a1:=(h.2 i).at (d:=1) (by decide)
  refine ⟨?_,?_,?_,?_,?_,?_⟩
  ·show 0 < (atB T (bxAt gs' i)).sz 0; rw [a0.2.2]; exact h1
  ·show 0 < (atB T (bxAt gs' i)).sz 1; rw [a1.2.2]; exact h2
  ·show 0<=(atB T (bxAt gs' i)).pl 0; rw [a0.1]; exact h3
  ·show 0<=(atB T (bxAt gs' i)).pl 1; rw [a1.1]; exact h4
  ·rw [a0.2.1]; exact h5
  ·rw [a1.2.1]; exact h6
 ·rw [List.length_map,h.1] at jl
  have a:=g.2 i j ij (by rw [List.length_map]; exact jl)
  rw [Yu (by omega),Yu jl] at a
  rw [Yu (by rw [h.1]; omega),Yu (by rw [h.1]; exact jl)]
  have k:∀ d,d<=1->hicB (atB T (bxAt gs' i)) (atB T (bxAt gs' j)) d=hicB (atB T (bxAt gs i)) (atB T (bxAt gs j)) d:=fun d hd=>by
   unfold hicB
   rw [((h.2 i).at hd).1,((h.2 i).at hd).2.1,((h.2 j).at hd).1,((h.2 j).at hd).2.1]
  rw [k 0 (by decide),k 1 (by decide)]
  exact a
end
noncomputable def mgB (b:Bq):Rat:=((b.m.getD 1:Int):Rat) * (b.u * b.u+b.v * b.v)
noncomputable def mgt (gs:List Bq):Rat:=sumQ (gs.map mgB)
theorem mg_sp (b:Bq) {d:Nat} (hd:d<=1):mgB b=((b.m.getD 1:Int):Rat) * (b.sp d * b.sp d+b.sp (1 - d) * b.sp (1 - d)):=by
 rcases d01 hd with rfl|rfl
 ·rfl
 ·show _=((b.m.getD 1:Int):Rat) * (b.v * b.v+b.u * b.u)
  unfold mgB
  grind
theorem mg_with {b:Bq} {d:Nat} {p s:Rat} (hd:d<=1):mgB (b.with d p s)=((b.m.getD 1:Int):Rat) * (s * s+b.sp (1 - d) * b.sp (1 - d)):=by
 rw [mg_sp _ hd,with_m,ZH hd hd,ZH hd (show 1 - d<=1 by omega),if_pos rfl,if_neg (by omega)]
theorem mix_mt (v w:Rat) {m u:Int} (m1:1<=m) (u1:1<=u):(m:Rat) * (mixQ v w m u * mixQ v w m u)+(u:Rat) * (mixQ w v u m * mixQ w v u m)=(m:Rat) * (v * v)+(u:Rat) * (w * w):=by
 have k:(((m+u:Int)):Rat)≠0:=by
  intro z
  have:m+u=0:=Rat.intCast_inj.mp z
  omega
 rw [Rat.intCast_add] at k
 rw [YL,YL]
 generalize (m:Rat)=a at k ⊢
 generalize (u:Rat)=b at k ⊢
 have k':b+a=a+b:=by grind
 rw [k']
 grind
section
variable {R:Rat × Rat} {gs:List Bq} {now T:Rat} {q:Pr}
theorem mg_set {l:List Bq} {k:Nat} {b:Bq} (h:k < l.length):mgt (l.set k b)=mgt l - mgB (bxAt l k)+mgB b:=by
 unfold mgt
 rw [List.map_set]
 refine sum_set _ ?_
 rw [List.getElem?_map,List.getElem?_eq_getElem h,yX (List.getElem?_eq_getElem h)]
 rfl
theorem one_mg (hd:q.1<=1):mgB (oneP R gs q)=(((boxB R gs q.1 q.2.1).m.getD 1:Int):Rat) * ((ptd (farG (boxB R gs q.1 q.2.1) q.1) (yE (boxB R gs q.1 q.2.2) q.1)).2 * (ptd (farG (boxB R gs q.1 q.2.1) q.1) (yE (boxB R gs q.1 q.2.2) q.1)).2+(boxB R gs q.1 q.2.1).sp (1 - q.1) * (boxB R gs q.1 q.2.1).sp (1 - q.1)):=mg_with hd
theorem oth_mg (hd:q.1<=1):mgB (othP R gs q)=(((boxB R gs q.1 q.2.2).m.getD 1:Int):Rat) * ((ptd (yE (boxB R gs q.1 q.2.2) q.1) (farG (boxB R gs q.1 q.2.1) q.1)).2 * (ptd (yE (boxB R gs q.1 q.2.2) q.1) (farG (boxB R gs q.1 q.2.1) q.1)).2+(boxB R gs q.1 q.2.2).sp (1 - q.1) * (boxB R gs q.1 q.2.2).sp (1 - q.1)):=mg_with hd
theorem ptd_none {a b:Rat × Rat × Option Int} (h:b.2.2=none):(ptd a b).2=-a.2.1:=by
 obtain ⟨b1,b2,b3⟩:=b
 cases h
 rfl
theorem ptd_some {a b:Rat × Rat × Option Int} {u:Int} (h:b.2.2=some u):(ptd a b).2=mixQ a.2.1 b.2.1 (a.2.2.getD 1) u:=by
 obtain ⟨b1,b2,b3⟩:=b
 cases h
 rfl
theorem box_bx {d:Nat} {i:Int} (i0:0<=i):boxB R gs d i=bxAt gs i.toNat:=by
 unfold boxB
 rw [if_pos i0]
theorem prt_might (h:InP gs.length q) (hw:WtB gs):mgt (prtP R gs q)=mgt gs:=by
 have hd:=h.1
 by_cases c1:0<=q.2.1
 ·have l1:=h.l1 c1
  obtain ⟨m,em,m1,_⟩:=jp (R:=R) (d:=q.1) hw c1 l1
  have e1:=box_bx (R:=R) (gs:=gs) (d:=q.1) c1
  have pA:prtA R gs q=gs.set q.2.1.toNat (oneP R gs q):=by unfold prtA; rw [if_pos c1]; rfl
  have sA:mgt (prtA R gs q)=mgt gs - mgB (boxB R gs q.1 q.2.1)+mgB (oneP R gs q):=by rw [pA,mg_set l1,e1]
  by_cases c2:0<=q.2.2
  ·have l2:=h.l2 c2
   obtain ⟨u,eu,u1,_⟩:=jp (R:=R) (d:=q.1) hw c2 l2
   have e2:=box_bx (R:=R) (gs:=gs) (d:=q.1) c2
   have ne:q.2.2.toNat≠q.2.1.toNat:=by have:=h.2.2.2.1; omega
   have sP:mgt (prtP R gs q)=mgt (prtA R gs q) - mgB (boxB R gs q.1 q.2.2)+mgB (othP R gs q):=by
    have:prtP R gs q=(prtA R gs q).set q.2.2.toNat (othP R gs q):=by unfold prtP; rw [if_pos c2]; rfl
    rw [this,mg_set (by rw [ZT]; exact l2),e2,pA,set_at _ _ _ _ l1,if_neg ne]
   rw [sP,sA,one_mg hd,oth_mg hd,ptd_some (u:=u) (show (yE (boxB R gs q.1 q.2.2) q.1).2.2=some u from eu),ptd_some (u:=m) (show (farG (boxB R gs q.1 q.2.1) q.1).2.2=some m from em),mg_sp (boxB R gs q.1 q.2.1) hd,mg_sp (boxB R gs q.1 q.2.2) hd]
   have k:=mix_mt ((boxB R gs q.1 q.2.1).sp q.1) ((boxB R gs q.1 q.2.2).sp q.1) m1 u1
   have x1:mixQ (farG (boxB R gs q.1 q.2.1) q.1).2.1 (yE (boxB R gs q.1 q.2.2) q.1).2.1 ((farG (boxB R gs q.1 q.2.1) q.1).2.2.getD 1) u=mixQ ((boxB R gs q.1 q.2.1).sp q.1) ((boxB R gs q.1 q.2.2).sp q.1) m u:=by
    show mixQ _ _ ((boxB R gs q.1 q.2.1).m.getD 1) u=_
    rw [em]
    rfl
   have x2:mixQ (yE (boxB R gs q.1 q.2.2) q.1).2.1 (farG (boxB R gs q.1 q.2.1) q.1).2.1 ((yE (boxB R gs q.1 q.2.2) q.1).2.2.getD 1) m=mixQ ((boxB R gs q.1 q.2.2).sp q.1) ((boxB R gs q.1 q.2.1).sp q.1) u m:=by
    show mixQ _ _ ((boxB R gs q.1 q.2.2).m.getD 1) m=_
    rw [eu]
    rfl
   have g1:(boxB R gs q.1 q.2.1).m.getD 1=m:=by rw [em]; rfl
   have g2:(boxB R gs q.1 q.2.2).m.getD 1=u:=by rw [eu]; rfl
   rw [x1,x2,g1,g2]
   generalize mixQ ((boxB R gs q.1 q.2.1).sp q.1) ((boxB R gs q.1 q.2.2).sp q.1) m u=x at k ⊢
   generalize mixQ ((boxB R gs q.1 q.2.2).sp q.1) ((boxB R gs q.1 q.2.1).sp q.1) u m=y at k ⊢
   generalize (boxB R gs q.1 q.2.1).sp q.1=v at k ⊢
   generalize (boxB R gs q.1 q.2.2).sp q.1=w at k ⊢
   generalize (boxB R gs q.1 q.2.1).sp (1 - q.1)=v'
   generalize (boxB R gs q.1 q.2.2).sp (1 - q.1)=w'
   clear x1 x2 g1 g2 em eu
   grind
  ·have sP:prtP R gs q=prtA R gs q:=by unfold prtP; rw [if_neg c2]
   rw [sP,sA,one_mg hd,ptd_none (show (yE (boxB R gs q.1 q.2.2) q.1).2.2=none from Jk c2),mg_sp (boxB R gs q.1 q.2.1) hd]
   show mgt gs - _+(_ * (-(boxB R gs q.1 q.2.1).sp q.1 * -(boxB R gs q.1 q.2.1).sp q.1+_))=mgt gs
   grind
 ·have c2:0<=q.2.2:=by rcases h.2.2.2.2 with z|z<;>first|exact absurd z c1|exact z
  have l2:=h.l2 c2
  have e2:=box_bx (R:=R) (gs:=gs) (d:=q.1) c2
  have pA:prtA R gs q=gs:=by unfold prtA; rw [if_neg c1]
  have sP:mgt (prtP R gs q)=mgt gs - mgB (boxB R gs q.1 q.2.2)+mgB (othP R gs q):=by
   have:prtP R gs q=(prtA R gs q).set q.2.2.toNat (othP R gs q):=by unfold prtP; rw [if_pos c2]; rfl
   rw [this,pA,mg_set l2,e2]
  rw [sP,oth_mg hd,ptd_none (show (farG (boxB R gs q.1 q.2.1) q.1).2.2=none from Jk c1),mg_sp (boxB R gs q.1 q.2.2) hd]
  show mgt gs - _+(_ * (-(boxB R gs q.1 q.2.2).sp q.1 * -(boxB R gs q.1 q.2.2).sp q.1+_))=mgt gs
  grind
theorem JX:∀ (l:List Pr) {gs:List Bq},(∀ q∈l,InP gs.length q)->WtB gs->mgt (l.foldl (prtP R) gs)=mgt gs
 |[],_,_,_=>rfl
 |q::l,gs,hl,hw=>by
  have hq:=hl q (List.mem_cons_self ..)
  rw [List.foldl_cons,JX l (fun r hr=>by rw [yr]; exact hl r (List.mem_cons_of_mem _ hr)) (prt_wt hw hq),prt_might hq hw]
end
theorem CmP.up {B B':Nat} {R:Rat × Rat} {gs:List Bq} (h:CmP B R gs) (l:B<=B'):CmP B' R gs:=by
 obtain ⟨D,d1,d2,r1,r2,al⟩:=h
 have p:2 ^ B<=2 ^ B':=Nat.pow_le_pow_right (by decide) l
 refine ⟨D,d1,by omega,r1.mono l,r2.mono l,fun b hb=>?_⟩
 obtain ⟨a1,a2,a3,a4,a5,a6⟩:=al b hb
 exact ⟨a1.mono l,a2.mono l,a3.mono l,a4.mono l,a5.mono l,a6.mono l⟩
structure AllP (R:Rat × Rat) (gs:List Bq) (now:Rat) (B:Nat) (es:List Bq) (last:Rat):Prop where
 gd:GdT R es last
 wt:WtB es
 cm:CmP B R es
 mg:mgt es=mgt gs
 le:now<=last
 ln:es.length=gs.length
 sz:∀ i,(∀ d,d<=1->(bxAt es i).sz d=(bxAt gs i).sz d)/\(bxAt es i).m=(bxAt gs i).m
 fb:last=now∨FB (B+2) last
theorem on_all {R:Rat × Rat} {gs:List Bq} {now t:Rat} {B:Nat} (r1:0 < R.1) (r2:0 < R.2) (l6:gs.length<=6) (hw:WtB gs) (cm:CmP B R gs) (g:GdT R gs now) (h:comP R gs now=some t) (c:crwP R gs now=false):AllP R gs now (B+90) (onP R gs now) t:=by
 have cg:=JW h
 have two:twoP (dueP R gs now)=false:=by
  unfold crwP at c
  rw [Bool.or_eq_false_iff] at c
  exact c.1
 have six:=due_six l6 two
 have fc:=YA (dueP R gs now) cm hw jj
 have ps:=on_keep h hw
 refine ⟨gd_pos ps (gd_stay r1 r2 g cg.1 (fun T e=>by rw [h] at e; cases e; exact Rat.le_refl)),fc.2,fc.1.up (by omega),JX _ jj hw,cg.1,ps.1,fun i=>⟨fun d hd=>((ps.2 i).1 d hd).2,(ps.2 i).2⟩,.inr ?_⟩
 obtain ⟨_,p,_,j,_⟩:=cg
 exact (cm.jnt j).mono (by omega)
theorem run_all {R:Rat × Rat} {gs:List Bq} {now:Rat} {n:Nat} {wd:String} {ms:List (Rat × Pr)} {es:List Bq} {last:Rat} (r:RunP R gs now n wd ms es last) (r1:0 < R.1) (r2:0 < R.2):∀ {B:Nat},gs.length<=6->WtB gs->CmP B R gs->GdT R gs now->AllP R gs now (B+90 * n) es last:=by
 induction r with
 |still h=>exact fun l6 hw cm g=>⟨g,hw,cm.up (by omega),rfl,Rat.le_refl,rfl,fun i=>⟨fun _ _=>rfl,rfl⟩,.inl rfl⟩
 |more h=>exact fun l6 hw cm g=>⟨g,hw,cm.up (by omega),rfl,Rat.le_refl,rfl,fun i=>⟨fun _ _=>rfl,rfl⟩,.inl rfl⟩
 |crowd h c=>exact fun l6 hw cm g=>⟨g,hw,cm.up (by omega),rfl,Rat.le_refl,rfl,fun i=>⟨fun _ _=>rfl,rfl⟩,.inl rfl⟩
 |@step gs now t n wd ms es last h c r ih=>
  intro B l6 hw cm g
  have a:=on_all r1 r2 l6 hw cm g h c
  have z:=ih (B:=B+90) (by rw [a.ln]; exact l6) a.wt a.cm a.gd
  refine ⟨z.gd,z.wt,z.cm.up (by omega),z.mg.trans a.mg,Rat.le_trans a.le z.le,z.ln.trans a.ln,fun i=>⟨fun d hd=>((z.sz i).1 d hd).trans ((a.sz i).1 d hd),(z.sz i).2.trans (a.sz i).2⟩,?_⟩
  rcases z.fb with e|e
  ·rw [e]
   rcases a.fb with y|y
   ·exact .inl y
   ·exact .inr (y.mono (by omega))
  ·exact .inr (e.mono (by omega))
theorem run_more {R:Rat × Rat} {gs:List Bq} {now:Rat} {n:Nat} {wd:String} {ms:List (Rat × Pr)} {es:List Bq} {last:Rat} (r:RunP R gs now n wd ms es last):∀ {wd':String} {ms':List (Rat × Pr)} {es':List Bq} {last':Rat},RunP R gs now (n+1) wd' ms' es' last'->
  (ms'=ms/\es'=es/\last'=last)∨(comP R es last=some last'/\crwP R es last=false/\ms'=ms++mtsP R es last/\es'=onP R es last):=by
 induction r with
 |still h=>
  intro wd' ms' es' last' r'
  cases r' with
  |still h'=>exact .inl ⟨rfl,rfl,rfl⟩
  |crowd h' c'=>rw [h] at h'; cases h'
  |step h' c' r'=>rw [h] at h'; cases h'
 |more h=>
  intro wd' ms' es' last' r'
  cases r' with
  |still h'=>rw [h] at h'; cases h'
  |crowd h' c'=>exact .inl ⟨rfl,rfl,rfl⟩
  |step h' c' r'=>
   cases r' with
   |still=>exact .inr ⟨h',c',by simp,rfl⟩
   |more=>exact .inr ⟨h',c',by simp,rfl⟩
 |crowd h c=>
  intro wd' ms' es' last' r'
  cases r' with
  |still h'=>rw [h] at h'; cases h'
  |crowd h' c'=>exact .inl ⟨rfl,rfl,rfl⟩
  |step h' c' r'=>rw [c] at c'; cases c'
 |step h c r ih=>
  intro wd' ms' es' last' r'
  cases r' with
  |still h'=>rw [h] at h'; cases h'
  |crowd h' c'=>rw [c] at c'; cases c'
  |step h' c' r'=>
   rw [h] at h'
   cases h'
   rcases ih r' with ⟨e1,e2,e3⟩|⟨e1,e2,e3,e4⟩
   ·exact .inl ⟨by rw [e1],e2,e3⟩
   ·exact .inr ⟨e1,e2,by rw [e3,List.append_assoc],e4⟩
theorem gd_start {R:Rat × Rat} {gs:List Bq} (h:GdP R gs):GdT R gs 0:=⟨fun b hb=>by rw [J4]; exact h.al b hb,by rw [ats_nought]; exact h.ap⟩
theorem next_all {R:Rat × Rat} {es:List Bq} {last last':Rat} (r1:0 < R.1) (r2:0 < R.2) (g:GdT R es last) (h:comP R es last=some last'):GdT R es (last+(last' - last) / 2):=by
 have cg:=JW h
 have l:=cg.1
 refine gd_stay r1 r2 g (by grind) (fun T e=>?_)
 rw [h] at e
 cases e
 grind
theorem iteTz {c:Bool} {A B:Prop} (h:c=true) (q:A):if c=true then A else B:=by
 subst h
 exact iteT q
theorem Rt.mul {D B:Nat} {x y:Rat} (h:Rt D B x) (g:Rt D B y) (d1:1<=D):Rt (D * D) (2 * B) (x * y):=by
 obtain ⟨n,e,b⟩:=h
 obtain ⟨m,f,c⟩:=g
 have p:2 ^ (2 * B)=2 ^ B * 2 ^ B:=by rw [<- Nat.pow_add]; congr 1; omega
 refine ⟨n * m,?_,?_⟩
 ·have D0:=Z6 d1
  have e1:((D * D:Nat):Rat)=(D:Rat) * (D:Rat):=by rw [Rat.natCast_mul]
  rw [e,f,e1,Rat.intCast_mul,Rat.div_def,Rat.div_def,Rat.div_def,inv_two D0 D0]
  grind
 ·rw [Int.natAbs_mul,p]
  exact Nat.lt_of_le_of_lt (Nat.mul_le_mul_right _ (Nat.le_of_lt b)) (Nat.mul_lt_mul_of_pos_left c (Nat.two_pow_pos B))
theorem Rt.wt {D B:Nat} {x:Rat} {m:Int} (h:Rt D B x) (m1:1<=m) (m2:m<=1000):Rt D (B+10) ((m:Rat) * x):=by
 obtain ⟨n,e,b⟩:=h
 have p:2 ^ (B+10)=2 ^ B * 1024:=Nat.pow_add ..
 refine ⟨m * n,?_,?_⟩
 ·rw [e,Rat.intCast_mul,Rat.div_def,Rat.div_def]
  grind
 ·rw [Int.natAbs_mul]
  have:m.natAbs<=1000:=by omega
  have:=Nat.mul_le_mul_right n.natAbs this
  omega
theorem mg_rt {D B:Nat} {b:Bq} (d1:1<=D) (hm:∃ m:Int,b.m=some m/\1<=m/\m<=1000) (h:RtB D B b):Rt (D * D) (2 * B+11) (mgB b):=by
 obtain ⟨m,e,m1,m2⟩:=hm
 unfold mgB
 rw [e]
 have z:=((h.2.2.2.2.1.mul h.2.2.2.2.1 d1).add (h.2.2.2.2.2.mul h.2.2.2.2.2 d1)).wt m1 m2
 exact z
theorem mgt_snoc {gs:List Bq} {i:Nat} {b:Bq} (h:gs[i]?=some b):mgt (gs.take (i+1))=mgt (gs.take i)+mgB b:=by
 unfold mgt
 rw [zZ h,List.map_append]
 exact sumQ_snoc _ _
theorem mgt_rt {D B:Nat} {gs:List Bq} (d1:1<=D) (hw:WtB gs) (h:∀ b∈gs,RtB D B b):∀ i,i<=gs.length->Rt (D * D) (2 * B+11+i) (mgt (gs.take i))
 |0,_=>⟨0,by rw [show mgt (gs.take 0)=0 from rfl]; grind,by exact Nat.two_pow_pos _⟩
 |i+1,hi=>by
  have z:=mgt_rt d1 hw h i (by omega)
  have e:gs[i]?=some gs[i]:=List.getElem?_eq_getElem (by omega)
  have mem:gs[i]∈gs:=List.getElem_mem (by omega)
  rw [mgt_snoc e]
  exact z.add ((mg_rt d1 (hw _ mem) (h _ mem)).mono (by omega))
theorem mgt_fb {B:Nat} {R:Rat × Rat} {gs:List Bq} (cm:CmP B R gs) (hw:WtB gs) (l6:gs.length<=6) (i:Nat) (hi:i<=gs.length):FB (2 * B+17) (mgt (gs.take i)):=by
 obtain ⟨D,d1,d2,_,_,al⟩:=cm
 have p:2 ^ (2 * B+17)=2 ^ B * 2 ^ B * 131072:=by
  rw [Nat.pow_add,show 2 * B=B+B by omega,Nat.pow_add]
 have dd:D * D < 2 ^ (2 * B+17):=by
  have:=Nat.mul_lt_mul_of_lt_of_lt d2 d2
  omega
 exact ((mgt_rt d1 hw al i hi).mono (by omega)).fb (Nat.mul_pos d1 d1) dd
theorem cm_fb {B:Nat} {R:Rat × Rat} {gs:List Bq} (cm:CmP B R gs) {b:Bq} (hb:b∈gs):FB B b.x/\FB B b.y/\FB B b.w/\FB B b.h/\FB B b.u/\FB B b.v:=by
 obtain ⟨D,d1,d2,_,_,al⟩:=cm
 obtain ⟨a1,a2,a3,a4,a5,a6⟩:=al b hb
 exact ⟨a1.fb d1 d2,a2.fb d1 d2,a3.fb d1 d2,a4.fb d1 d2,a5.fb d1 d2,a6.fb d1 d2⟩
theorem fb_nought:FB 1 (0:Rat):=⟨by show Bd 1 0; unfold Bd; decide,by show Bd 1 1; unfold Bd; decide⟩
theorem AllP.last {R:Rat × Rat} {gs es:List Bq} {B:Nat} {last:Rat} (h:AllP R gs 0 B es last):FB (B+2) last:=by
 rcases h.fb with e|e
 ·rw [e]
  exact fb_nought.mono (by omega)
 ·exact e
theorem AllP.at {R:Rat × Rat} {gs es:List Bq} {B:Nat} {last:Rat} (h:AllP R gs 0 B es last):∀ b∈es.map (atB last),FB (3 * B+3) b.x/\FB (3 * B+3) b.y/\FB B b.u/\FB B b.v:=by
 intro b hb
 obtain ⟨c,hc,rfl⟩:=List.mem_map.mp hb
 obtain ⟨a1,a2,a3,a4,a5,a6⟩:=cm_fb h.cm hc
 exact ⟨(a1.add (a5.mul h.last)).mono (by omega),(a2.add (a6.mul h.last)).mono (by omega),a5,a6⟩
theorem fb_half {B:Nat} {x y:Rat} (h:FB (B+2) x) (g:FB (B+2) y):FB (2 * B+7) ((x - y) / ((2:Int):Rat)):=by
 have two:FB 2 ((2:Int):Rat):=⟨by show Bd 2 2; unfold Bd; decide,by show Bd 2 1; unfold Bd; decide⟩
 exact (FB.div (h.sub g) two (by decide)).mono (by omega)
theorem bqs_fb {K:PySem.W.Frag} {H:Hp} {N M:Nat}:∀ {vs:List V} {bs:List Bq},Al2 (BqH K N H) vs bs->(∀ b∈bs,FB M b.x/\FB M b.y)->Al2 (BqH K M H) vs bs
 |[],[],_,_=>trivial
 |_::_,b::_,z,h=>by
  obtain ⟨⟨p,a0,a1,a2,a3,a4,a5,e,h1,g,⟨d0,d1,d⟩,w⟩,r⟩:=z
  exact ⟨⟨p,a0,a1,a2,a3,a4,a5,e,h1,g,⟨(h b (List.mem_cons_self ..)).1,(h b (List.mem_cons_self ..)).2,d⟩,w⟩,bqs_fb r fun c hc=>h c (List.mem_cons_of_mem _ hc)⟩
 |[],_::_,z,_=>z.elim
 |_::_,[],z,_=>z.elim
theorem at_at (s t:Rat) (b:Bq):atB t (atB s b)=atB (s+t) b:=by
 unfold atB
 congr 1
 ·show b.x+b.u * s+b.u * t=b.x+b.u * (s+t)
  grind
 ·show b.y+b.v * s+b.v * t=b.y+b.v * (s+t)
  grind
theorem ats_at (s t:Rat) (bs:List Bq):(bs.map (atB s)).map (atB t)=bs.map (atB (s+t)):=by
 rw [List.map_map]
 exact List.map_congr_left fun b _=>at_at s t b
theorem mgt_at (s:Rat) (bs:List Bq):mgt (bs.map (atB s))=mgt bs:=by
 unfold mgt
 rw [List.map_map]
 rfl
theorem mgt_take (s:Rat) (bs:List Bq) (i:Nat):mgt ((bs.map (atB s)).take i)=mgt (bs.take i):=by
 rw [<- List.map_take,mgt_at]
theorem AllP.wtA {R:Rat × Rat} {gs es:List Bq} {B:Nat} {last:Rat} (h:AllP R gs 0 B es last):WtB (es.map (atB last)):=fun b hb=>by
 obtain ⟨c,hc,rfl⟩:=List.mem_map.mp hb
 exact h.wt c hc
noncomputable def szD (b:Bq):PyData:=.tuple [frD b.w,frD b.h,wtD b.m]
theorem AllP.szs {R:Rat × Rat} {gs es:List Bq} {B:Nat} {last:Rat} (h:AllP R gs 0 B es last):(es.map (atB last)).map szD=gs.map szD:=by
 refine List.ext_getElem (by simp [h.ln]) fun i h1 h2=>?_
 simp only [List.length_map] at h1 h2
 obtain ⟨z,m⟩:=h.sz i
 have e1:bxAt es i=es[i]:=yX (List.getElem?_eq_getElem h1)
 have e2:bxAt gs i=gs[i]:=yX (List.getElem?_eq_getElem h2)
 have z0:=z 0 (by decide)
 have z1:=z 1 (by decide)
 rw [e1,e2] at z0 z1 m
 replace z0:es[i].w=gs[i].w:=z0
 replace z1:es[i].h=gs[i].h:=z1
 rw [List.getElem_map,List.getElem_map,List.getElem_map]
 unfold szD
 show PyData.tuple [frD es[i].w,frD es[i].h,wtD es[i].m]=_
 rw [z0,z1,m]
noncomputable def SzH (K:PySem.W.Frag) (H:Hp) (v:V) (b:Bq):Prop:=∃ p a2 a3:Addr,v=.ref p/\SqT K H p [.ref a2,.ref a3,wV b.m]/\FQ K H a2 b.w/\FQ K H a3 b.h
theorem ZX {K:PySem.W.Frag} {H H':Hp} {vs:List V} {bs:List Bq} (h:Al2 (SzH K H) vs bs) (s:Same H H'):Al2 (SzH K H') vs bs:=Al2.imp (fun _ _ ⟨p,a2,a3,e,h1,h2,h3⟩=>⟨p,a2,a3,e,Kw.Same.tup s h1,Kw.Same.tup s h2,Kw.Same.tup s h3⟩) h
theorem szs_dp {K:PySem.W.Frag} {H:Hp}:∀ {vs:List V} {bs:List Bq},Al2 (SzH K H) vs bs->Dps K H vs (bs.map szD)
 |[],[],_=>.nil
 |_::_,_::_,z=>by
  obtain ⟨⟨p,a2,a3,rfl,h1,h2,h3⟩,r⟩:=z
  exact .cons (.tup h1 (.cons h2.dp (.cons h3.dp (.cons (wtD_dp _) .nil)))) (szs_dp r)
 |[],_::_,z=>z.elim
 |_::_,[],z=>z.elim
theorem sz_lay (b:Bq):PyData.canLay0 (szD b)=true/\PyData.depth (szD b)=2:=by
 unfold szD
 cases b.m<;>exact ⟨rfl,rfl⟩
theorem szs_lay:∀ bs:List Bq,PyData.canLayAll0 (bs.map szD)=true/\PyData.depthAll (bs.map szD)<=2
 |[]=>⟨rfl,Nat.zero_le _⟩
 |b::bs=>by
  obtain ⟨h1,h2⟩:=sz_lay b
  obtain ⟨h3,h4⟩:=szs_lay bs
  refine ⟨?_,?_⟩
  ·show (PyData.canLay0 (szD b) && PyData.canLayAll0 (bs.map szD))=true
   rw [h1,h3]
   rfl
  ·show max (PyData.depth (szD b)) (PyData.depthAll (bs.map szD))<=2
   omega
theorem szs_ok (bs:List Bq):(PyData.list (bs.map szD)).canLay0=true/\Nat.ble (PyData.list (bs.map szD)).depth 60=true:=by
 refine ⟨(szs_lay bs).1,Nat.ble_eq_true_of_le ?_⟩
 have:=(szs_lay bs).2
 show PyData.depthAll (bs.map szD)+1<=60
 omega
theorem Yn (ms:List (Rat × Pr)):(PyData.list (ms.map mpD)).canLay0=true/\Nat.ble (PyData.list (ms.map mpD)).depth 60=true:=by
 refine ⟨mps_lay ms,Nat.ble_eq_true_of_le ?_⟩
 have:=mps_deep ms
 show PyData.depthAll (ms.map mpD)+1<=60
 omega
theorem tel_ok (bs:List Bq) (q:Rat):(PyData.tuple [.list (bs.map bqD),frD q]).canLay0=true/\Nat.ble (PyData.tuple [.list (bs.map bqD),frD q]).depth 60=true:=by
 constructor
 ·show (PyData.canLayAll0 (bs.map bqD) && (PyData.canLay0 (frD q) && true))=true
  rw [bqs_lay]
  rfl
 ·refine Nat.ble_eq_true_of_le ?_
  have:=bqs_deep bs
  have e:(PyData.tuple [.list (bs.map bqD),frD q]).depth=max (PyData.depthAll (bs.map bqD)+1) (max 1 0)+1:=rfl
  omega
theorem num_ge {x:Rat} (h:0<=x):¬ x.num < 0:=by
 have:=Rat.num_nonneg.mpr h
 omega
theorem app_at {bs:List Bq} (h:App bs) {i j:Nat} {a b:Bq} (hi:bs[i]?=some a) (hj:bs[j]?=some b) (ji:j < i):(!(hicB a b 0 && hicB a b 1))=true:=by
 have il:=(List.getElem?_eq_some_iff.mp hi).1
 have z:=h j i ji il
 rw [yX hi,yX hj,jx,jx b a 1] at z
 rw [z]
 rfl
end Kw
namespace Prf
open PySem PySem.Spec PyProof.Rows L2 Kw
noncomputable def top (i:Nat):Stmt:=PySem.Challenge.pw_knockwright_k76_whole_boxes_stay_apart.main.body.getD i (.Pass ⟨0,0,0,0⟩)
structure Tx (K:PySem.W.Frag) (mg:Str->Option Value) (C:Nat->Addr):Prop where
 b_isinstance:mg "isinstance"=none
 b_int:mg "int"=none
 b_bool:mg "bool"=none
 b_tuple:mg "tuple"=none
 b_list:mg "list"=none
 b_abs:mg "abs"=none
 b_len:mg "len"=none
 b_divmod:mg "divmod"=none
 b_range:mg "range"=none
 b_max:mg "max"=none
 b_min:mg "min"=none
 b_all:mg "all"=none
 b_any:mg "any"=none
 b_enumerate:mg "enumerate"=none
 b_set:mg "set"=none
 c_Plane:mg "Plane"=some (.ref (C 0))
 cl_Plane:Cls K (C 0)
 mk_Plane:PySem.W.makesIn K (C 0)=true
 kp_Plane:PySem.W.keepIn K (.ref (C 0))=true
 n_Plane_walls:yj K (C 0) "walls"
 n_Plane_goings:yj K (C 0) "goings"
 n_Plane_now:yj K (C 0) "now"
 n_Plane_gone_through:yj K (C 0) "gone_through"
 n_Plane_joints:yj K (C 0) "joints"
 n_Plane_coming:yj K (C 0) "coming"
 n_Plane_due:yj K (C 0) "due"
 k_LONG_BITS:∃ t,mg "LONG_BITS"=some (.int 4000 t)
 k_NOUGHT:∃ N,mg "NOUGHT"=some (.ref N)∧∀ H,SqT K H N [.int 0,.int 1]
 k_ACROSS:∃ t,mg "ACROSS"=some (.int 0 t)
 k_ALONG:∃ t,mg "ALONG"=some (.int 1 t)
 k_SIZES:∃ t,mg "SIZES"=some (.int 2 t)
 k_SPEEDS:∃ t,mg "SPEEDS"=some (.int 4 t)
 k_ALL:∃ N,mg "ALL"=some (.ref N)∧∀ H,SqT K H N [.int 1,.int 1]
 k_WORDS:∃ N,mg "WORDS"=some (.ref N)∧∀ H,SqT K H N ((["across","along"]:List String).map strV)
 k_NEAR_WALL:∃ t,mg "NEAR_WALL"=some (.int (-1) t)
 k_FAR_WALL:∃ t,mg "FAR_WALL"=some (.int (-2) t)
 k_MOST_WEIGHT:∃ t,mg "MOST_WEIGHT"=some (.int 1000 t)
 k_MOST_BOXES:∃ t,mg "MOST_BOXES"=some (.int 6 t)
 k_MOST_MOMENTS:∃ t,mg "MOST_MOMENTS"=some (.int 40 t)
section
variable {P:Program} {w:World} {K:PySem.W.Frag} {mg:Str->Option Value} {base:Heap} {C:Nat->Addr}
theorem sc_is_whole:FnScope ["thing"] ["thing"] (zD (top 9)):=⟨rfl,rfl,rfl,by decide+kernel,rfl,by decide+kernel,by decide+kernel⟩
theorem ok_is_whole (D:Df K mg "is_whole" (top 9) ["thing"]) (T:Tx K mg C):Fn P w K mg base 1 "is_whole" ["thing"] (Yf K):=by
 refine D.ok0 sc_is_whole (fun vs H Q E h=>?_) (fun f cdv A outer s H vs Q E hr h=>?_)
 ·obtain ⟨x,t,b1,b2,rfl,_⟩:=h
  rfl
 obtain ⟨x,t,b1,b2,rfl,ty,k1,k2,q⟩:=h
 refine ⟨_,(zG (zL (yZ (zW jX (by rfl) T.b_isinstance PyProof.Rows.Boot.«isinstance» (zA (pv 0) (zA (Yx (by rfl) T.b_int PyProof.Rows.Boot.«int») zC))) (yP (pe_not (zW jX (by rfl) T.b_isinstance PyProof.Rows.Boot.«isinstance» (zA (pv 0) (zA (Yx (by rfl) T.b_bool PyProof.Rows.Boot.«bool») zC)))))))),?_⟩
 refine ⟨_,rfl,x,_,b1,rfl,.inl ⟨_,rfl⟩,⟨t,ty,k1⟩,b1,rfl,?_⟩
 cases b1 with
 |false=>exact iteF q
 |true=>exact iteT ⟨_,rfl,x,_,b2,rfl,.inl ⟨_,rfl⟩,⟨t,ty,k2⟩,b2,rfl,q⟩
theorem zn:FnScope ["one","other","great","small","steps","rest"] ["one","other"] (zD (top 11)):=⟨rfl,rfl,rfl,by decide+kernel,rfl,by decide+kernel,by decide+kernel⟩
theorem ok_common_divisor (D:Df K mg "common_divisor" (top 11) ["one","other"]) (T:Tx K mg C):Fn P w K mg base 1 "common_divisor" ["one","other"] JT:=by
 refine D.ok0 zn (fun vs H Q E h=>?_) (fun f cdv A outer s H vs Q E hr h=>?_)
 ·obtain ⟨a,b,rfl,_⟩:=h
  rfl
 obtain ⟨a,b,rfl,hb,q⟩:=h
 refine ⟨_,(zE (zM (i:=2) zn.nd rfl (Or.inl rfl) (zW Yb (by rfl) T.b_abs PyProof.Rows.Boot.«abs» (zA (pv 0) zC)))
   (zE (zM (i:=3) zn.nd rfl (Or.inl rfl) (zW Yb (by rfl) T.b_abs PyProof.Rows.Boot.«abs» (zA (pv 1) zC)))
   (zE (Z8 PassesOwn.never (zR op_gt (pe_bm0 PySem.F.plainAttrs_int PySem.F.slot_int_bit_length PySem.F.type_int_bit_length mt_bits (zW (call_min2 rfl) (by rfl) T.b_min PyProof.Rows.Boot.«min» (zA (pv 2) (zA (pv 3) zC)))) (zX (by rfl) T.k_LONG_BITS) (zT _)) pss_never)
   (zE (Z8 PassesOwn.never (zR op_gt (pv 3) zB (zT _)) (zE (zM (i:=5) zn.nd rfl (Or.inl rfl) (zN Jm (pv 2) (pv 3)))
   (zE (zM (i:=2) zn.nd rfl (Or.inl rfl) (pv 3))
   (zG (zM (i:=3) zn.nd rfl (Or.inl rfl) (pv 5))))))
   (zG (zL (pv 2))))))),?_⟩
 refine ⟨_,rfl,_,rfl,_,rfl,_,rfl,?_⟩
 refine ⟨fun m σ' H'=>∃ r1 r2:Option V,σ'=[some (.int a),some (.int b),some (.int (if a < 0 then -a else a)),some (.int (if b < 0 then -b else b)),r1,r2]/\H'=H,⟨0,_,_,rfl,rfl⟩,?_⟩
 rintro m σ' H' ⟨r1,r2,rfl,rfl⟩
 refine ⟨_,rfl,_,rfl,_,_,rfl,rfl,_,rfl,rfl,_,_,rfl,rfl,_,rfl,?_⟩
 refine zc (fun c=>absurd c (short_min hb)) (fun _=>?_)
 refine ⟨fun m σ' H2=>∃ g s:Int,∃ r1 r2:Option V,σ'=[some (.int a),some (.int b),some (.int g),some (.int s),r1,r2]/\H2=H'/\0<=g/\0<=s/\m=s.toNat/\Int.gcd g s=Int.gcd a b,⟨_,_,_,_,_,rfl,rfl,abs_nn a,abs_nn b,rfl,gcd_abs a b⟩,?_⟩
 rintro m σ' H2 ⟨g,s,r1,r2,rfl,rfl,hg,hs,rfl,e⟩
 refine ⟨_,rfl,_,_,rfl,rfl,_,rfl,?_⟩
 refine zc (fun c=>?_) (fun c=>?_)
 ·refine ⟨_,fun _ _ n=>n,?_⟩
  refine ⟨_,rfl,_,rfl,_,_,rfl,rfl,c,_,rfl,_,rfl,?_⟩
  have l:=Int.emod_lt_of_pos g c
  have l0:=Int.emod_nonneg g (show s≠0 by omega)
  exact ⟨_,by omega,s,g % s,_,_,rfl,rfl,by omega,l0,rfl,(gcd_step g s hg c).trans e⟩
 ·refine ⟨_,rfl,?_⟩
  have s0:s=0:=by omega
  subst s0
  have z:=gcd_end g hg
  rw [e] at z
  rw [<- z]
  exact q
noncomputable def Y0 (K:PySem.W.Frag):Sp:=fun vs H Q _=>∃ (a:Int) (b:Int),vs=[.int a,.int b]/\Bd 4000 b/\b≠0/\(∀ (p_r:Addr) (H1:Hp),Same H H1->FQ K H1 p_r (Rat.divInt a b)->Q (.ref p_r) H1)
theorem Ze:FnScope ["top","bottom","divisor"] ["top","bottom"] (zD (top 13)):=⟨rfl,rfl,rfl,by decide+kernel,rfl,by decide+kernel,by decide+kernel⟩
theorem ok_fraction (D:Df K mg "fraction" (top 13) ["top","bottom"]) (T:Tx K mg C) (F_is_whole:Fn P w K mg base 1 "is_whole" ["thing"] (Yf K)) (F_common_divisor:Fn P w K mg base 1 "common_divisor" ["one","other"] JT) :
  Fn P w K mg base 2 "fraction" ["top","bottom"] (Y0 K):=by
 refine D.ok0 Ze (fun vs H Q E h=>?_) (fun f cdv A outer s H vs Q E hr h=>?_)
 ·obtain ⟨a,b,rfl,_⟩:=h
  rfl
 obtain ⟨a,b,rfl,hb,c,hq⟩:=h
 refine ⟨_,(zE (ze (y9 (z9 (zf (zI F_is_whole (by decide) hr (by rfl) zF (zA (pv 0) zC)) (fun _=>rfl))) (yY (z9 (zf (zI F_is_whole (by decide) hr (by rfl) zF (zA (pv 1) zC)) (fun _=>rfl))))).pt (zG y7) zS)
   (zE (ze (zR Zm (pv 1) zB (zT _)) (zG y7) zS)
   (zE (zM (i:=2) Ze.nd rfl (Or.inl rfl) (zI F_common_divisor (by decide) hr (by rfl) zF (zA (pv 0) (zA (pv 1) zC))))
   (zE (ze (zR Zy (pv 1) zB (zT _)) (zG (zM (i:=2) Ze.nd rfl (Or.inl rfl) (pe_un Yr (pv 2)))) zS)
   (zG (zL (zV (zA (zN zx (pv 0) (pv 2)) (zA (zN zx (pv 1) (pv 2)) zC))))))))),?_⟩
 refine ⟨_,rfl,_,_,true,false,rfl,.int a,yf,yR,_,rfl,?_⟩
 refine iteF ⟨_,rfl,_,_,true,false,rfl,.int b,yf,yR,_,rfl,?_⟩
 refine iteF ⟨_,rfl,rfl,_,rfl,?_⟩
 refine jK (fun z=>absurd z c) (fun _=>?_)
 refine ⟨_,rfl,_,rfl,a,b,rfl,hb,?_⟩
 have hd:(if b < 0 then -((Int.gcd a b:Nat):Int) else ((Int.gcd a b:Nat):Int))=dv a b:=rfl
 have lg:=(bd_dv (t:=a) c (hb.mono (n:=9000) (by decide))).log
 refine ⟨_,rfl,_,_,rfl,rfl,_,rfl,?_⟩
 refine zc (fun n=>?_) (fun n=>?_)
 ·rw [if_pos n] at hd
  refine ⟨_,rfl,_,rfl,?_⟩
  dsimp only
  rw [hd]
  refine ⟨_,rfl,_,rfl,_,_,rfl,rfl,⟨ZJ c,lg⟩,_,rfl,_,rfl,_,_,rfl,rfl,⟨ZJ c,lg⟩,by show 2<=sizeLine; decide,?_⟩
  exact Yt fun p H' sm hp=>hq p H' sm (FQ.fit c (SqT.of hp))
 ·rw [if_neg n] at hd
  rw [hd]
  refine ⟨_,rfl,_,rfl,_,_,rfl,rfl,⟨ZJ c,lg⟩,_,rfl,_,rfl,_,_,rfl,rfl,⟨ZJ c,lg⟩,by show 2<=sizeLine; decide,?_⟩
  exact Yt fun p H' sm hp=>hq p H' sm (FQ.fit c (SqT.of hp))
noncomputable def Zw (K:PySem.W.Frag):Sp:=fun vs H Q _=>∃ (p_x:Addr) (x:Rat) (p_y:Addr) (y:Rat),vs=[.ref p_x,.ref p_y]/\FQ K H p_x x/\FB 8900 x/\FQ K H p_y y/\FB 4000 y/\(∀ (p_r:Addr) (H1:Hp),Same H H1->FQ K H1 p_r (x+y)->Q (.ref p_r) H1)
theorem JL:FnScope ["one","other","shared","top","divisor"] ["one","other"] (zD (top 14)):=⟨rfl,rfl,rfl,by decide+kernel,rfl,by decide+kernel,by decide+kernel⟩
theorem ok_plus (D:Df K mg "plus" (top 14) ["one","other"]) (T:Tx K mg C) (F_common_divisor:Fn P w K mg base 1 "common_divisor" ["one","other"] JT):Fn P w K mg base 2 "plus" ["one","other"] (Zw K):=by
 refine D.ok0 JL (fun vs H Q E h=>?_) (fun f cdv A outer s H vs Q E hr h=>?_)
 ·obtain ⟨p,x,q,y,rfl,_⟩:=h
  rfl
 obtain ⟨p,x,q,y,rfl,hp,⟨ha,hb⟩,hq,⟨hc,hd⟩,k⟩:=h
 refine ⟨_,(zE (zM (i:=2) JL.nd rfl (Or.inl rfl) (zI F_common_divisor (by decide) hr (by rfl) zF (zA (zH ix_tup (pv 0) zB (fun _ _=>rfl)) (zA (zH ix_tup (pv 1) zB (fun _ _=>rfl)) zC))))
   (zE (zM (i:=3) JL.nd rfl (Or.inl rfl) (zN zj (zN zb (zH ix_tup (pv 0) zB (fun _ _=>rfl)) (zN zx (zH ix_tup (pv 1) zB (fun _ _=>rfl)) (pv 2))) (zN zb (zH ix_tup (pv 1) zB (fun _ _=>rfl)) (zN zx (zH ix_tup (pv 0) zB (fun _ _=>rfl)) (pv 2)))))
   (zE (zM (i:=4) JL.nd rfl (Or.inl rfl) (zI F_common_divisor (by decide) hr (by rfl) zF (zA (pv 3) (zA (pv 2) zC))))
   (zG (zL (zV (zA (zN zx (pv 3) (pv 4)) (zA (zN zb (zN zx (zH ix_tup (pv 0) zB (fun _ _=>rfl)) (pv 2)) (zN zx (zH ix_tup (pv 1) zB (fun _ _=>rfl)) (pv 4))) zC)))))))),?_⟩
 refine ⟨_,rfl,p,_,_,_,rfl,rfl,hp,rfl,_,rfl,q,_,_,_,rfl,rfl,hq,rfl,_,_,rfl,hd,?_⟩
 have g0:=gpos (a:=((x.den:Nat):Int)) (q_ne y)
 have bg:=JE (a:=((x.den:Nat):Int)) (q_ne y) hd
 have dg1:(((Int.gcd ((x.den:Nat):Int) ((y.den:Nat):Int):Nat):Int)) ∣ ((x.den:Nat):Int):=Int.gcd_dvd_left ..
 have dg2:(((Int.gcd ((x.den:Nat):Int) ((y.den:Nat):Int):Nat):Int)) ∣ ((y.den:Nat):Int):=Int.gcd_dvd_right ..
 generalize hg:((Int.gcd ((x.den:Nat):Int) ((y.den:Nat):Int):Nat):Int)=g at g0 bg dg1 dg2 ⊢
 have g1:g≠0:=by omega
 have lg:=(bg.mono (n:=9000) (by decide)).log
 have b1:=ZD hd dg2 g1
 have b2:=ZD hb dg1 g1
 refine ⟨_,rfl,p,_,_,_,rfl,rfl,hp,rfl,_,rfl,q,_,_,_,rfl,rfl,hq,rfl,_,rfl,_,_,rfl,rfl,⟨g1,lg⟩,_,_,rfl,rfl,ha.ok b1 (by decide),_,rfl,q,_,_,_,rfl,rfl,hq,rfl,_,rfl,p,_,_,_,rfl,rfl,hp,rfl,_,rfl,_,_,rfl,rfl,⟨g1,lg⟩,_,_,rfl,rfl,hc.ok b2 (by decide),_,_,rfl,rfl,?_⟩
 dsimp only
 have bt:=(ha.mul b1).add (hc.mul b2)
 generalize ht:x.num * ((y.den:Nat):Int).fdiv g+y.num * ((x.den:Nat):Int).fdiv g=t at bt ⊢
 refine ⟨_,rfl,_,rfl,_,_,rfl,bg,?_⟩
 have h0:=gpos (a:=t) g1
 have bh:=JE (a:=t) g1 bg
 have dh:((Int.gcd t g:Nat):Int) ∣ g:=Int.gcd_dvd_right ..
 generalize hh:((Int.gcd t g:Nat):Int)=h at h0 bh dh ⊢
 have h1:h≠0:=by omega
 have lh:=(bh.mono (n:=9000) (by decide)).log
 have b3:=ZD hd (Int.dvd_trans dh dg2) h1
 refine ⟨_,rfl,_,rfl,_,_,rfl,rfl,⟨h1,lh⟩,_,rfl,p,_,_,_,rfl,rfl,hp,rfl,_,rfl,_,_,rfl,rfl,⟨g1,lg⟩,_,rfl,q,_,_,_,rfl,rfl,hq,rfl,_,rfl,_,_,rfl,rfl,⟨h1,lh⟩,_,_,rfl,rfl,b2.ok b3 (by decide),by show 2<=sizeLine; decide,?_⟩
 refine Yt fun r H1 sm hr1=>k r H1 sm ?_
 obtain ⟨e1,e2⟩:=q_plus x y g t h hg.symm ht.symm hh.symm
 have z:=SqT.of (K:=K) hr1
 dsimp only at z
 rw [e1,e2] at z
 exact z
noncomputable def ZW (K:PySem.W.Frag):Sp:=fun vs H Q _=>∃ (p_x:Addr) (x:Rat) (p_y:Addr) (y:Rat),vs=[.ref p_x,.ref p_y]/\FQ K H p_x x/\FB 8900 x/\FQ K H p_y y/\FB 4000 y/\(∀ (p_r:Addr) (H1:Hp),Same H H1->FQ K H1 p_r (x - y)->Q (.ref p_r) H1)
theorem sc_minus:FnScope ["one","other"] ["one","other"] (zD (top 15)):=⟨rfl,rfl,rfl,by decide+kernel,rfl,by decide+kernel,by decide+kernel⟩
theorem ok_minus (D:Df K mg "minus" (top 15) ["one","other"]) (T:Tx K mg C) (F_plus:Fn P w K mg base 2 "plus" ["one","other"] (Zw K)):Fn P w K mg base 3 "minus" ["one","other"] (ZW K):=by
 refine D.ok0 sc_minus (fun vs H Q E h=>?_) (fun f cdv A outer s H vs Q E hr h=>?_)
 ·obtain ⟨p_x,x,p_y,y,rfl,_⟩:=h
  rfl
 obtain ⟨p_x,x,p_y,y,rfl,g_x,d_x,g_y,d_y,k0⟩:=h
 refine ⟨_,(zG (zL (zI F_plus (by decide) hr (by rfl) zF (zA (pv 0) (zA (zV (zA (pe_un Yr (zH ix_tup (pv 1) zB (fun _ _=>rfl))) (zA (zH ix_tup (pv 1) zB (fun _ _=>rfl)) zC))) zC))))),?_⟩
 refine ⟨_,rfl,_,rfl,p_y,_,_,_,rfl,rfl,g_y,rfl,_,rfl,_,rfl,p_y,_,_,_,rfl,rfl,g_y,rfl,by show 2<=sizeLine; decide,?_⟩
 intro p1 n1
 obtain ⟨H1,q1,s1,e1⟩:=newO n1 (.tup [.int ((-(y).num)),.int ((((y).den:Nat):Int))])
 rw [q1]
 clear q1
 have h1:=SqT.of (K:=K) e1
 have g1:FQ K H1 p1 (-(y)):=by exact FQ.ofNeg h1 (by omega)
 replace g_x:=(Kw.Same.tup s1 g_x)
 refine ⟨_,_,_,_,rfl,g_x,(FB.mono d_x (by decide)),g1,(FB.mono (FB.neg d_y) (by decide)),fun p_r2 H2 s2 g_r2=>?_⟩
 have d_r2:FB 12901 (x+((-(y)))):=(FB.mono (FB.add d_x (FB.neg d_y)) (by decide))
 have e3:((x+((-(y)))):Rat)=x - y:=by grind
 exact k0 _ _ (s1.trans s2) (FQ.cast g_r2 e3)
noncomputable def Z7 (K:PySem.W.Frag):Sp:=fun vs H Q _=>∃ (p_x:Addr) (x:Rat) (p_y:Addr) (y:Rat),vs=[.ref p_x,.ref p_y]/\FQ K H p_x x/\FB 4000 x/\FQ K H p_y y/\FB 4000 y/\(∀ (p_r:Addr) (H1:Hp),Same H H1->FQ K H1 p_r (x * y)->Q (.ref p_r) H1)
theorem JP:FnScope ["one","other","first","second"] ["one","other"] (zD (top 16)):=⟨rfl,rfl,rfl,by decide+kernel,rfl,by decide+kernel,by decide+kernel⟩
theorem ok_times (D:Df K mg "times" (top 16) ["one","other"]) (T:Tx K mg C) (F_common_divisor:Fn P w K mg base 1 "common_divisor" ["one","other"] JT):Fn P w K mg base 2 "times" ["one","other"] (Z7 K):=by
 refine D.ok0 JP (fun vs H Q E h=>?_) (fun f cdv A outer s H vs Q E hr h=>?_)
 ·obtain ⟨p,x,q,y,rfl,_⟩:=h
  rfl
 obtain ⟨p,x,q,y,rfl,hp,⟨ha,hb⟩,hq,⟨hc,hd⟩,k⟩:=h
 refine ⟨_,(zE (zM (i:=2) JP.nd rfl (Or.inl rfl) (zI F_common_divisor (by decide) hr (by rfl) zF (zA (zH ix_tup (pv 0) zB (fun _ _=>rfl)) (zA (zH ix_tup (pv 1) zB (fun _ _=>rfl)) zC))))
   (zE (zM (i:=3) JP.nd rfl (Or.inl rfl) (zI F_common_divisor (by decide) hr (by rfl) zF (zA (zH ix_tup (pv 1) zB (fun _ _=>rfl)) (zA (zH ix_tup (pv 0) zB (fun _ _=>rfl)) zC))))
   (zG (zL (zV (zA (zN zb (zN zx (zH ix_tup (pv 0) zB (fun _ _=>rfl)) (pv 2)) (zN zx (zH ix_tup (pv 1) zB (fun _ _=>rfl)) (pv 3))) (zA (zN zb (zN zx (zH ix_tup (pv 0) zB (fun _ _=>rfl)) (pv 3)) (zN zx (zH ix_tup (pv 1) zB (fun _ _=>rfl)) (pv 2))) zC))))))),?_⟩
 refine ⟨_,rfl,p,_,_,_,rfl,rfl,hp,rfl,_,rfl,q,_,_,_,rfl,rfl,hq,rfl,_,_,rfl,hd,?_⟩
 have f0:=gpos (a:=x.num) (q_ne y)
 have bf:=JE (a:=x.num) (q_ne y) hd
 have df1:((Int.gcd x.num ((y.den:Nat):Int):Nat):Int) ∣ x.num:=Int.gcd_dvd_left ..
 have df2:((Int.gcd x.num ((y.den:Nat):Int):Nat):Int) ∣ ((y.den:Nat):Int):=Int.gcd_dvd_right ..
 generalize hf:((Int.gcd x.num ((y.den:Nat):Int):Nat):Int)=f1 at f0 bf df1 df2 ⊢
 refine ⟨_,rfl,q,_,_,_,rfl,rfl,hq,rfl,_,rfl,p,_,_,_,rfl,rfl,hp,rfl,_,_,rfl,hb,?_⟩
 have s0:=gpos (a:=y.num) (q_ne x)
 have bs:=JE (a:=y.num) (q_ne x) hb
 have ds1:((Int.gcd y.num ((x.den:Nat):Int):Nat):Int) ∣ y.num:=Int.gcd_dvd_left ..
 have ds2:((Int.gcd y.num ((x.den:Nat):Int):Nat):Int) ∣ ((x.den:Nat):Int):=Int.gcd_dvd_right ..
 generalize hs:((Int.gcd y.num ((x.den:Nat):Int):Nat):Int)=s1 at s0 bs ds1 ds2 ⊢
 have f1':f1≠0:=by omega
 have s1':s1≠0:=by omega
 have lf:=(bf.mono (n:=9000) (by decide)).log
 have ls:=(bs.mono (n:=9000) (by decide)).log
 refine ⟨_,rfl,p,_,_,_,rfl,rfl,hp,rfl,_,rfl,_,_,rfl,rfl,⟨f1',lf⟩,_,rfl,q,_,_,_,rfl,rfl,hq,rfl,_,rfl,_,_,rfl,rfl,⟨s1',ls⟩,_,_,rfl,rfl,(ZD ha df1 f1').ok (ZD hc ds1 s1') (by decide),_,rfl,p,_,_,_,rfl,rfl,hp,rfl,_,rfl,_,_,rfl,rfl,⟨s1',ls⟩,_,rfl,q,_,_,_,rfl,rfl,hq,rfl,_,rfl,_,_,rfl,rfl,⟨f1',lf⟩,_,_,rfl,rfl,(ZD hb ds2 s1').ok (ZD hd df2 f1') (by decide),by show 2<=sizeLine; decide,?_⟩
 refine Yt fun r H1 sm hr1=>k r H1 sm ?_
 obtain ⟨e1,e2⟩:=q_times x y f1 s1 hf.symm hs.symm
 have z:=SqT.of (K:=K) hr1
 dsimp only at z
 rw [e1,e2] at z
 exact z
noncomputable def sp_over (K:PySem.W.Frag):Sp:=fun vs H Q _=>∃ (p_x:Addr) (x:Rat) (p_y:Addr) (y:Rat),vs=[.ref p_x,.ref p_y]/\FQ K H p_x x/\FB 4000 x/\FQ K H p_y y/\FB 4000 y/\y≠0/\(∀ (p_r:Addr) (H1:Hp),Same H H1->FQ K H1 p_r (x / y)->Q (.ref p_r) H1)
theorem sc_over:FnScope ["one","other","flipped"] ["one","other"] (zD (top 17)):=⟨rfl,rfl,rfl,by decide+kernel,rfl,by decide+kernel,by decide+kernel⟩
theorem ok_over (D:Df K mg "over" (top 17) ["one","other"]) (T:Tx K mg C) (F_times:Fn P w K mg base 2 "times" ["one","other"] (Z7 K)):Fn P w K mg base 3 "over" ["one","other"] (sp_over K):=by
 refine D.ok0 sc_over (fun vs H Q E h=>?_) (fun f cdv A outer s H vs Q E hr h=>?_)
 ·obtain ⟨p,x,q,y,rfl,_⟩:=h
  rfl
 obtain ⟨p,x,q,y,rfl,hp,dx,hq,dy,y0,k⟩:=h
 refine ⟨_,(zE (ze (zR Zm (zH ix_tup (pv 1) zB (fun _ _=>rfl)) zB (zT _)) (zG y7) zS)
   (zE (zM (i:=2) sc_over.nd rfl (Or.inl rfl) (Jp (zR op_gt (zH ix_tup (pv 1) zB (fun _ _=>rfl)) zB (zT _)) (zV (zA (zH ix_tup (pv 1) zB (fun _ _=>rfl)) (zA (zH ix_tup (pv 1) zB (fun _ _=>rfl)) zC))) (zV (zA (pe_un Yr (zH ix_tup (pv 1) zB (fun _ _=>rfl))) (zA (pe_un Yr (zH ix_tup (pv 1) zB (fun _ _=>rfl))) zC)))))
   (zG (zL (zI F_times (by decide) hr (by rfl) zF (zA (pv 0) (zA (pv 2) zC))))))),?_⟩
 have n0:=Zj y0
 refine ⟨_,rfl,q,_,_,_,rfl,rfl,hq,rfl,rfl,_,rfl,?_⟩
 refine jK (fun z=>absurd z n0) (fun _=>?_)
 refine ⟨_,rfl,q,_,_,_,rfl,rfl,hq,rfl,_,_,rfl,rfl,_,rfl,?_⟩
 refine zc (fun c=>?_) (fun c=>?_)
 ·refine ⟨_,rfl,q,_,_,_,rfl,rfl,hq,rfl,_,rfl,q,_,_,_,rfl,rfl,hq,rfl,by show 2<=sizeLine; decide,?_⟩
  intro p1 n1
  obtain ⟨H1,q1,s1,e1⟩:=newO n1 (.tup [.int ((y.den:Nat):Int),.int y.num])
  rw [q1]
  clear q1
  have g1:FQ K H1 p1 y⁻¹:=by
   have z:=SqT.of (K:=K) e1
   rw [<- (q_invp c).1,<- (q_invp c).2] at z
   exact z
  refine ⟨_,rfl,_,rfl,p,x,p1,y⁻¹,rfl,Kw.Same.tup s1 hp,dx,g1,FB.inv dy y0,fun r H3 s3 g3=>?_⟩
  exact k r H3 (s1.trans s3) (g3.cast (Rat.div_def x y).symm)
 ·have c':y.num < 0:=by omega
  refine ⟨_,rfl,q,_,_,_,rfl,rfl,hq,rfl,_,rfl,_,rfl,q,_,_,_,rfl,rfl,hq,rfl,_,rfl,by show 2<=sizeLine; decide,?_⟩
  intro p2 n2
  obtain ⟨H2,q2,s2,e2⟩:=newO n2 (.tup [.int (-((y.den:Nat):Int)),.int (-y.num)])
  rw [q2]
  clear q2
  have g1:FQ K H2 p2 y⁻¹:=by
   have z:=SqT.of (K:=K) e2
   rw [<- (q_invn c').1,<- (q_invn c').2] at z
   exact z
  refine ⟨_,rfl,_,rfl,p,x,p2,y⁻¹,rfl,Kw.Same.tup s2 hp,dx,g1,FB.inv dy y0,fun r H3 s3 g3=>?_⟩
  exact k r H3 (s2.trans s3) (g3.cast (Rat.div_def x y).symm)
noncomputable def Zd (K:PySem.W.Frag):Sp:=fun vs H Q _=>∃ (p_x:Addr) (x:Rat) (p_y:Addr) (y:Rat),vs=[.ref p_x,.ref p_y]/\FQ K H p_x x/\FB 8900 x/\FQ K H p_y y/\FB 8900 y/\(∀ (H1:Hp),Same H H1->Q (.bl (decide (x < y))) H1)
theorem sc_under:FnScope ["one","other"] ["one","other"] (zD (top 18)):=⟨rfl,rfl,rfl,by decide+kernel,rfl,by decide+kernel,by decide+kernel⟩
theorem ok_under (D:Df K mg "under" (top 18) ["one","other"]) (T:Tx K mg C):Fn P w K mg base 1 "under" ["one","other"] (Zd K):=by
 refine D.ok0 sc_under (fun vs H Q E h=>?_) (fun f cdv A outer s H vs Q E hr h=>?_)
 ·obtain ⟨p_x,x,p_y,y,rfl,_⟩:=h
  rfl
 obtain ⟨p_x,x,p_y,y,rfl,g_x,d_x,g_y,d_y,k0⟩:=h
 refine ⟨_,(zG (zL (yv Zy (zN zb (zH ix_tup (pv 0) zB (fun _ _=>rfl)) (zH ix_tup (pv 1) zB (fun _ _=>rfl))) (zN zb (zH ix_tup (pv 1) zB (fun _ _=>rfl)) (zH ix_tup (pv 0) zB (fun _ _=>rfl))) (zT _)))),?_⟩
 refine ⟨_,rfl,p_x,_,_,_,rfl,rfl,g_x,rfl,_,rfl,p_y,_,_,_,rfl,rfl,g_y,rfl,_,_,rfl,rfl,(d_x.1.ok d_y.2 (by decide)),_,rfl,p_y,_,_,_,rfl,rfl,g_y,rfl,_,rfl,p_x,_,_,_,rfl,rfl,g_x,rfl,_,_,rfl,rfl,(d_y.1.ok d_x.2 (by decide)),_,_,rfl,rfl,?_⟩
 try dsimp only
 rw [show decide (((x).num * (((y).den:Nat):Int)) < ((y).num * (((x).den:Nat):Int)))=decide (x < y) from decide_eq_decide.mpr (by exact (q_lt x y).symm)]
 exact k0 _ (Same.refl _)
theorem yz {H H1:Hp} {a:Addr} (s:Same H H1) (n:H1 a=none):H a=none:=by
 cases e:H a with
 |none=>rfl
 |some o=>have:=s _ _ e; rw [n] at this; cases this
noncomputable def jA (K:PySem.W.Frag):Sp:=fun vs H Q _=>∃ (z:V) (b:Bq) (d:Nat),vs=[z,.int (d:Int)]/\BqH K 5990 H z b/\d<=1/\∀ (r:Addr) (H1:Hp),Same H H1->FQ K H1 r (b.far d)->FB 7981 (b.far d)->Q (.ref r) H1
theorem sc_far_side:FnScope ["box","way"] ["box","way"] (zD (top 39)):=⟨rfl,rfl,rfl,by decide+kernel,rfl,by decide+kernel,by decide+kernel⟩
theorem ok_far_side (D:Df K mg "far_side" (top 39) ["box","way"]) (T:Tx K mg C) (F_plus:Fn P w K mg base 2 "plus" ["one","other"] (Zw K)):Fn P w K mg base 3 "far_side" ["box","way"] (jA K):=by
 refine D.ok0 sc_far_side (fun vs H Q E h=>?_) (fun f cdv A outer s H vs Q E hr h=>?_)
 ·obtain ⟨z,b,d,rfl,_⟩:=h
  rfl
 obtain ⟨z,b,d,rfl,⟨p,a0,a1,a2,a3,a4,a5,rfl,hp,⟨g0,g1,g2,g3,g4,g5⟩,⟨d0,d1,d2,d3,d4,d5⟩,wt⟩,hd,q⟩:=h
 refine ⟨_,(zG (zL (zI F_plus (by decide) hr (by rfl) zF (zA (zH ix_tup (pv 0) (pv 1) (fun _ _=>rfl)) (zA (zH ix_tup (pv 0) (zN zj (zX (by rfl) T.k_SIZES) (pv 1)) (fun _ _=>rfl)) zC))))),?_⟩
 rcases d01 hd with rfl|rfl
 ·exact ⟨_,rfl,_,rfl,p,_,_,_,rfl,rfl,hp,rfl,_,rfl,_,rfl,_,_,rfl,rfl,p,_,_,_,rfl,rfl,hp,rfl,_,_,_,_,rfl,g0,d0.mono (by decide),g2,d2.mono (by decide),fun r H1 s1 g=>q r H1 s1 g ((FB.add d0 d2).mono (by decide))⟩
 ·exact ⟨_,rfl,_,rfl,p,_,_,_,rfl,rfl,hp,rfl,_,rfl,_,rfl,_,_,rfl,rfl,p,_,_,_,rfl,rfl,hp,rfl,_,_,_,_,rfl,g1,d1.mono (by decide),g3,d3.mono (by decide),fun r H1 s1 g=>q r H1 s1 g ((FB.add d1 d3).mono (by decide))⟩
noncomputable def yJ (K:PySem.W.Frag):Sp:=fun vs H Q _=>∃ (z y:V) (a b:Bq) (d:Nat),vs=[z,y,.int (d:Int)]/\BqH K 5990 H z a/\BqH K 5990 H y b/\d<=1/\∀ (H1:Hp),Same H H1->Q (.bl (hicB a b d)) H1
theorem sc_have_in_common:FnScope ["one","other","way"] ["one","other","way"] (zD (top 41)):=⟨rfl,rfl,rfl,by decide+kernel,rfl,by decide+kernel,by decide+kernel⟩
theorem ok_have_in_common (D:Df K mg "have_in_common" (top 41) ["one","other","way"]) (T:Tx K mg C) (F_under:Fn P w K mg base 1 "under" ["one","other"] (Zd K)) (F_far_side:Fn P w K mg base 3 "far_side" ["box","way"] (jA K)):Fn P w K mg base 4 "have_in_common" ["one","other","way"] (yJ K):=by
 refine D.ok0 sc_have_in_common (fun vs H Q E h=>?_) (fun f cdv A outer s H vs Q E hr h=>?_)
 ·obtain ⟨z,y,a,b,d,rfl,_⟩:=h
  rfl
 obtain ⟨z,y,a,b,d,rfl,hz,hy,hd,q⟩:=h
 refine ⟨_,(zG (zL (yZ (zI F_under (by decide) hr (by rfl) zF (zA (zH ix_tup (pv 0) (pv 2) (fun _ _=>rfl)) (zA (zI F_far_side (by decide) hr (by rfl) zF (zA (pv 1) (zA (pv 2) zC))) zC))) (yP (zI F_under (by decide) hr (by rfl) zF (zA (zH ix_tup (pv 1) (pv 2) (fun _ _=>rfl)) (zA (zI F_far_side (by decide) hr (by rfl) zF (zA (pv 0) (zA (pv 2) zC))) zC))))))),?_⟩
 obtain ⟨px,a0x,a1x,a2x,a3x,a4x,a5x,rfl,hpx,⟨g0x,g1x,g2x,g3x,g4x,g5x⟩,⟨d0x,d1x,d2x,d3x,d4x,d5x⟩,wtx⟩:=id hz
 obtain ⟨py,a0y,a1y,a2y,a3y,a4y,a5y,rfl,hpy,⟨g0y,g1y,g2y,g3y,g4y,g5y⟩,⟨d0y,d1y,d2y,d3y,d4y,d5y⟩,wty⟩:=id hy
 obtain ⟨ax,bx,e1,k1,f1,e2,k2,f2⟩:∃ ax bx:Addr,atI [V.ref a0x,.ref a1x,.ref a2x,.ref a3x,.ref a4x,.ref a5x,wV a.m] (d:Int)=some (.ref ax)/\FQ K H ax (a.pl d)/\FB 5990 (a.pl d)/\atI [V.ref a0y,.ref a1y,.ref a2y,.ref a3y,.ref a4y,.ref a5y,wV b.m] (d:Int)=some (.ref bx)/\FQ K H bx (b.pl d)/\FB 5990 (b.pl d):=by
  rcases d01 hd with rfl|rfl
  ·exact ⟨a0x,a0y,rfl,g0x,d0x,rfl,g0y,d0y⟩
  ·exact ⟨a1x,a1y,rfl,g1x,d1x,rfl,g1y,d1y⟩
 refine ⟨_,rfl,_,rfl,px,_,_,_,rfl,rfl,hpx,e1,_,rfl,_,rfl,_,b,d,rfl,hy,hd,fun r1 H1 s1 h1 f1'=>?_⟩
 refine ⟨_,_,_,_,rfl,Kw.Same.tup s1 k1,f1.mono (by decide),h1,f1'.mono (by decide),fun H2 s2=>⟨_,rfl,?_⟩⟩
 have s12:=s1.trans s2
 refine zc (fun c=>?_) (fun c=>?_)
 ·refine ⟨_,rfl,_,rfl,py,_,_,_,rfl,rfl,Kw.Same.tup s12 hpy,e2,_,rfl,_,rfl,_,a,d,rfl,hz.same s12,hd,fun r3 H3 s3 h3 f3=>?_⟩
  refine ⟨_,_,_,_,rfl,Kw.Same.tup (s12.trans s3) k2,f2.mono (by decide),h3,f3.mono (by decide),fun H4 s4=>?_⟩
  have z:=q H4 (s12.trans (s3.trans s4))
  unfold hicB at z
  rw [decide_eq_true c,Bool.true_and] at z
  exact z
 ·have z:=q H2 s12
  unfold hicB at z
  rw [decide_eq_false c,Bool.false_and] at z
  exact z
noncomputable def Z4 (K:PySem.W.Frag):Sp:=fun vs H Q _=>∃ (z y:V) (a b:Bq) (d:Nat),vs=[z,y,.int (d:Int)]/\BqH K 5990 H z a/\BqH K 5990 H y b/\d<=1/\∀ (H1:Hp),Same H H1->Q (.bl (tchB a b d)) H1
theorem sc_touches:FnScope ["one","other","way"] ["one","other","way"] (zD (top 43)):=⟨rfl,rfl,rfl,by decide+kernel,rfl,by decide+kernel,by decide+kernel⟩
theorem ok_touches (D:Df K mg "touches" (top 43) ["one","other","way"]) (T:Tx K mg C) (F_far_side:Fn P w K mg base 3 "far_side" ["box","way"] (jA K)):Fn P w K mg base 4 "touches" ["one","other","way"] (Z4 K):=by
 refine D.ok0 sc_touches (fun vs H Q E h=>?_) (fun f cdv A outer s H vs Q E hr h=>?_)
 ·obtain ⟨z,y,a,b,d,rfl,_⟩:=h
  rfl
 obtain ⟨z,y,a,b,d,rfl,hz,hy,hd,q⟩:=h
 refine ⟨_,(zG (zL (yv (op_eqQ (K:=K) rfl (u100 hr)) (zI F_far_side (by decide) hr (by rfl) zF (zA (pv 0) (zA (pv 2) zC))) (zH ix_tup (pv 1) (pv 2) (fun _ _=>rfl)) (zT _)))),?_⟩
 obtain ⟨py,a0y,a1y,a2y,a3y,a4y,a5y,rfl,hpy,⟨g0y,g1y,g2y,g3y,g4y,g5y⟩,⟨d0y,d1y,d2y,d3y,d4y,d5y⟩,wty⟩:=id hy
 refine ⟨_,rfl,_,rfl,_,a,d,rfl,hz,hd,fun r1 H1 s1 h1 f1=>?_⟩
 have z:=q H1 s1
 rcases d01 hd with rfl|rfl
 ·exact ⟨_,rfl,_,rfl,py,_,_,_,rfl,rfl,Kw.Same.tup s1 hpy,rfl,r1,a0y,_,_,rfl,rfl,h1,Kw.Same.tup s1 g0y,z⟩
 ·exact ⟨_,rfl,_,rfl,py,_,_,_,rfl,rfl,Kw.Same.tup s1 hpy,rfl,r1,a1y,_,_,rfl,rfl,h1,Kw.Same.tup s1 g1y,z⟩
noncomputable def Z0 (K:PySem.W.Frag):Sp:=fun vs H Q _=>∃ (z y:V) (a b:Bq) (d:Nat),vs=[z,y,.int (d:Int)]/\BqH K 5990 H z a/\BqH K 5990 H y b/\d<=1/\∀ (H1:Hp),Same H H1->Q (.bl (besB a b d)) H1
theorem sc_are_beside:FnScope ["one","other","way"] ["one","other","way"] (zD (top 44)):=⟨rfl,rfl,rfl,by decide+kernel,rfl,by decide+kernel,by decide+kernel⟩
theorem ok_are_beside (D:Df K mg "are_beside" (top 44) ["one","other","way"]) (T:Tx K mg C) (F_touches:Fn P w K mg base 4 "touches" ["one","other","way"] (Z4 K)) (F_have_in_common:Fn P w K mg base 4 "have_in_common" ["one","other","way"] (yJ K)):Fn P w K mg base 5 "are_beside" ["one","other","way"] (Z0 K):=by
 refine D.ok0 sc_are_beside (fun vs H Q E h=>?_) (fun f cdv A outer s H vs Q E hr h=>?_)
 ·obtain ⟨z,y,a,b,d,rfl,_⟩:=h
  rfl
 obtain ⟨z,y,a,b,d,rfl,hz,hy,hd,q⟩:=h
 refine ⟨_,(zG (zL (yZ (zI F_touches (by decide) hr (by rfl) zF (zA (pv 0) (zA (pv 1) (zA (pv 2) zC)))) (yP (zI F_have_in_common (by decide) hr (by rfl) zF (zA (pv 0) (zA (pv 1) (zA (zN ZY zB (pv 2)) zC)))))))),?_⟩
 refine ⟨_,rfl,_,rfl,_,rfl,z,y,a,b,d,rfl,hz,hy,hd,fun H1 s1=>⟨_,rfl,?_⟩⟩
 unfold besB at q
 cases c:tchB a b d with
 |false=>
  have z:=q H1 s1
  rw [c,Bool.false_and] at z
  exact iteF z
 |true=>
  refine iteT ⟨_,rfl,_,rfl,_,rfl,_,_,rfl,rfl,z,y,a,b,1 - d,?_,hz.same s1,hy.same s1,by omega,fun H2 s2=>?_⟩
  ·rcases d01 hd with rfl|rfl<;>rfl
  have z:=q H2 (s1.trans s2)
  rw [c,Bool.true_and] at z
  exact z
noncomputable def jV (K:PySem.W.Frag):Sp:=fun vs H Q _=>∃ (z y:V) (a b:Bq),vs=[z,y]/\BqH K 5990 H z a/\BqH K 5990 H y b/\∀ (H1:Hp),Same H H1->Q (.bl (crnB a b)) H1
theorem jN:FnScope ["one","other","across"] ["one","other"] (zD (top 45)):=⟨rfl,rfl,rfl,by decide+kernel,rfl,by decide+kernel,by decide+kernel⟩
theorem ok_are_at_a_corner (D:Df K mg "are_at_a_corner" (top 45) ["one","other"]) (T:Tx K mg C) (F_touches:Fn P w K mg base 4 "touches" ["one","other","way"] (Z4 K)):Fn P w K mg base 5 "are_at_a_corner" ["one","other"] (jV K):=by
 refine D.ok0 jN (fun vs H Q E h=>?_) (fun f cdv A outer s H vs Q E hr h=>?_)
 ·obtain ⟨z,y,a,b,rfl,_⟩:=h
  rfl
 obtain ⟨z,y,a,b,rfl,hz,hy,q⟩:=h
 refine ⟨_,(zE (zM (i:=2) jN.nd rfl (Or.inl rfl) (pe_or (zI F_touches (by decide) hr (by rfl) zF (zA (pv 0) (zA (pv 1) (zA (zX (by rfl) T.k_ACROSS) zC)))) (yP (zI F_touches (by decide) hr (by rfl) zF (zA (pv 1) (zA (pv 0) (zA (zX (by rfl) T.k_ACROSS) zC)))))))
   (zG (zL (yZ (pv 2) (yP (pe_or (zI F_touches (by decide) hr (by rfl) zF (zA (pv 0) (zA (pv 1) (zA (zX (by rfl) T.k_ALONG) zC)))) (yP (zI F_touches (by decide) hr (by rfl) zF (zA (pv 1) (zA (pv 0) (zA (zX (by rfl) T.k_ALONG) zC))))))))))),?_⟩
 unfold crnB at q
 refine cut1 (fun σ' H'=>∃ c:Bool,σ'=[some z,some y,some (.bl c)]/\Same H H'/\c=(tchB a b 0 || tchB b a 0)) (fun N hN=>?_) ?_
 ·refine ⟨_,rfl,_,rfl,z,y,a,b,0,rfl,hz,hy,by decide,fun H1 s1=>⟨_,rfl,?_⟩⟩
  cases c:tchB a b 0 with
  |true=>exact iteT (hN _ _ ⟨_,rfl,s1,by rw [c]; rfl⟩)
  |false=>
   refine iteF ⟨_,rfl,_,rfl,y,z,b,a,0,rfl,hy.same s1,hz.same s1,by decide,fun H2 s2=>?_⟩
   exact hN _ _ ⟨_,rfl,s1.trans s2,by rw [c]; rfl⟩
 rintro σ' H2 ⟨c,rfl,s2,ec⟩
 refine ⟨_,rfl,_,rfl,?_⟩
 rw [<- ec] at q
 cases c with
 |false=>
  exact iteF (q H2 s2)
 |true=>
  refine iteT ⟨_,rfl,_,rfl,z,y,a,b,1,rfl,hz.same s2,hy.same s2,by decide,fun H3 s3=>⟨_,rfl,?_⟩⟩
  cases c:tchB a b 1 with
  |true=>
   have z:=q H3 (s2.trans s3)
   rw [c] at z
   exact iteT z
  |false=>
   refine iteF ⟨_,rfl,_,rfl,y,z,b,a,1,rfl,hy.same (s2.trans s3),hz.same (s2.trans s3),by decide,fun H4 s4=>?_⟩
   have z:=q H4 (s2.trans (s3.trans s4))
   rw [c] at z
   exact z
noncomputable def JA (K:PySem.W.Frag):Sp:=fun vs H Q _=>∃ (p a c:Addr) (x v:Rat) (ys:List V) (u:Addr) (t:Rat),vs=[.ref p,.ref u]/\SqT K H p (.ref a::.ref c::ys)/\FQ K H a x/\FQ K H c v/\FB 1990 x/\FB 1990 v/\FQ K H u t/\FB 2000 t/\∀ (r:Addr) (H1:Hp),Same H H1->FQ K H1 r (x+v * t)->FB 5990 (x+v * t)->Q (.ref r) H1
theorem sc_place_at:FnScope ["body","moment"] ["body","moment"] (zD (top 24)):=⟨rfl,rfl,rfl,by decide+kernel,rfl,by decide+kernel,by decide+kernel⟩
theorem ok_place_at (D:Df K mg "place_at" (top 24) ["body","moment"]) (T:Tx K mg C) (F_plus:Fn P w K mg base 2 "plus" ["one","other"] (Zw K)) (F_times:Fn P w K mg base 2 "times" ["one","other"] (Z7 K)):Fn P w K mg base 3 "place_at" ["body","moment"] (JA K):=by
 refine D.ok0 sc_place_at (fun vs H Q E h=>?_) (fun f cdv A outer s H vs Q E hr h=>?_)
 ·obtain ⟨p,a,c,x,v,ys,u,t,rfl,_⟩:=h
  rfl
 obtain ⟨p,a,c,x,v,ys,u,t,rfl,hp,ga,gc,da,dc,gt,dt,k⟩:=h
 refine ⟨_,(zG (zL (zI F_plus (by decide) hr (by rfl) zF (zA (zH ix_tup (pv 0) zB (fun _ _=>rfl)) (zA (zI F_times (by decide) hr (by rfl) zF (zA (zH ix_tup (pv 0) zB (fun _ _=>rfl)) (zA (pv 1) zC))) zC))))),?_⟩
 refine ⟨_,rfl,p,_,_,_,rfl,rfl,hp,yB (j:=0) rfl,_,rfl,p,_,_,_,rfl,rfl,hp,yB (j:=1) rfl,_,rfl,c,v,u,t,rfl,gc,dc.mono (by decide),gt,dt.mono (by decide),fun r1 H1 s1 g1=>?_⟩
 refine ⟨a,x,r1,_,rfl,Kw.Same.tup s1 ga,da.mono (by decide),g1,(FB.mul dc dt).mono (by decide),fun r2 H2 s2 g2=>?_⟩
 exact k r2 H2 (s1.trans s2) g2 ((FB.add da (FB.mul dc dt)).mono (by decide))
noncomputable def Yq (K:PySem.W.Frag):Sp:=fun vs H Q _=>∃ (z:V) (b:Bq) (u:Addr) (t:Rat),vs=[z,.ref u]/\BqH K 1990 H z b/\FQ K H u t/\FB 2000 t/\∀ (r:Addr) (H1:Hp),Same H H1->BqH K 5990 H1 (.ref r) (atB t b)->Q (.ref r) H1
theorem Ys:FnScope ["box","moment","left","low"] ["box","moment"] (zD (top 46)):=⟨rfl,rfl,rfl,by decide+kernel,rfl,by decide+kernel,by decide+kernel⟩
theorem ok_box_at (D:Df K mg "box_at" (top 46) ["box","moment"]) (T:Tx K mg C) (F_place_at:Fn P w K mg base 3 "place_at" ["body","moment"] (JA K)):Fn P w K mg base 4 "box_at" ["box","moment"] (Yq K):=by
 refine D.ok0 Ys (fun vs H Q E h=>?_) (fun f cdv A outer s H vs Q E hr h=>?_)
 ·obtain ⟨z,b,u,t,rfl,_⟩:=h
  rfl
 obtain ⟨z,b,u,t,rfl,⟨p,a0,a1,a2,a3,a4,a5,rfl,hp,⟨g0,g1,g2,g3,g4,g5⟩,⟨d0,d1,d2,d3,d4,d5⟩,wt⟩,gt,dt,k⟩:=h
 refine ⟨_,(zE (zM (i:=2) Ys.nd rfl (Or.inl rfl) (zI F_place_at (by decide) hr (by rfl) zF (zA (zV (zA (zH ix_tup (pv 0) zB (fun _ _=>rfl)) (zA (zH ix_tup (pv 0) zB (fun _ _=>rfl)) zC))) (zA (pv 1) zC))))
   (zE (zM (i:=3) Ys.nd rfl (Or.inl rfl) (zI F_place_at (by decide) hr (by rfl) zF (zA (zV (zA (zH ix_tup (pv 0) zB (fun _ _=>rfl)) (zA (zH ix_tup (pv 0) zB (fun _ _=>rfl)) zC))) (zA (pv 1) zC))))
   (zG (zL (zN (YV (K:=K) rfl) (zV (zA (pv 2) (zA (pv 3) zC))) (yN (ZE (K:=K) rfl) (pv 0) (yQ zB) jG)))))),?_⟩
 refine ⟨_,rfl,p,_,_,_,rfl,rfl,hp,rfl,_,rfl,p,_,_,_,rfl,rfl,hp,rfl,by show 2<=sizeLine; decide,?_⟩
 intro p1 n1
 obtain ⟨H1,q1,s1,e1⟩:=newO n1 (.tup [.ref a0,.ref a4])
 rw [q1]
 clear q1
 refine ⟨_,rfl,p1,a0,a4,b.x,b.u,[],u,t,rfl,SqT.of e1,Kw.Same.tup s1 g0,Kw.Same.tup s1 g4,d0,d4,Kw.Same.tup s1 gt,dt,fun r2 H2 s2 k2 f2=>?_⟩
 have s12:=s1.trans s2
 have hp2:=Kw.Same.tup s12 hp
 refine ⟨_,rfl,p,_,_,_,rfl,rfl,hp2,rfl,_,rfl,p,_,_,_,rfl,rfl,hp2,rfl,by show 2<=sizeLine; decide,?_⟩
 intro p3 n3
 obtain ⟨H3,q3,s3,e3⟩:=newO n3 (.tup [.ref a1,.ref a5])
 rw [q3]
 clear q3
 have s13:=s12.trans s3
 refine ⟨_,rfl,p3,a1,a5,b.y,b.v,[],u,t,rfl,SqT.of e3,Kw.Same.tup s13 g1,Kw.Same.tup s13 g5,d1,d5,Kw.Same.tup s13 gt,dt,fun r4 H4 s4 k4 f4=>?_⟩
 have s14:=s13.trans s4
 refine ⟨_,rfl,_,rfl,by show 2<=sizeLine; decide,?_⟩
 intro p5 n5
 obtain ⟨H5,q5,s5,e5⟩:=newO n5 (.tup [.ref r2,.ref r4])
 rw [q5]
 clear q5
 have s15:=s14.trans s5
 have hp5:=Kw.Same.tup s15 hp
 refine ⟨_,rfl,_,rfl,p,_,rfl,hp5,Z5 (n:=7) (by decide) (by decide),?_⟩
 intro p6 n6
 obtain ⟨H6,q6,s6,e6⟩:=newO n6 (.tup (cutV [.ref a0,.ref a1,.ref a2,.ref a3,.ref a4,.ref a5,wV b.m] (some 2) none))
 rw [q6]
 clear q6
 have e6':H6 p6=some (.tup [.ref a2,.ref a3,.ref a4,.ref a5,wV b.m]):=e6
 refine ⟨p5,p6,_,_,rfl,rfl,SqT.of (s6 _ _ e5),SqT.of e6',by show 7<=sizeLine; decide,fun z=>(nomatch z),fun _ z=>(nomatch z),fun _ _=>?_⟩
 intro p7 n7
 obtain ⟨H7,q7,s7,e7⟩:=newO n7 (.tup ([.ref r2,.ref r4]++[.ref a2,.ref a3,.ref a4,.ref a5,wV b.m]))
 rw [q7]
 clear q7
 have s17:=s15.trans (s6.trans s7)
 have s47:=s5.trans (s6.trans s7)
 exact k p7 H7 s17 ⟨p7,r2,r4,a2,a3,a4,a5,rfl,SqT.of e7,⟨Kw.Same.tup (s3.trans (s4.trans s47)) k2,Kw.Same.tup s47 k4,Kw.Same.tup s17 g2,Kw.Same.tup s17 g3,Kw.Same.tup s17 g4,Kw.Same.tup s17 g5⟩,⟨f2,f4,d2,d3,d4,d5⟩,wt⟩
noncomputable def jn (K:PySem.W.Frag):Sp:=fun vs H Q _=>∃ (z:V) (b:Bq) (d:Nat),vs=[z,.int (d:Int)]/\BqH K 1990 H z b/\d<=1/\∀ (r:Addr) (H1:Hp),Same H H1->GoQ K 1990 H1 (.ref r) (yE b d)->Q (.ref r) H1
theorem sc_near_going:FnScope ["box","way"] ["box","way"] (zD (top 47)):=⟨rfl,rfl,rfl,by decide+kernel,rfl,by decide+kernel,by decide+kernel⟩
theorem ok_near_going (D:Df K mg "near_going" (top 47) ["box","way"]) (T:Tx K mg C):Fn P w K mg base 1 "near_going" ["box","way"] (jn K):=by
 refine D.ok0 sc_near_going (fun vs H Q E h=>?_) (fun f cdv A outer s H vs Q E hr h=>?_)
 ·obtain ⟨z,b,d,rfl,_⟩:=h
  rfl
 obtain ⟨z,b,d,rfl,⟨p,a0,a1,a2,a3,a4,a5,rfl,hp,⟨g0,g1,g2,g3,g4,g5⟩,⟨d0,d1,d2,d3,d4,d5⟩,wt⟩,hd,q⟩:=h
 refine ⟨_,(zG (zL (zV (zA (zH ix_tup (pv 0) (pv 1) (fun _ _=>rfl)) (zA (zH ix_tup (pv 0) (zN zj (zX (by rfl) T.k_SPEEDS) (pv 1)) (fun _ _=>rfl)) (zA (zH ix_tup (pv 0) zB (fun _ _=>rfl)) zC)))))),?_⟩
 rcases d01 hd with rfl|rfl
 ·refine ⟨_,rfl,_,rfl,p,_,_,_,rfl,rfl,hp,rfl,_,rfl,_,rfl,_,_,rfl,rfl,p,_,_,_,rfl,rfl,hp,rfl,_,rfl,p,_,_,_,rfl,rfl,hp,rfl,by show 3<=sizeLine; decide,?_⟩
  intro p1 n1
  obtain ⟨H1,q1,s1,e1⟩:=newO n1 (.tup [.ref a0,.ref a4,wV b.m])
  rw [q1]
  clear q1
  exact q p1 H1 s1 ⟨p1,a0,a4,rfl,SqT.of e1,Kw.Same.tup s1 g0,Kw.Same.tup s1 g4,d0,d4,wt⟩
 ·refine ⟨_,rfl,_,rfl,p,_,_,_,rfl,rfl,hp,rfl,_,rfl,_,rfl,_,_,rfl,rfl,p,_,_,_,rfl,rfl,hp,rfl,_,rfl,p,_,_,_,rfl,rfl,hp,rfl,by show 3<=sizeLine; decide,?_⟩
  intro p1 n1
  obtain ⟨H1,q1,s1,e1⟩:=newO n1 (.tup [.ref a1,.ref a5,wV b.m])
  rw [q1]
  clear q1
  exact q p1 H1 s1 ⟨p1,a1,a5,rfl,SqT.of e1,Kw.Same.tup s1 g1,Kw.Same.tup s1 g5,d1,d5,wt⟩
noncomputable def ZC (K:PySem.W.Frag):Sp:=fun vs H Q _=>∃ (z:V) (b:Bq) (d:Nat),vs=[z,.int (d:Int)]/\BqH K 1990 H z b/\d<=1/\FB 1990 (b.far d)/\∀ (r:Addr) (H1:Hp),Same H H1->GoQ K 1990 H1 (.ref r) (farG b d)->Q (.ref r) H1
theorem sc_far_going:FnScope ["box","way"] ["box","way"] (zD (top 48)):=⟨rfl,rfl,rfl,by decide+kernel,rfl,by decide+kernel,by decide+kernel⟩
theorem ok_far_going (D:Df K mg "far_going" (top 48) ["box","way"]) (T:Tx K mg C) (F_far_side:Fn P w K mg base 3 "far_side" ["box","way"] (jA K)):Fn P w K mg base 4 "far_going" ["box","way"] (ZC K):=by
 refine D.ok0 sc_far_going (fun vs H Q E h=>?_) (fun f cdv A outer s H vs Q E hr h=>?_)
 ·obtain ⟨z,b,d,rfl,_⟩:=h
  rfl
 obtain ⟨z,b,d,rfl,hz,hd,fb,q⟩:=h
 refine ⟨_,(zG (zL (zV (zA (zI F_far_side (by decide) hr (by rfl) zF (zA (pv 0) (zA (pv 1) zC))) (zA (zH ix_tup (pv 0) (zN zj (zX (by rfl) T.k_SPEEDS) (pv 1)) (fun _ _=>rfl)) (zA (zH ix_tup (pv 0) zB (fun _ _=>rfl)) zC)))))),?_⟩
 refine ⟨_,rfl,_,rfl,z,b,d,rfl,hz.mono (by decide),hd,fun r1 H1 s1 k1 _=>?_⟩
 obtain ⟨p,a0,a1,a2,a3,a4,a5,rfl,hp,⟨g0,g1,g2,g3,g4,g5⟩,⟨d0,d1,d2,d3,d4,d5⟩,wt⟩:=hz.same s1
 rcases d01 hd with rfl|rfl
 ·refine ⟨_,rfl,_,rfl,_,_,rfl,rfl,p,_,_,_,rfl,rfl,hp,rfl,_,rfl,p,_,_,_,rfl,rfl,hp,rfl,by show 3<=sizeLine; decide,?_⟩
  intro p2 n2
  obtain ⟨H2,q2,s2,e2⟩:=newO n2 (.tup [.ref r1,.ref a4,wV b.m])
  rw [q2]
  clear q2
  exact q p2 H2 (s1.trans s2) ⟨p2,r1,a4,rfl,SqT.of e2,Kw.Same.tup s2 k1,Kw.Same.tup s2 g4,fb,d4,wt⟩
 ·refine ⟨_,rfl,_,rfl,_,_,rfl,rfl,p,_,_,_,rfl,rfl,hp,rfl,_,rfl,p,_,_,_,rfl,rfl,hp,rfl,by show 3<=sizeLine; decide,?_⟩
  intro p2 n2
  obtain ⟨H2,q2,s2,e2⟩:=newO n2 (.tup [.ref r1,.ref a5,wV b.m])
  rw [q2]
  clear q2
  exact q p2 H2 (s1.trans s2) ⟨p2,r1,a5,rfl,SqT.of e2,Kw.Same.tup s2 k1,Kw.Same.tup s2 g5,fb,d5,wt⟩
noncomputable def yd (K:PySem.W.Frag):Sp:=fun vs H Q _=>∃ (z:V) (b:Bq) (d:Nat) (pg a c:Addr) (x v:Rat) (ys:List V),vs=[z,.int (d:Int),.ref pg]/\BqH K 1990 H z b/\d<=1/\SqT K H pg (.ref a::.ref c::ys)/\FQ K H a x/\FQ K H c v/\FB 1990 x/\FB 1990 v/\∀ (r:Addr) (H1:Hp),Same H H1->BqH K 1990 H1 (.ref r) (b.with d x v)->Q (.ref r) H1
theorem jP:FnScope ["box","way","going","parts"] ["box","way","going"] (zD (top 49)):=⟨rfl,rfl,rfl,by decide+kernel,rfl,by decide+kernel,by decide+kernel⟩
theorem ok_with_near_going (D:Df K mg "with_near_going" (top 49) ["box","way","going"]) (T:Tx K mg C):Fn P w K mg base 1 "with_near_going" ["box","way","going"] (yd K):=by
 refine D.ok0 jP (fun vs H Q E h=>?_) (fun f cdv A outer s H vs Q E hr h=>?_)
 ·obtain ⟨z,b,d,pg,a,c,x,v,ys,rfl,_⟩:=h
  rfl
 obtain ⟨z,b,d,pg,a,c,x,v,ys,rfl,⟨p,a0,a1,a2,a3,a4,a5,rfl,hp,⟨g0,g1,g2,g3,g4,g5⟩,⟨d0,d1,d2,d3,d4,d5⟩,wt⟩,hd,hg,ga,gc,da,dc,q⟩:=h
 refine ⟨_,(zE (zM (i:=3) jP.nd rfl (Or.inl rfl) (jv YS (by rfl) T.b_list PyProof.Rows.Boot.«list» (zA (pv 0) zC)))
   (zE (Yo (zH ix_tup (pv 2) zB (fun _ _=>rfl)) (JV (pv 3) (pv 1) Zf))
   (zE (Yo (zH ix_tup (pv 2) zB (fun _ _=>rfl)) (JV (pv 3) (zN zj (zX (by rfl) T.k_SPEEDS) (pv 1)) Zf))
   (zG (zL (jv call_tuple_of (by rfl) T.b_tuple PyProof.Rows.Boot.«tuple» (zA (pv 3) zC))))))),?_⟩
 refine ⟨_,rfl,p,_,rfl,.inr hp,?_⟩
 intro p1 n1
 obtain ⟨H1,q1,s1,e1⟩:=newO n1 (.lst [.ref a0,.ref a1,.ref a2,.ref a3,.ref a4,.ref a5,wV b.m])
 rw [q1]
 clear q1
 have tk:∀ {H2:Hp} {r:Addr} {xs:List V},But p1 H1 H2->SqT K H r xs->SqT K H2 r xs:=fun s h=>s.tup e1 (Kw.Same.tup s1 h)
 have hg1:=Kw.Same.tup s1 hg
 rcases d01 hd with rfl|rfl
 ·refine ⟨_,rfl,pg,_,_,_,rfl,rfl,hg1,yB (j:=0) rfl,_,rfl,_,rfl,p1,_,_,0,rfl,rfl,e1,rfl,?_⟩
  obtain ⟨H2,q2,s2,e2⟩:=newB (H:=H1) (p:=p1) (.lst [.ref a,.ref a1,.ref a2,.ref a3,.ref a4,.ref a5,wV b.m])
  dsimp only
  rw [show (List.set [V.ref a0,.ref a1,.ref a2,.ref a3,.ref a4,.ref a5,wV b.m] 0 (V.ref a))=[.ref a,.ref a1,.ref a2,.ref a3,.ref a4,.ref a5,wV b.m] from rfl,q2]
  clear q2
  have hg2:=s2.tup e1 hg1
  refine ⟨_,rfl,pg,_,_,_,rfl,rfl,hg2,yB (j:=1) rfl,_,rfl,_,rfl,_,_,rfl,rfl,p1,_,_,4,rfl,rfl,e2,rfl,?_⟩
  obtain ⟨H3,q3,s3,e3⟩:=newB (H:=H2) (p:=p1) (.lst [.ref a,.ref a1,.ref a2,.ref a3,.ref c,.ref a5,wV b.m])
  dsimp only
  rw [show (List.set [V.ref a,.ref a1,.ref a2,.ref a3,.ref a4,.ref a5,wV b.m] 4 (V.ref c))=[.ref a,.ref a1,.ref a2,.ref a3,.ref c,.ref a5,wV b.m] from rfl,q3]
  clear q3
  refine ⟨_,rfl,p1,_,rfl,.inl ⟨SqL.of e3,?_⟩⟩
  intro p4 n4
  obtain ⟨H4,q4,s4,e4⟩:=newO n4 (.tup [.ref a,.ref a1,.ref a2,.ref a3,.ref c,.ref a5,wV b.m])
  rw [q4]
  clear q4
  have B3:But p1 H1 H3:=s2.trans s3
  have tk4:∀ {r:Addr} {xs:List V},SqT K H r xs->SqT K H4 r xs:=fun h=>Kw.Same.tup s4 (tk B3 h)
  refine q p4 H4 (fun z o hz=>s4 _ _ (B3 z o (zO hz n1) (s1 _ _ hz))) ⟨p4,a,a1,a2,a3,c,a5,rfl,SqT.of e4,⟨tk4 ga,tk4 g1,tk4 g2,tk4 g3,tk4 gc,tk4 g5⟩,⟨da,d1,d2,d3,dc,d5⟩,wt⟩
 ·refine ⟨_,rfl,pg,_,_,_,rfl,rfl,hg1,yB (j:=0) rfl,_,rfl,_,rfl,p1,_,_,1,rfl,rfl,e1,rfl,?_⟩
  obtain ⟨H2,q2,s2,e2⟩:=newB (H:=H1) (p:=p1) (.lst [.ref a0,.ref a,.ref a2,.ref a3,.ref a4,.ref a5,wV b.m])
  dsimp only
  rw [show (List.set [V.ref a0,.ref a1,.ref a2,.ref a3,.ref a4,.ref a5,wV b.m] 1 (V.ref a))=[.ref a0,.ref a,.ref a2,.ref a3,.ref a4,.ref a5,wV b.m] from rfl,q2]
  clear q2
  have hg2:=s2.tup e1 hg1
  refine ⟨_,rfl,pg,_,_,_,rfl,rfl,hg2,yB (j:=1) rfl,_,rfl,_,rfl,_,_,rfl,rfl,p1,_,_,5,rfl,rfl,e2,rfl,?_⟩
  obtain ⟨H3,q3,s3,e3⟩:=newB (H:=H2) (p:=p1) (.lst [.ref a0,.ref a,.ref a2,.ref a3,.ref a4,.ref c,wV b.m])
  dsimp only
  rw [show (List.set [V.ref a0,.ref a,.ref a2,.ref a3,.ref a4,.ref a5,wV b.m] 5 (V.ref c))=[.ref a0,.ref a,.ref a2,.ref a3,.ref a4,.ref c,wV b.m] from rfl,q3]
  clear q3
  refine ⟨_,rfl,p1,_,rfl,.inl ⟨SqL.of e3,?_⟩⟩
  intro p4 n4
  obtain ⟨H4,q4,s4,e4⟩:=newO n4 (.tup [.ref a0,.ref a,.ref a2,.ref a3,.ref a4,.ref c,wV b.m])
  rw [q4]
  clear q4
  have B3:But p1 H1 H3:=s2.trans s3
  have tk4:∀ {r:Addr} {xs:List V},SqT K H r xs->SqT K H4 r xs:=fun h=>Kw.Same.tup s4 (tk B3 h)
  refine q p4 H4 (fun z o hz=>s4 _ _ (B3 z o (zO hz n1) (s1 _ _ hz))) ⟨p4,a0,a,a2,a3,a4,c,rfl,SqT.of e4,⟨tk4 g0,tk4 ga,tk4 g2,tk4 g3,tk4 g4,tk4 gc⟩,⟨d0,da,d2,d3,d4,dc⟩,wt⟩
noncomputable def jd (K:PySem.W.Frag):Sp:=fun vs H Q _=>∃ (z:V) (b:Bq) (d:Nat) (pg a c:Addr) (x v:Rat) (ys:List V),vs=[z,.int (d:Int),.ref pg]/\BqH K 1990 H z b/\d<=1/\SqT K H pg (.ref a::.ref c::ys)/\FQ K H a x/\FQ K H c v/\FB 1990 x/\FB 1990 v/\FB 1990 (x - b.sz d)/\∀ (r:Addr) (H1:Hp),Same H H1->BqH K 1990 H1 (.ref r) (b.with d (x - b.sz d) v)->Q (.ref r) H1
theorem sc_with_far_going:FnScope ["box","way","going"] ["box","way","going"] (zD (top 50)):=⟨rfl,rfl,rfl,by decide+kernel,rfl,by decide+kernel,by decide+kernel⟩
theorem ok_with_far_going (D:Df K mg "with_far_going" (top 50) ["box","way","going"]) (T:Tx K mg C) (F_minus:Fn P w K mg base 3 "minus" ["one","other"] (ZW K)) (F_with_near_going:Fn P w K mg base 1 "with_near_going" ["box","way","going"] (yd K)):Fn P w K mg base 4 "with_far_going" ["box","way","going"] (jd K):=by
 refine D.ok0 sc_with_far_going (fun vs H Q E h=>?_) (fun f cdv A outer s H vs Q E hr h=>?_)
 ·obtain ⟨z,b,d,pg,a,c,x,v,ys,rfl,_⟩:=h
  rfl
 obtain ⟨z,b,d,pg,a,c,x,v,ys,rfl,hz,hd,hg,ga,gc,da,dc,df,q⟩:=h
 refine ⟨_,(zG (zL (zI F_with_near_going (by decide) hr (by rfl) zF (zA (pv 0) (zA (pv 1) (zA (zV (zA (zI F_minus (by decide) hr (by rfl) zF (zA (zH ix_tup (pv 2) zB (fun _ _=>rfl)) (zA (zH ix_tup (pv 0) (zN zj (zX (by rfl) T.k_SIZES) (pv 1)) (fun _ _=>rfl)) zC))) (zA (zH ix_tup (pv 2) zB (fun _ _=>rfl)) zC))) zC)))))),?_⟩
 obtain ⟨p,a0,a1,a2,a3,a4,a5,rfl,hp,⟨g0,g1,g2,g3,g4,g5⟩,⟨d0,d1,d2,d3,d4,d5⟩,wt⟩:=id hz
 obtain ⟨as,es,gs,ds⟩:∃ as:Addr,atI [V.ref a0,.ref a1,.ref a2,.ref a3,.ref a4,.ref a5,wV b.m] (2+(d:Int))=some (.ref as)/\FQ K H as (b.sz d)/\FB 1990 (b.sz d):=by
  rcases d01 hd with rfl|rfl
  ·exact ⟨a2,rfl,g2,d2⟩
  ·exact ⟨a3,rfl,g3,d3⟩
 refine ⟨_,rfl,_,rfl,_,rfl,pg,_,_,_,rfl,rfl,hg,yB (j:=0) rfl,_,rfl,_,rfl,_,_,rfl,rfl,p,_,_,_,rfl,rfl,hp,es,_,_,_,_,rfl,ga,da.mono (by decide),gs,ds.mono (by decide),fun r1 H1 s1 k1=>?_⟩
 have hg1:=Kw.Same.tup s1 hg
 refine ⟨_,rfl,pg,_,_,_,rfl,rfl,hg1,yB (j:=1) rfl,by show 2<=sizeLine; decide,?_⟩
 intro p2 n2
 obtain ⟨H2,q2,s2,e2⟩:=newO n2 (.tup [.ref r1,.ref c])
 rw [q2]
 clear q2
 have s12:=s1.trans s2
 exact ⟨_,b,d,p2,r1,c,_,v,[],rfl,hz.same s12,hd,SqT.of e2,Kw.Same.tup s2 k1,Kw.Same.tup s12 gc,df,dc,fun r H3 s3 h3=>q r H3 (s12.trans s3) h3⟩
noncomputable def sp_mixed (K:PySem.W.Frag):Sp:=fun vs H Q _=>∃ (p_x:Addr) (x:Rat) (p_y:Addr) (y:Rat) (m:Int) (u:Int) (p_s:Addr) (s:Rat),vs=[.ref p_x,.ref p_y,.int m,.int u,.ref p_s]/\FQ K H p_x x/\FB 1990 x/\FQ K H p_y y/\FB 1990 y/\1<=m/\m<=10000/\1<=u/\u<=10000/\FQ K H p_s s/\FB 64 s/\(∀ (p_r:Addr) (H1:Hp),Same H H1->FQ K H1 p_r (mixS x y m u s)->Q (.ref p_r) H1)
theorem YU:FnScope ["own","far","weight","mass","share","both","kept","taken"] ["own","far","weight","mass","share"] (zD (top 26)):=⟨rfl,rfl,rfl,by decide+kernel,rfl,by decide+kernel,by decide+kernel⟩
theorem ok_mixed (D:Df K mg "mixed" (top 26) ["own","far","weight","mass","share"]) (T:Tx K mg C) (F_fraction:Fn P w K mg base 2 "fraction" ["top","bottom"] (Y0 K)) (F_times:Fn P w K mg base 2 "times" ["one","other"] (Z7 K)) (F_plus:Fn P w K mg base 2 "plus" ["one","other"] (Zw K)):Fn P w K mg base 3 "mixed" ["own","far","weight","mass","share"] (sp_mixed K):=by
 refine D.ok0 YU (fun vs H Q E h=>?_) (fun f cdv A outer s H vs Q E hr h=>?_)
 ·obtain ⟨p_x,x,p_y,y,m,u,p_s,s,rfl,_⟩:=h
  rfl
 obtain ⟨p_x,x,p_y,y,m,u,p_s,s,rfl,g_x,d_x,g_y,d_y,lo_m,hi_m,lo_u,hi_u,g_s,d_s,k0⟩:=h
 refine ⟨_,(zE (zM (i:=5) YU.nd rfl (Or.inl rfl) (zN zb (zN zj (pv 2) (pv 3)) (zH ix_tup (pv 4) zB (fun _ _=>rfl))))
   (zE (zM (i:=6) YU.nd rfl (Or.inl rfl) (zI F_times (by decide) hr (by rfl) zF (zA (pv 0) (zA (zI F_fraction (by decide) hr (by rfl) zF (zA (zN ZY (zN zb (pv 2) (zH ix_tup (pv 4) zB (fun _ _=>rfl))) (zN zb (pv 3) (zH ix_tup (pv 4) zB (fun _ _=>rfl)))) (zA (pv 5) zC))) zC))))
   (zE (zM (i:=7) YU.nd rfl (Or.inl rfl) (zI F_times (by decide) hr (by rfl) zF (zA (pv 1) (zA (zI F_fraction (by decide) hr (by rfl) zF (zA (zN zb (pv 3) (zN zj (zH ix_tup (pv 4) zB (fun _ _=>rfl)) (zH ix_tup (pv 4) zB (fun _ _=>rfl)))) (zA (pv 5) zC))) zC))))
   (zG (zL (zI F_plus (by decide) hr (by rfl) zF (zA (pv 6) (zA (pv 7) zC)))))))),?_⟩
 refine ⟨_,rfl,_,rfl,_,_,rfl,rfl,_,rfl,p_s,_,_,_,rfl,rfl,g_s,rfl,_,_,rfl,rfl,((Bd.add ((Bd.small (i:=m) (by omega) (by omega)).mono (n:=64) (by decide)) ((Bd.small (i:=u) (by omega) (by omega)).mono (n:=64) (by decide))).ok d_s.2 (by decide)),?_⟩
 refine ⟨_,rfl,_,rfl,_,rfl,p_s,_,_,_,rfl,rfl,g_s,rfl,_,_,rfl,rfl,((Bd.small (i:=m) (by omega) (by omega)).ok d_s.2 (by decide)),_,rfl,_,rfl,p_s,_,_,_,rfl,rfl,g_s,rfl,_,_,rfl,rfl,((Bd.small (i:=u) (by omega) (by omega)).ok d_s.1 (by decide)),_,_,rfl,rfl,_,rfl,_,_,rfl,((Bd.mul (Bd.add ((Bd.small (i:=m) (by omega) (by omega)).mono (n:=64) (by decide)) ((Bd.small (i:=u) (by omega) (by omega)).mono (n:=64) (by decide))) d_s.2).mono (by decide)),(by exact JI (by omega) (by omega)),fun p_r4 H4 s4 g_r4=>?_⟩
 have d_r4:FB 129 (Rat.divInt (((m * (((s).den:Nat):Int)) - (u * (s).num))) (((m+u) * (((s).den:Nat):Int)))):=(FB.mono (FB.fit (by exact JI (by omega) (by omega)) ((Bd.sub ((Bd.mul (Bd.small (i:=m) (by omega) (by omega)) d_s.2).mono (n:=128) (by decide)) ((Bd.mul (Bd.small (i:=u) (by omega) (by omega)) d_s.1).mono (n:=128) (by decide))).mono (n:=129) (by decide)) ((Bd.mul (Bd.add ((Bd.small (i:=m) (by omega) (by omega)).mono (n:=64) (by decide)) ((Bd.small (i:=u) (by omega) (by omega)).mono (n:=64) (by decide))) d_s.2).mono (n:=129) (by decide))) (by decide))
 replace g_x:=(Kw.Same.tup s4 g_x)
 refine ⟨_,_,_,_,rfl,g_x,(FB.mono d_x (by decide)),g_r4,(FB.mono d_r4 (by decide)),fun p_r5 H5 s5 g_r5=>?_⟩
 have d_r5:FB 2119 (x * ((Rat.divInt (((m * (((s).den:Nat):Int)) - (u * (s).num))) (((m+u) * (((s).den:Nat):Int)))))):=(FB.mono (FB.mul d_x d_r4) (by decide))
 replace g_s:=(Kw.Same.tup s5 (Kw.Same.tup s4 g_s))
 refine ⟨_,rfl,_,rfl,_,rfl,p_s,_,_,_,rfl,rfl,g_s,rfl,_,rfl,p_s,_,_,_,rfl,rfl,g_s,rfl,_,_,rfl,rfl,_,_,rfl,rfl,((Bd.small (i:=u) (by omega) (by omega)).ok (Bd.add (d_s.2.mono (n:=64) (by decide)) (d_s.1.mono (n:=64) (by decide))) (by decide)),_,rfl,_,_,rfl,((Bd.mul (Bd.add ((Bd.small (i:=m) (by omega) (by omega)).mono (n:=64) (by decide)) ((Bd.small (i:=u) (by omega) (by omega)).mono (n:=64) (by decide))) d_s.2).mono (by decide)),(by exact JI (by omega) (by omega)),fun p_r6 H6 s6 g_r6=>?_⟩
 have d_r6:FB 129 (Rat.divInt ((u * ((((s).den:Nat):Int)+(s).num))) (((m+u) * (((s).den:Nat):Int)))):=(FB.mono (FB.fit (by exact JI (by omega) (by omega)) ((Bd.mul (Bd.small (i:=u) (by omega) (by omega)) (Bd.add (d_s.2.mono (n:=64) (by decide)) (d_s.1.mono (n:=64) (by decide)))).mono (n:=129) (by decide)) ((Bd.mul (Bd.add ((Bd.small (i:=m) (by omega) (by omega)).mono (n:=64) (by decide)) ((Bd.small (i:=u) (by omega) (by omega)).mono (n:=64) (by decide))) d_s.2).mono (n:=129) (by decide))) (by decide))
 replace g_y:=(Kw.Same.tup s6 (Kw.Same.tup s5 (Kw.Same.tup s4 g_y)))
 refine ⟨_,_,_,_,rfl,g_y,(FB.mono d_y (by decide)),g_r6,(FB.mono d_r6 (by decide)),fun p_r7 H7 s7 g_r7=>?_⟩
 have d_r7:FB 2119 (y * ((Rat.divInt ((u * ((((s).den:Nat):Int)+(s).num))) (((m+u) * (((s).den:Nat):Int)))))):=(FB.mono (FB.mul d_y d_r6) (by decide))
 replace g_r5:=(Kw.Same.tup s7 (Kw.Same.tup s6 g_r5))
 refine ⟨_,rfl,_,rfl,_,_,_,_,rfl,g_r5,(FB.mono d_r5 (by decide)),g_r7,(FB.mono d_r7 (by decide)),fun p_r8 H8 s8 g_r8=>?_⟩
 have d_r8:FB 4239 (((x * ((Rat.divInt (((m * (((s).den:Nat):Int)) - (u * (s).num))) (((m+u) * (((s).den:Nat):Int)))))))+((y * ((Rat.divInt ((u * ((((s).den:Nat):Int)+(s).num))) (((m+u) * (((s).den:Nat):Int)))))))):=(FB.mono (FB.add d_r5 d_r7) (by decide))
 have e9:((((x * ((Rat.divInt (((m * (((s).den:Nat):Int)) - (u * (s).num))) (((m+u) * (((s).den:Nat):Int)))))))+((y * ((Rat.divInt ((u * ((((s).den:Nat):Int)+(s).num))) (((m+u) * (((s).den:Nat):Int)))))))):Rat)=mixS x y m u s:=by rfl
 exact k0 _ _ (s4.trans (s5.trans (s6.trans (s7.trans s8)))) (FQ.cast g_r8 e9)
noncomputable def J2 (K:PySem.W.Frag):Sp:=fun vs H Q _=>∃ (p a c:Addr) (x v:Rat) (m:Int) (p' a' c':Addr) (x' v':Rat) (m':Int) (sh:Addr),vs=[.ref p,.ref p',.ref sh]/\SqT K H p [.ref a,.ref c,.int m]/\FQ K H a x/\FQ K H c v/\FB 1990 x/\FB 1990 v/\1<=m/\m<=10000/\SqT K H p' [.ref a',.ref c',.int m']/\FQ K H a' x'/\FQ K H c' v'/\FB 1990 x'/\FB 1990 v'/\1<=m'/\m'<=10000/\FQ K H sh ((1:Int):Rat)/\∀ (r f1 f2:Addr) (H1:Hp),Same H H1->SqT K H1 r [.ref f1,.ref f2,.int m]->FQ K H1 f1 (mixQ x x' m m')->FQ K H1 f2 (mixQ v v' m m')->Q (.ref r) H1
theorem Yk:FnScope ["one","other","share","place","speed"] ["one","other","share"] (zD (top 27)):=⟨rfl,rfl,rfl,by decide+kernel,rfl,by decide+kernel,by decide+kernel⟩
theorem ok_behind (D:Df K mg "behind" (top 27) ["one","other","share"]) (T:Tx K mg C) (F_mixed:Fn P w K mg base 3 "mixed" ["own","far","weight","mass","share"] (sp_mixed K)):Fn P w K mg base 4 "behind" ["one","other","share"] (J2 K):=by
 refine D.ok0 Yk (fun vs H Q E h=>?_) (fun f cdv A outer s H vs Q E hr h=>?_)
 ·obtain ⟨p,a,c,x,v,m,p',a',c',x',v',m',sh,rfl,_⟩:=h
  rfl
 obtain ⟨p,a,c,x,v,m,p',a',c',x',v',m',sh,rfl,hp,ga,gc,da,dc,m1,m2,hp',ga',gc',da',dc',m1',m2',gsh,k⟩:=h
 refine ⟨_,(zE (zM (i:=3) Yk.nd rfl (Or.inl rfl) (zI F_mixed (by decide) hr (by rfl) zF (zA (zH ix_tup (pv 0) zB (fun _ _=>rfl)) (zA (zH ix_tup (pv 1) zB (fun _ _=>rfl)) (zA (zH ix_tup (pv 0) zB (fun _ _=>rfl)) (zA (zH ix_tup (pv 1) zB (fun _ _=>rfl)) (zA (pv 2) zC)))))))
   (zE (zM (i:=4) Yk.nd rfl (Or.inl rfl) (zI F_mixed (by decide) hr (by rfl) zF (zA (zH ix_tup (pv 0) zB (fun _ _=>rfl)) (zA (zH ix_tup (pv 1) zB (fun _ _=>rfl)) (zA (zH ix_tup (pv 0) zB (fun _ _=>rfl)) (zA (zH ix_tup (pv 1) zB (fun _ _=>rfl)) (zA (pv 2) zC)))))))
   (zG (zL (zV (zA (pv 3) (zA (pv 4) (zA (zH ix_tup (pv 0) zB (fun _ _=>rfl)) zC)))))))),?_⟩
 have ds:FB 64 ((1:Int):Rat):=FB.ofInt (Bd.small (i:=1) (by decide) (by decide)) (by decide)
 refine ⟨_,rfl,p,_,_,_,rfl,rfl,hp,rfl,_,rfl,p',_,_,_,rfl,rfl,hp',rfl,_,rfl,p,_,_,_,rfl,rfl,hp,rfl,_,rfl,p',_,_,_,rfl,rfl,hp',rfl,_,rfl,a,x,a',x',m,m',sh,_,rfl,ga,da,ga',da',m1,m2,m1',m2',gsh,ds,fun r1 H1 s1 g1=>?_⟩
 have hp1:=Kw.Same.tup s1 hp
 have hp1':=Kw.Same.tup s1 hp'
 refine ⟨_,rfl,p,_,_,_,rfl,rfl,hp1,rfl,_,rfl,p',_,_,_,rfl,rfl,hp1',rfl,_,rfl,p,_,_,_,rfl,rfl,hp1,rfl,_,rfl,p',_,_,_,rfl,rfl,hp1',rfl,_,rfl,c,v,c',v',m,m',sh,_,rfl,Kw.Same.tup s1 gc,dc,Kw.Same.tup s1 gc',dc',m1,m2,m1',m2',Kw.Same.tup s1 gsh,ds,fun r2 H2 s2 g2=>?_⟩
 have hp2:=Kw.Same.tup s2 hp1
 refine ⟨_,rfl,_,rfl,_,rfl,p,_,_,_,rfl,rfl,hp2,rfl,by show 3<=sizeLine; decide,?_⟩
 intro p3 n3
 obtain ⟨H3,q3,s3,e3⟩:=newO n3 (.tup [.ref r1,.ref r2,.int m])
 rw [q3]
 clear q3
 exact k p3 r1 r2 H3 (s1.trans (s2.trans s3)) (SqT.of e3) (FQ.cast (Kw.Same.tup (s2.trans s3) g1) (mixS_one _ _ _ _)) (FQ.cast (Kw.Same.tup s3 g2) (mixS_one _ _ _ _))
noncomputable def ZP (K:PySem.W.Frag):Sp:=fun vs H Q _=>∃ (p_x:Addr) (x:Rat),vs=[.ref p_x]/\FQ K H p_x x/\FB 3900 x/\(∀ (p_r:Addr) (H1:Hp),Same H H1->FQ K H1 p_r (-x)->Q (.ref p_r) H1)
theorem sc_turned_about:FnScope ["number"] ["number"] (zD (top 52)):=⟨rfl,rfl,rfl,by decide+kernel,rfl,by decide+kernel,by decide+kernel⟩
theorem ok_turned_about (D:Df K mg "turned_about" (top 52) ["number"]) (T:Tx K mg C) (F_minus:Fn P w K mg base 3 "minus" ["one","other"] (ZW K)):Fn P w K mg base 4 "turned_about" ["number"] (ZP K):=by
 refine D.ok0 sc_turned_about (fun vs H Q E h=>?_) (fun f cdv A outer s H vs Q E hr h=>?_)
 ·obtain ⟨p_x,x,rfl,_⟩:=h
  rfl
 obtain ⟨p_x,x,rfl,g_x,d_x,k0⟩:=h
 refine ⟨_,(zG (zL (zI F_minus (by decide) hr (by rfl) zF (zA (zm (K:=K) rfl (by rfl) T.k_NOUGHT) (zA (pv 0) zC))))),?_⟩
 refine fun N10 hN10=>?_
 have g10:FQ K H N10 (((0:Int)):Rat):=hN10 _
 refine ⟨_,rfl,_,_,_,_,rfl,g10,(FB.mono (FB.ofInt (Bd.small (i:=0) (by decide) (by decide)) (by decide)) (by decide)),g_x,(FB.mono d_x (by decide)),fun p_r11 H11 s11 g_r11=>?_⟩
 have d_r11:FB 3965 (((((0:Int):Rat))) - x):=(FB.mono (FB.sub (FB.ofInt (Bd.small (i:=0) (by decide) (by decide)) (by decide)) d_x) (by decide))
 have e12:((((((0:Int):Rat))) - x):Rat)=-x:=by grind
 exact k0 _ _ s11 (FQ.cast g_r11 e12)
noncomputable def sp_parted (K:PySem.W.Frag):Sp:=fun vs H Q _=>∃ (z y:V) (a b:Rat × Rat × Option Int),vs=[z,y]/\GoQ K 1990 H z a/\GoQ K 1990 H y b/\(b.2.2=none∨a.2.2≠none)/\FB 1990 (ptd a b).1/\FB 1990 (ptd a b).2/\∀ (r f1 f2:Addr) (ys:List V) (H1:Hp),Same H H1->SqT K H1 r (.ref f1::.ref f2::ys)->FQ K H1 f1 (ptd a b).1->FQ K H1 f2 (ptd a b).2->Q (.ref r) H1
theorem sc_parted:FnScope ["own","far"] ["own","far"] (zD (top 63)):=⟨rfl,rfl,rfl,by decide+kernel,rfl,by decide+kernel,by decide+kernel⟩
theorem ok_parted (D:Df K mg "parted" (top 63) ["own","far"]) (T:Tx K mg C) (F_minus:Fn P w K mg base 3 "minus" ["one","other"] (ZW K)) (F_plus:Fn P w K mg base 2 "plus" ["one","other"] (Zw K)) (F_turned_about:Fn P w K mg base 4 "turned_about" ["number"] (ZP K)) (F_behind:Fn P w K mg base 4 "behind" ["one","other","share"] (J2 K)):Fn P w K mg base 5 "parted" ["own","far"] (sp_parted K):=by
 refine D.ok0 sc_parted (fun vs H Q E h=>?_) (fun f cdv A outer s H vs Q E hr h=>?_)
 ·obtain ⟨z,y,a,b,rfl,_⟩:=h
  rfl
 obtain ⟨z,y,a,b,rfl,⟨p,pa,pc,rfl,hp,ga,gc,da,dc,wa⟩,⟨p',pa',pc',rfl,hp',ga',gc',da',dc',wb⟩,hn,f1,f2,k⟩:=h
 refine ⟨_,(zE (ze (zR JR (zH ix_tup (pv 1) zB (fun _ _=>rfl)) yx (zT _)) (zG (zL (zV (zA (zI F_minus (by decide) hr (by rfl) zF (zA (zI F_plus (by decide) hr (by rfl) zF (zA (zH ix_tup (pv 1) zB (fun _ _=>rfl)) (zA (zH ix_tup (pv 1) zB (fun _ _=>rfl)) zC))) (zA (zH ix_tup (pv 0) zB (fun _ _=>rfl)) zC))) (zA (zI F_turned_about (by decide) hr (by rfl) zF (zA (zH ix_tup (pv 0) zB (fun _ _=>rfl)) zC)) (zA (zH ix_tup (pv 0) zB (fun _ _=>rfl)) zC)))))) zS)
   (zG (zL (zI F_behind (by decide) hr (by rfl) zF (zA (pv 0) (zA (pv 1) (zA (zm (K:=K) rfl (by rfl) T.k_ALL) zC))))))),?_⟩
 obtain ⟨x,v,om⟩:=a
 obtain ⟨x',v',ou⟩:=b
 cases ou with
 |none=>
  refine ⟨_,rfl,p',_,_,_,rfl,rfl,hp',rfl,rfl,_,rfl,iteT ?_⟩
  refine ⟨_,rfl,p',_,_,_,rfl,rfl,hp',rfl,_,rfl,p',_,_,_,rfl,rfl,hp',rfl,_,_,_,_,rfl,ga',da'.mono (by decide),ga',da'.mono (by decide),fun r1 H1 s1 k1=>?_⟩
  have hp1:=Kw.Same.tup s1 hp
  have d1:FB 3981 (x'+x'):=FB.add da' da'
  refine ⟨_,rfl,p,_,_,_,rfl,rfl,hp1,rfl,r1,_,pa,_,rfl,k1,d1.mono (by decide),Kw.Same.tup s1 ga,da.mono (by decide),fun r2 H2 s2 k2=>?_⟩
  have hp2:=Kw.Same.tup s2 hp1
  refine ⟨_,rfl,p,_,_,_,rfl,rfl,hp2,rfl,pc,_,rfl,Kw.Same.tup (s1.trans s2) gc,dc.mono (by decide),fun r3 H3 s3 k3=>?_⟩
  have hp3:=Kw.Same.tup s3 hp2
  refine ⟨_,rfl,p,_,_,_,rfl,rfl,hp3,rfl,by show 3<=sizeLine; decide,?_⟩
  intro p4 n4
  obtain ⟨H4,q4,s4,e4⟩:=newO n4 (.tup [.ref r2,.ref r3,wV om])
  rw [q4]
  clear q4
  exact k p4 r2 r3 [wV om] H4 (s1.trans (s2.trans (s3.trans s4))) (SqT.of e4) (Kw.Same.tup (s3.trans s4) k2) (Kw.Same.tup s4 k3)
 |some u=>
  cases om with
  |none=>rcases hn with hn|hn<;>exact absurd hn (by simp)
  |some m=>
   have w1:=wa m rfl
   have w2:=wb u rfl
   refine ⟨_,rfl,p',_,_,_,rfl,rfl,hp',rfl,rfl,_,rfl,iteF ?_⟩
   refine ⟨_,rfl,_,rfl,fun N hN=>?_⟩
   have gN:FQ K H N (((1:Int)):Rat):=hN _
   exact ⟨p,pa,pc,x,v,m,p',pa',pc',x',v',u,N,rfl,hp,ga,gc,da,dc,by omega,by omega,hp',ga',gc',da',dc',by omega,by omega,gN,fun r f1 f2 H1 s1 h1 h2 h3=>k r f1 f2 [.int m] H1 s1 h1 h2 h3⟩
noncomputable def ZM (K:PySem.W.Frag):Sp:=fun vs H Q _=>∃ (z y:V) (a b:Rat × Rat × Option Int),vs=[z,y]/\GoQ K 1990 H z a/\GoQ K 1990 H y b/\(a.2.1<=b.2.1->∀ H1,Same H H1->Q .non H1)/\(¬ a.2.1<=b.2.1->∀ (r:Addr) (H1:Hp),Same H H1->FQ K H1 r ((b.1 - a.1) / (a.2.1 - b.2.1))->Q (.ref r) H1)
theorem ZI:FnScope ["one","other","gain"] ["one","other"] (zD (top 25)):=⟨rfl,rfl,rfl,by decide+kernel,rfl,by decide+kernel,by decide+kernel⟩
theorem ok_joint_moment (D:Df K mg "joint_moment" (top 25) ["one","other"]) (T:Tx K mg C) (F_minus:Fn P w K mg base 3 "minus" ["one","other"] (ZW K)) (F_over:Fn P w K mg base 3 "over" ["one","other"] (sp_over K)):Fn P w K mg base 4 "joint_moment" ["one","other"] (ZM K):=by
 refine D.ok0 ZI (fun vs H Q E h=>?_) (fun f cdv A outer s H vs Q E hr h=>?_)
 ·obtain ⟨z,y,a,b,rfl,_⟩:=h
  rfl
 obtain ⟨z,y,⟨x,v,om⟩,⟨x',v',ou⟩,rfl,⟨p,pa,pc,rfl,hp,ga,gc,da,dc,wa⟩,⟨p',pa',pc',rfl,hp',ga',gc',da',dc',wb⟩,kn,ks⟩:=h
 refine ⟨_,(zE (zM (i:=2) ZI.nd rfl (Or.inl rfl) (zI F_minus (by decide) hr (by rfl) zF (zA (zH ix_tup (pv 0) zB (fun _ _=>rfl)) (zA (zH ix_tup (pv 1) zB (fun _ _=>rfl)) zC))))
   (zE (ze (zR JS (zH ix_tup (pv 2) zB (fun _ _=>rfl)) zB (zT _)) (zG (zL yx)) zS)
   (zG (zL (zI F_over (by decide) hr (by rfl) zF (zA (zI F_minus (by decide) hr (by rfl) zF (zA (zH ix_tup (pv 1) zB (fun _ _=>rfl)) (zA (zH ix_tup (pv 0) zB (fun _ _=>rfl)) zC))) (zA (pv 2) zC))))))),?_⟩
 refine ⟨_,rfl,p,_,_,_,rfl,rfl,hp,rfl,_,rfl,p',_,_,_,rfl,rfl,hp',rfl,pc,v,pc',v',rfl,gc,dc.mono (by decide),gc',dc'.mono (by decide),fun r1 H1 s1 g1=>?_⟩
 have g1':SqT K H1 r1 [.int (v - v').num,.int (((v - v').den:Nat):Int)]:=g1
 refine ⟨_,rfl,r1,_,_,_,rfl,rfl,g1',rfl,_,_,rfl,rfl,_,rfl,?_⟩
 refine zc (fun cc=>?_) (fun cc=>?_)
 ·have:=(q_le0 (v - v')).mp cc
  exact kn (by dsimp only; grind) H1 s1
 ·have pos:=mt (q_le0 (v - v')).mpr cc
  have hp1:=Kw.Same.tup s1 hp
  have hp1':=Kw.Same.tup s1 hp'
  refine ⟨_,rfl,p',_,_,_,rfl,rfl,hp1',rfl,_,rfl,p,_,_,_,rfl,rfl,hp1,rfl,pa',x',pa,x,rfl,Kw.Same.tup s1 ga',da'.mono (by decide),Kw.Same.tup s1 ga,da.mono (by decide),fun r2 H2 s2 g2=>?_⟩
  refine ⟨_,rfl,r2,_,r1,_,rfl,g2,(FB.sub da' da).mono (by decide),Kw.Same.tup s2 g1,(FB.sub dc dc').mono (by decide),(by dsimp only at *; grind),fun r3 H3 s3 g3=>?_⟩
  exact ks (by dsimp only; grind) r3 H3 (s1.trans (s2.trans s3)) g3
noncomputable def jM (K:PySem.W.Frag) (C:Addr):Sp:=fun vs H Q _=>∃ (p pb l:Addr) (R:Rat × Rat) (gs:List Bq) (dx:Addr) (fs:List (Str × V)) (wl g:Addr) (xs:List V) (q:Pr) (ys:List V) (bs:List Bq) (N:Nat),vs=[.ref p,.ref pb,.ref l]/\PlG K H C p R gs dx fs wl g xs/\H pb=some (.tup ((keyP q).map kV))/\H l=some (.lst ys)/\Al2 (BqH K N H) ys bs/\InP bs.length q/\1990<=N/\∀ (v:V) (H1:Hp),Same H H1->BqH K N H1 v (boxB R bs q.1 q.2.1)->Q v H1
theorem sc_Plane_one_of:FnScope ["self","pair","boxes"] ["self","pair","boxes"] (zD (zP (top 65) 1)):=⟨rfl,rfl,rfl,by decide+kernel,rfl,by decide+kernel,by decide+kernel⟩
theorem ok_Plane_one_of (D:DfM K (C 0) "one_of" "Plane.one_of" (zP (top 65) 1) ["self","pair","boxes"]) (T:Tx K mg C):FnM P w K mg base 1 (C 0) "one_of" ["self","pair","boxes"] (jM K (C 0)):=by
 refine D.ok0 sc_Plane_one_of (fun vs H Q E h=>?_) (fun f cdv A outer s H vs Q E hr h=>?_)
 ·obtain ⟨p,pb,l,R,gs,dx,fs,wl,g,xs,q,ys,bs,N,rfl,_⟩:=h
  rfl
 obtain ⟨p,pb,l,R,gs,dx,fs,wl,g,xs,q,ys,bs,N,rfl,pg,hb,hl,al,hin,hN,k⟩:=h
 refine ⟨_,(zG (zL (Jp (zR Z9 (zH ix_tup (pv 1) zB (fun _ _=>rfl)) zB (zT _)) (zH yb (pv 2) (zH ix_tup (pv 1) zB (fun _ _=>rfl)) (fun _ _=>rfl)) (j4 (Zx (u100 hr)) (zU T.cl_Plane T.n_Plane_walls (pv 0)) (zV (zA (zH ix_tup (pv 1) zB (fun _ _=>rfl)) (zA (zH ix_tup (pv 1) zB (fun _ _=>rfl)) zC))) (fun _ _=>rfl))))),?_⟩
 have hq:SqT K H pb [.int (q.1:Int),.int q.2.1,.int q.2.2]:=SqT.of hb
 have hz:=Al2.len al
 refine ⟨_,rfl,pb,_,_,_,rfl,rfl,hq,rfl,_,_,rfl,rfl,_,rfl,?_⟩
 refine zc (fun c=>?_) (fun c=>?_)
 ·obtain ⟨i,hi,ei⟩:∃ i,i < bs.length/\q.2.1=(i:Int):=by
   rcases hin.2.1 with z|z
   ·rw [z] at c
    exact absurd c (by decide)
   ·exact z
  obtain ⟨y,hy⟩:∃ y,ys[i]?=some y:=⟨_,List.getElem?_eq_getElem (by omega)⟩
  obtain ⟨b,hb',hyb⟩:=Al2.get al hy
  have e:boxB R bs q.1 q.2.1=b:=by
   unfold boxB bxAt
   rw [if_pos c,ei,Int.toNat_natCast,List.getD_eq_getElem?_getD,hb']
   rfl
  refine ⟨_,rfl,_,rfl,pb,_,_,_,rfl,rfl,hq,rfl,l,_,_,_,rfl,rfl,SqL.of hl,by rw [ei]; exact yB hy,?_⟩
  exact k y H (Same.refl _) (by rw [e]; exact hyb)
 ·have ci:q.2.1=-1∨q.2.1=-2:=by
   rcases hin.2.1 with z|⟨i,_,z⟩
   ·exact .inl z
   ·exact absurd (show 0<=q.2.1 by omega) c
  have e:boxB R bs q.1 q.2.1=jQ R q.1 q.2.1:=by
   unfold boxB
   rw [if_neg c]
  refine ⟨_,rfl,p,_,_,_,rfl,pg.ob,pg.fw,_,rfl,pb,_,_,_,rfl,rfl,hq,rfl,_,rfl,pb,_,_,_,rfl,rfl,hq,rfl,by show 2<=sizeLine; decide,?_⟩
  intro p1 n1
  obtain ⟨H1,q1,s1,e1⟩:=newO n1 (.tup [.int (q.1:Int),.int q.2.1])
  rw [q1]
  clear q1
  obtain ⟨w,kvs,hw,hv,hb'⟩:=(pg.ws.same s1).get (d:=q.1) (i:=q.2.1) hin.1 ci
  refine ⟨wl,w,rfl,?_,k w H1 s1 (by rw [e]; exact hb'.mono hN)⟩
  have z:=DGet.t (k:=keyW q.1 q.2.1) hw (b:=p1) e1
  rw [hv] at z
  exact z
noncomputable def yt (K:PySem.W.Frag) (C:Addr):Sp:=fun vs H Q _=>∃ (p pb l:Addr) (R:Rat × Rat) (gs:List Bq) (dx:Addr) (fs:List (Str × V)) (wl g:Addr) (xs:List V) (q:Pr) (ys:List V) (bs:List Bq) (N:Nat),vs=[.ref p,.ref pb,.ref l]/\PlG K H C p R gs dx fs wl g xs/\H pb=some (.tup ((keyP q).map kV))/\H l=some (.lst ys)/\Al2 (BqH K N H) ys bs/\InP bs.length q/\1990<=N/\∀ (v:V) (H1:Hp),Same H H1->BqH K N H1 v (boxB R bs q.1 q.2.2)->Q v H1
theorem sc_Plane_other_of:FnScope ["self","pair","boxes"] ["self","pair","boxes"] (zD (zP (top 65) 2)):=⟨rfl,rfl,rfl,by decide+kernel,rfl,by decide+kernel,by decide+kernel⟩
theorem ok_Plane_other_of (D:DfM K (C 0) "other_of" "Plane.other_of" (zP (top 65) 2) ["self","pair","boxes"]) (T:Tx K mg C):FnM P w K mg base 1 (C 0) "other_of" ["self","pair","boxes"] (yt K (C 0)):=by
 refine D.ok0 sc_Plane_other_of (fun vs H Q E h=>?_) (fun f cdv A outer s H vs Q E hr h=>?_)
 ·obtain ⟨p,pb,l,R,gs,dx,fs,wl,g,xs,q,ys,bs,N,rfl,_⟩:=h
  rfl
 obtain ⟨p,pb,l,R,gs,dx,fs,wl,g,xs,q,ys,bs,N,rfl,pg,hb,hl,al,hin,hN,k⟩:=h
 refine ⟨_,(zG (zL (Jp (zR Z9 (zH ix_tup (pv 1) zB (fun _ _=>rfl)) zB (zT _)) (zH yb (pv 2) (zH ix_tup (pv 1) zB (fun _ _=>rfl)) (fun _ _=>rfl)) (j4 (Zx (u100 hr)) (zU T.cl_Plane T.n_Plane_walls (pv 0)) (zV (zA (zH ix_tup (pv 1) zB (fun _ _=>rfl)) (zA (zH ix_tup (pv 1) zB (fun _ _=>rfl)) zC))) (fun _ _=>rfl))))),?_⟩
 have hq:SqT K H pb [.int (q.1:Int),.int q.2.1,.int q.2.2]:=SqT.of hb
 have hz:=Al2.len al
 refine ⟨_,rfl,pb,_,_,_,rfl,rfl,hq,rfl,_,_,rfl,rfl,_,rfl,?_⟩
 refine zc (fun c=>?_) (fun c=>?_)
 ·obtain ⟨i,hi,ei⟩:∃ i,i < bs.length/\q.2.2=(i:Int):=by
   rcases hin.2.2.1 with z|z
   ·rw [z] at c
    exact absurd c (by decide)
   ·exact z
  obtain ⟨y,hy⟩:∃ y,ys[i]?=some y:=⟨_,List.getElem?_eq_getElem (by omega)⟩
  obtain ⟨b,hb',hyb⟩:=Al2.get al hy
  have e:boxB R bs q.1 q.2.2=b:=by
   unfold boxB bxAt
   rw [if_pos c,ei,Int.toNat_natCast,List.getD_eq_getElem?_getD,hb']
   rfl
  refine ⟨_,rfl,_,rfl,pb,_,_,_,rfl,rfl,hq,rfl,l,_,_,_,rfl,rfl,SqL.of hl,by rw [ei]; exact yB hy,?_⟩
  exact k y H (Same.refl _) (by rw [e]; exact hyb)
 ·have ci:q.2.2=-1∨q.2.2=-2:=by
   rcases hin.2.2.1 with z|⟨i,_,z⟩
   ·exact .inr z
   ·exact absurd (show 0<=q.2.2 by omega) c
  have e:boxB R bs q.1 q.2.2=jQ R q.1 q.2.2:=by
   unfold boxB
   rw [if_neg c]
  refine ⟨_,rfl,p,_,_,_,rfl,pg.ob,pg.fw,_,rfl,pb,_,_,_,rfl,rfl,hq,rfl,_,rfl,pb,_,_,_,rfl,rfl,hq,rfl,by show 2<=sizeLine; decide,?_⟩
  intro p1 n1
  obtain ⟨H1,q1,s1,e1⟩:=newO n1 (.tup [.int (q.1:Int),.int q.2.2])
  rw [q1]
  clear q1
  obtain ⟨w,kvs,hw,hv,hb'⟩:=(pg.ws.same s1).get (d:=q.1) (i:=q.2.2) hin.1 ci
  refine ⟨wl,w,rfl,?_,k w H1 s1 (by rw [e]; exact hb'.mono hN)⟩
  have z:=DGet.t (k:=keyW q.1 q.2.2) hw (b:=p1) e1
  rw [hv] at z
  exact z
noncomputable def ZA (K:PySem.W.Frag) (C:Addr):Sp:=fun vs H Q _=>∃ (p pb:Addr) (R:Rat × Rat) (gs:List Bq) (dx:Addr) (fs:List (Str × V)) (wl g:Addr) (xs:List V) (q:Pr),vs=[.ref p,.ref pb]/\PlG K H C p R gs dx fs wl g xs/\H pb=some (.tup ((keyP q).map kV))/\InP gs.length q/\FB 1990 ((boxB R gs q.1 q.2.1).far q.1)/\(∀ t,jntP R gs q=some t->FB 2000 t)/\∀ (v:V) (H1:Hp),Same H H1->OptB K H1 v (jntP R gs q)->Q v H1
theorem yu:FnScope ["self","pair","one","other"] ["self","pair"] (zD (zP (top 65) 3)):=⟨rfl,rfl,rfl,by decide+kernel,rfl,by decide+kernel,by decide+kernel⟩
theorem ok_Plane_joint_of (D:DfM K (C 0) "joint_of" "Plane.joint_of" (zP (top 65) 3) ["self","pair"]) (T:Tx K mg C) (F_far_going:Fn P w K mg base 4 "far_going" ["box","way"] (ZC K)) (F_Plane_one_of:FnM P w K mg base 1 (C 0) "one_of" ["self","pair","boxes"] (jM K (C 0))) (F_near_going:Fn P w K mg base 1 "near_going" ["box","way"] (jn K)) (F_Plane_other_of:FnM P w K mg base 1 (C 0) "other_of" ["self","pair","boxes"] (yt K (C 0))) (F_joint_moment:Fn P w K mg base 4 "joint_moment" ["one","other"] (ZM K)):FnM P w K mg base 5 (C 0) "joint_of" ["self","pair"] (ZA K (C 0)):=by
 refine D.ok0 yu (fun vs H Q E h=>?_) (fun f cdv A outer s H vs Q E hr h=>?_)
 ·obtain ⟨p,pb,R,gs,dx,fs,wl,g,xs,q,rfl,_⟩:=h
  rfl
 obtain ⟨p,pb,R,gs,dx,fs,wl,g,xs,q,rfl,pg,hb,hin,fb,ft,k⟩:=h
 refine ⟨_,(zE (zM (i:=2) yu.nd rfl (Or.inl rfl) (zI F_far_going (by decide) hr (by rfl) zF (zA (yV T.cl_Plane F_Plane_one_of (by decide) hr zF (pv 0) (zA (pv 1) (zA (zU T.cl_Plane T.n_Plane_goings (pv 0)) zC))) (zA (zH ix_tup (pv 1) zB (fun _ _=>rfl)) zC))))
   (zE (zM (i:=3) yu.nd rfl (Or.inl rfl) (zI F_near_going (by decide) hr (by rfl) zF (zA (yV T.cl_Plane F_Plane_other_of (by decide) hr zF (pv 0) (zA (pv 1) (zA (zU T.cl_Plane T.n_Plane_goings (pv 0)) zC))) (zA (zH ix_tup (pv 1) zB (fun _ _=>rfl)) zC))))
   (zG (zL (zI F_joint_moment (by decide) hr (by rfl) zF (zA (pv 2) (zA (pv 3) zC))))))),?_⟩
 have hq:SqT K H pb [.int (q.1:Int),.int q.2.1,.int q.2.2]:=SqT.of hb
 refine ⟨_,rfl,p,_,_,rfl,pg.ob,pg.nm.one_of,_,rfl,_,rfl,p,_,_,_,rfl,pg.ob,pg.fg,p,pb,g,R,gs,dx,fs,wl,g,xs,q,xs,gs,1990,rfl,pg,hb,pg.hg,pg.al,hin,Nat.le_refl _,fun v1 H1 s1 k1=>?_⟩
 have hq1:=Kw.Same.tup s1 hq
 refine ⟨_,rfl,pb,_,_,_,rfl,rfl,hq1,rfl,v1,_,q.1,rfl,k1,hin.1,fb,fun r2 H2 s2 k2=>?_⟩
 have s12:=s1.trans s2
 have pg2:=pg.same s12
 refine ⟨_,rfl,p,_,_,rfl,pg2.ob,pg2.nm.other_of,_,rfl,_,rfl,p,_,_,_,rfl,pg2.ob,pg2.fg,p,pb,g,R,gs,dx,fs,wl,g,xs,q,xs,gs,1990,rfl,pg2,s12 _ _ hb,pg2.hg,pg2.al,hin,Nat.le_refl _,fun v3 H3 s3 k3=>?_⟩
 have s13:=s12.trans s3
 have hq3:=Kw.Same.tup s13 hq
 refine ⟨_,rfl,pb,_,_,_,rfl,rfl,hq3,rfl,v3,_,q.1,rfl,k3,hin.1,fun r4 H4 s4 k4=>?_⟩
 have s14:=s13.trans s4
 refine ⟨_,rfl,_,rfl,_,_,farG (boxB R gs q.1 q.2.1) q.1,yE (boxB R gs q.1 q.2.2) q.1,rfl,k2.same (s3.trans s4),k4,fun c H5 s5=>?_,fun c r5 H5 s5 g5=>?_⟩
 ·refine k _ H5 (s14.trans s5) (.inl ⟨?_,rfl⟩)
  unfold jntP
  exact if_pos c
 ·have e:jntP R gs q=some (((boxB R gs q.1 q.2.2).pl q.1 - (boxB R gs q.1 q.2.1).far q.1) / ((boxB R gs q.1 q.2.1).sp q.1 - (boxB R gs q.1 q.2.2).sp q.1)):=by
   unfold jntP
   exact if_neg c
  exact k _ H5 (s14.trans s5) (.inr ⟨_,r5,e,rfl,g5,ft _ e⟩)
noncomputable def Y9 (K:PySem.W.Frag) (C:Addr):Sp:=fun vs H Q _=>∃ (p pb pt:Addr) (R:Rat × Rat) (gs:List Bq) (dx:Addr) (fs:List (Str × V)) (wl g:Addr) (xs:List V) (q:Pr) (t:Rat),vs=[.ref p,.ref pb,.ref pt]/\PlG K H C p R gs dx fs wl g xs/\H pb=some (.tup ((keyP q).map kV))/\InP gs.length q/\FQ K H pt t/\FB 2000 t/\∀ (H1:Hp),Same H H1->Q (.bl (metP R gs t q)) H1
theorem yw:FnScope ["self","pair","moment","one","other"] ["self","pair","moment"] (zD (zP (top 65) 8)):=⟨rfl,rfl,rfl,by decide+kernel,rfl,by decide+kernel,by decide+kernel⟩
theorem ok_Plane_meet_at (D:DfM K (C 0) "meet_at" "Plane.meet_at" (zP (top 65) 8) ["self","pair","moment"]) (T:Tx K mg C) (F_box_at:Fn P w K mg base 4 "box_at" ["box","moment"] (Yq K)) (F_Plane_one_of:FnM P w K mg base 1 (C 0) "one_of" ["self","pair","boxes"] (jM K (C 0))) (F_Plane_other_of:FnM P w K mg base 1 (C 0) "other_of" ["self","pair","boxes"] (yt K (C 0))) (F_have_in_common:Fn P w K mg base 4 "have_in_common" ["one","other","way"] (yJ K)):FnM P w K mg base 5 (C 0) "meet_at" ["self","pair","moment"] (Y9 K (C 0)):=by
 refine D.ok0 yw (fun vs H Q E h=>?_) (fun f cdv A outer s H vs Q E hr h=>?_)
 ·obtain ⟨p,pb,pt,R,gs,dx,fs,wl,g,xs,q,t,rfl,_⟩:=h
  rfl
 obtain ⟨p,pb,pt,R,gs,dx,fs,wl,g,xs,q,t,rfl,pg,hb,hin,gt,dt,k⟩:=h
 refine ⟨_,(zE (zM (i:=3) yw.nd rfl (Or.inl rfl) (zI F_box_at (by decide) hr (by rfl) zF (zA (yV T.cl_Plane F_Plane_one_of (by decide) hr zF (pv 0) (zA (pv 1) (zA (zU T.cl_Plane T.n_Plane_goings (pv 0)) zC))) (zA (pv 2) zC))))
   (zE (zM (i:=4) yw.nd rfl (Or.inl rfl) (zI F_box_at (by decide) hr (by rfl) zF (zA (yV T.cl_Plane F_Plane_other_of (by decide) hr zF (pv 0) (zA (pv 1) (zA (zU T.cl_Plane T.n_Plane_goings (pv 0)) zC))) (zA (pv 2) zC))))
   (zG (zL (zI F_have_in_common (by decide) hr (by rfl) zF (zA (pv 3) (zA (pv 4) (zA (zN ZY zB (zH ix_tup (pv 1) zB (fun _ _=>rfl))) zC)))))))),?_⟩
 have hq:SqT K H pb [.int (q.1:Int),.int q.2.1,.int q.2.2]:=SqT.of hb
 refine ⟨_,rfl,p,_,_,rfl,pg.ob,pg.nm.one_of,_,rfl,_,rfl,p,_,_,_,rfl,pg.ob,pg.fg,p,pb,g,R,gs,dx,fs,wl,g,xs,q,xs,gs,1990,rfl,pg,hb,pg.hg,pg.al,hin,Nat.le_refl _,fun v1 H1 s1 k1=>?_⟩
 refine ⟨_,rfl,v1,_,pt,t,rfl,k1,Kw.Same.tup s1 gt,dt,fun r2 H2 s2 k2=>?_⟩
 have s12:=s1.trans s2
 have pg2:=pg.same s12
 refine ⟨_,rfl,p,_,_,rfl,pg2.ob,pg2.nm.other_of,_,rfl,_,rfl,p,_,_,_,rfl,pg2.ob,pg2.fg,p,pb,g,R,gs,dx,fs,wl,g,xs,q,xs,gs,1990,rfl,pg2,s12 _ _ hb,pg2.hg,pg2.al,hin,Nat.le_refl _,fun v3 H3 s3 k3=>?_⟩
 have s13:=s12.trans s3
 refine ⟨_,rfl,v3,_,pt,t,rfl,k3,Kw.Same.tup s13 gt,dt,fun r4 H4 s4 k4=>?_⟩
 have s14:=s13.trans s4
 have hq4:=Kw.Same.tup s14 hq
 refine ⟨_,rfl,_,rfl,_,rfl,pb,_,_,_,rfl,rfl,hq4,rfl,_,_,rfl,rfl,_,_,_,_,1 - q.1,?_,k2.same (s3.trans s4),k4,by omega,fun H5 s5=>k H5 (s14.trans s5)⟩
 have h1:=hin.1
 rw [show ((1 - q.1:Nat):Int)=1 - (q.1:Int) by omega]
 rfl
noncomputable def yH (K:PySem.W.Frag) (C:Addr):Sp:=fun vs H Q _=>∃ (p pb:Addr) (R:Rat × Rat) (gs:List Bq) (dx:Addr) (fs:List (Str × V)) (j:Addr) (kvs:List (List Key × V)) (q:Pr),vs=[.ref p,.ref pb]/\H p=some (.ins C dx fs)/\PlJ K H R gs fs j kvs/\H pb=some (.tup ((keyP q).map kV))/\InP gs.length q/\∀ (H1:Hp),Same H H1->Q (.bl (corP R gs q)) H1
theorem yO:FnScope ["self","pair","aside"] ["self","pair"] (zD (zP (top 65) 9)):=⟨rfl,rfl,rfl,by decide+kernel,rfl,by decide+kernel,by decide+kernel⟩
theorem ok_Plane_close_at_a_corner (D:DfM K (C 0) "close_at_a_corner" "Plane.close_at_a_corner" (zP (top 65) 9) ["self","pair"]) (T:Tx K mg C):FnM P w K mg base 1 (C 0) "close_at_a_corner" ["self","pair"] (yH K (C 0)):=by
 refine D.ok0 yO (fun vs H Q E h=>?_) (fun f cdv A outer s H vs Q E hr h=>?_)
 ·obtain ⟨p,pb,R,gs,dx,fs,j,kvs,q,rfl,_⟩:=h
  rfl
 obtain ⟨p,pb,R,gs,dx,fs,j,kvs,q,rfl,hp,pj,hb,hin,k⟩:=h
 refine ⟨_,(zE (ze (y9 (zR Zy (zH ix_tup (pv 1) zB (fun _ _=>rfl)) zB (zT _)) (yY (zR Zy (zH ix_tup (pv 1) zB (fun _ _=>rfl)) zB (zT _)))).pt (zG (zL yM)) zS)
   (zE (zM (i:=2) yO.nd rfl (Or.inl rfl) (zN ZY zB (zH ix_tup (pv 1) zB (fun _ _=>rfl))))
   (zG (zL (yv (op_inOB (K:=K) rfl (u100 hr)) (j4 (Zx (u100 hr)) (zU T.cl_Plane T.n_Plane_joints (pv 0)) (pv 1) (fun _ _=>rfl)) (zV (zA (j4 (Zx (u100 hr)) (zU T.cl_Plane T.n_Plane_joints (pv 0)) (zV (zA (pv 2) (zA (zH ix_tup (pv 1) zB (fun _ _=>rfl)) (zA (zH ix_tup (pv 1) zB (fun _ _=>rfl)) zC)))) (fun _ _=>rfl)) (zA (j4 (Zx (u100 hr)) (zU T.cl_Plane T.n_Plane_joints (pv 0)) (zV (zA (pv 2) (zA (zH ix_tup (pv 1) zB (fun _ _=>rfl)) (zA (zH ix_tup (pv 1) zB (fun _ _=>rfl)) zC)))) (fun _ _=>rfl)) zC))) (by first|rfl|with_unfolding_all rfl)))))),?_⟩
 have hq:SqT K H pb [.int (q.1:Int),.int q.2.1,.int q.2.2]:=SqT.of hb
 unfold corP at k
 have h1:=hin.1
 have get:∀ {H1:Hp} {b:Addr} {q':Pr},Same H H1->InP gs.length q'->H1 b=some (.tup ((keyP q').map kV))->∃ v,DGet H1 j (.ref b) (some v)/\OptB K H1 v (jntP R gs q'):=fun {H1 b q'} s1 hi hb'=>by
  obtain ⟨v,e1,e2⟩:=(pj.same s1).get (yK.mpr hi)
  exact ⟨v,.inr ⟨kvs,keyP q',b,(pj.same s1).hj,rfl,hb',e1.symm⟩,e2⟩
 refine cut1 (fun σ' H'=>σ'=[some (.ref p),some (.ref pb),none]/\H'=H/\0<=q.2.1/\0<=q.2.2) (fun N hN=>?_) ?_
 ·refine ⟨_,rfl,pb,_,_,_,rfl,rfl,hq,rfl,_,_,rfl,rfl,_,rfl,?_⟩
  refine zc (fun c=>?_) (fun c=>?_)
  ·refine iteT ?_
   have z:=k H (Same.refl _)
   rw [decide_eq_false (show ¬ 0<=q.2.1 by omega),Bool.false_and] at z
   exact z
  ·refine ⟨_,rfl,pb,_,_,_,rfl,rfl,hq,rfl,_,_,rfl,rfl,_,rfl,?_⟩
   refine zc (fun c2=>?_) (fun c2=>?_)
   ·have z:=k H (Same.refl _)
    rw [decide_eq_true (show 0<=q.2.1 by omega),decide_eq_false (show ¬ 0<=q.2.2 by omega),Bool.false_and,Bool.and_false] at z
    exact z
   ·exact hN _ _ ⟨rfl,rfl,by omega,by omega⟩
 rintro σ' H' ⟨rfl,rfl,c1,c2⟩
 rw [decide_eq_true c1,decide_eq_true c2,Bool.true_and,Bool.true_and] at k
 refine ⟨_,rfl,pb,_,_,_,rfl,rfl,hq,rfl,_,_,rfl,rfl,?_⟩
 obtain ⟨v0,d0,o0⟩:=get (Same.refl _) hin hb
 refine ⟨_,rfl,p,_,_,_,rfl,hp,pj.fj,_,rfl,j,v0,rfl,d0,?_⟩
 have i1:InP gs.length (1 - q.1,q.2.1,q.2.2):=⟨by show 1 - q.1<=1; omega,hin.2⟩
 have i2:InP gs.length (1 - q.1,q.2.2,q.2.1):=by
  refine ⟨by show 1 - q.1<=1; omega,.inr ?_,.inr ?_,Ne.symm hin.2.2.2.1,.inl c2⟩
  ·rcases hin.2.2.1 with z|z
   ·exact absurd c2 (by rw [z]; decide)
   ·exact z
  ·rcases hin.2.1 with z|z
   ·exact absurd c1 (by rw [z]; decide)
   ·exact z
 have ed:(1:Int) - (q.1:Int)=((1 - q.1:Nat):Int):=by omega
 refine ⟨_,rfl,p,_,_,_,rfl,hp,pj.fj,_,rfl,_,rfl,pb,_,_,_,rfl,rfl,hq,rfl,_,rfl,pb,_,_,_,rfl,rfl,hq,rfl,by show 3<=sizeLine; decide,?_⟩
 intro p1 n1
 obtain ⟨H1,q1,s1,e1⟩:=newO n1 (.tup [.int (1 - (q.1:Int)),.int q.2.1,.int q.2.2])
 rw [q1]
 clear q1
 have e1':H1 p1=some (.tup ((keyP (1 - q.1,q.2.1,q.2.2)).map kV)):=by
  rw [e1,ed]
  rfl
 obtain ⟨v1,d1,o1⟩:=get s1 i1 e1'
 have hq1:=Kw.Same.tup s1 hq
 refine ⟨j,v1,rfl,d1,_,rfl,p,_,_,_,rfl,s1 _ _ hp,pj.fj,_,rfl,_,rfl,pb,_,_,_,rfl,rfl,hq1,rfl,_,rfl,pb,_,_,_,rfl,rfl,hq1,rfl,by show 3<=sizeLine; decide,?_⟩
 intro p2 n2
 obtain ⟨H2,q2,s2,e2⟩:=newO n2 (.tup [.int (1 - (q.1:Int)),.int q.2.2,.int q.2.1])
 rw [q2]
 clear q2
 have s12:=s1.trans s2
 have e2':H2 p2=some (.tup ((keyP (1 - q.1,q.2.2,q.2.1)).map kV)):=by
  rw [e2,ed]
  rfl
 obtain ⟨v2,d2,o2⟩:=get s12 i2 e2'
 refine ⟨j,v2,rfl,d2,by show 2<=sizeLine; decide,?_⟩
 intro p3 n3
 obtain ⟨H3,q3,s3,e3⟩:=newO n3 (.tup [v1,v2])
 rw [q3]
 clear q3
 have s13:=s12.trans s3
 exact ⟨p3,v1,v2,_,_,_,rfl,SqT.of e3,o0.same s13,o1.same (s2.trans s3),o2.same s3,k H3 s13⟩
noncomputable def Z1 (K:PySem.W.Frag) (C:Addr):Sp:=fun vs H Q _=>∃ (p dx:Addr) (v:V) (now:Rat) (c o:Option Rat) (fs:List (Str × V)) (nw:Addr) (co:V),vs=[.ref p,v]/\H p=some (.ins C dx fs)/\PlC K H now c fs nw co/\OptB K H v o/\∀ (H1:Hp),Same H H1->Q (.bl (ZO now c o)) H1
theorem sc_Plane_is_sooner:FnScope ["self","moment"] ["self","moment"] (zD (zP (top 65) 6)):=⟨rfl,rfl,rfl,by decide+kernel,rfl,by decide+kernel,by decide+kernel⟩
theorem ok_Plane_is_sooner (D:DfM K (C 0) "is_sooner" "Plane.is_sooner" (zP (top 65) 6) ["self","moment"]) (T:Tx K mg C) (F_under:Fn P w K mg base 1 "under" ["one","other"] (Zd K)):FnM P w K mg base 2 (C 0) "is_sooner" ["self","moment"] (Z1 K (C 0)):=by
 refine D.ok0 sc_Plane_is_sooner (fun vs H Q E h=>?_) (fun f cdv A outer s H vs Q E hr h=>?_)
 ·obtain ⟨p,dx,v,now,c,o,fs,nw,co,rfl,_⟩:=h
  rfl
 obtain ⟨p,dx,v,now,c,o,fs,nw,co,rfl,hp,pc,ov,k⟩:=h
 refine ⟨_,(zE (ze (y9 (zR JR (pv 1) yx (zT _)) (yY (zf (zI F_under (by decide) hr (by rfl) zF (zA (pv 1) (zA (zU T.cl_Plane T.n_Plane_now (pv 0)) zC))) (fun _=>rfl)))).pt (zG (zL yM)) zS)
   (zG (zL (pe_or (yv JR (zU T.cl_Plane T.n_Plane_coming (pv 0)) yx (zT _)) (yP (zI F_under (by decide) hr (by rfl) zF (zA (pv 1) (zA (zU T.cl_Plane T.n_Plane_coming (pv 0)) zC)))))))),?_⟩
 rcases ov with ⟨rfl,rfl⟩|⟨t,pt,rfl,rfl,gt,dt⟩
 ·refine ⟨_,rfl,rfl,_,rfl,iteT ?_⟩
  refine iteT ?_
  exact k H (Same.refl _)
 ·refine ⟨_,rfl,rfl,_,rfl,iteF ?_⟩
  refine ⟨_,rfl,_,rfl,p,_,_,_,rfl,hp,pc.fn,pt,t,nw,now,rfl,gt,dt.mono (by decide),pc.gn,pc.dn.mono (by decide),fun H1 s1=>⟨_,rfl,?_⟩⟩
  refine zc (fun lt=>?_) (fun lt=>?_)
  ·have z:=k H1 s1
   unfold ZO at z
   dsimp only at z
   rw [if_pos lt] at z
   exact z
  ·unfold ZO at k
   dsimp only at k
   rw [if_neg lt] at k
   have pc1:=pc.same s1
   refine ⟨_,rfl,p,_,_,_,rfl,s1 _ _ hp,pc1.fc,rfl,_,rfl,?_⟩
   rcases pc1.oc with ⟨ec,eo⟩|⟨sq,ps,ec,eo,gs',ds⟩
   ·rw [ec] at k
    rw [eo]
    exact iteT (k H1 s1)
   ·rw [ec] at k
    rw [eo]
    refine iteF ?_
    exact ⟨_,rfl,_,rfl,p,_,_,_,rfl,s1 _ _ hp,pc1.fc.trans (by rw [eo]),pt,t,ps,sq,rfl,Kw.Same.tup s1 gt,dt.mono (by decide),gs',ds.mono (by decide),fun H2 s2=>k H2 (s1.trans s2)⟩
noncomputable def jg (K:PySem.W.Frag) (C:Addr):Sp:=fun vs H Q _=>∃ (p pb:Addr) (R:Rat × Rat) (gs:List Bq) (dx:Addr) (fs:List (Str × V)) (j:Addr) (kvs:List (List Key × V)) (q:Pr) (c:Option Rat) (co:V),vs=[.ref p,.ref pb]∧H p=some (.ins C dx fs)∧PlJ K H R gs fs j kvs∧H pb=some (.tup ((keyP q).map kV))∧InP gs.length q∧fs.lookup ("coming" : Str)=some co∧OptB K H co c∧Q (.bl (cmgP R gs c q)) H
theorem sc_Plane_is_coming:FnScope ["self","pair"] ["self","pair"] (zD (zP (top 65) 7)):=⟨rfl,rfl,rfl,by decide+kernel,rfl,by decide+kernel,by decide+kernel⟩
theorem ok_Plane_is_coming (D:DfM K (C 0) "is_coming" "Plane.is_coming" (zP (top 65) 7) ["self","pair"]) (T:Tx K mg C):FnM P w K mg base 1 (C 0) "is_coming" ["self","pair"] (jg K (C 0)):=by
 refine D.ok0 sc_Plane_is_coming (fun vs H Q E h=>?_) (fun f cdv A outer s H vs Q E hr h=>?_)
 ·obtain ⟨p,pb,R,gs,dx,fs,j,kvs,q,c,co,rfl,_⟩:=h
  rfl
 obtain ⟨p,pb,R,gs,dx,fs,j,kvs,q,c,co,rfl,hp,pj,hb,hin,fc,oc,k⟩:=h
 refine ⟨_,(zG (zL (yZ (yv op_notN (zU T.cl_Plane T.n_Plane_coming (pv 0)) yx (zT _)) (yP (yv (op_eqOB (K:=K) rfl (u100 hr)) (j4 (Zx (u100 hr)) (zU T.cl_Plane T.n_Plane_joints (pv 0)) (pv 1) (fun _ _=>rfl)) (zU T.cl_Plane T.n_Plane_coming (pv 0)) (zT _)))))),?_⟩
 unfold cmgP at k
 refine ⟨_,rfl,p,_,_,_,rfl,hp,fc,rfl,_,rfl,?_⟩
 rcases id oc with ⟨ec,eo⟩|⟨sq,ps,ec,eo,gs',ds⟩
 ·rw [decide_eq_false (fun z=>z ec),Bool.false_and] at k
  rw [eo]
  exact iteF k
 ·rw [decide_eq_true (show c≠none by rw [ec]; exact fun z=>nomatch z),Bool.true_and] at k
  obtain ⟨v,e1,e2⟩:=pj.get (yK.mpr hin)
  rw [show (!decide (co=V.non))=true by rw [eo]; rfl]
  refine iteT ?_
  exact ⟨_,rfl,p,_,_,_,rfl,hp,pj.fj,_,rfl,j,v,rfl,.inr ⟨kvs,keyP q,pb,pj.hj,rfl,hb,e1.symm⟩,_,rfl,p,_,_,_,rfl,hp,fc,_,_,e2,oc,k⟩
noncomputable def jU (K:PySem.W.Frag) (C:Addr):Sp:=fun vs H Q _=>∃ (p:Addr) (R:Rat × Rat) (gs:List Bq) (dx:Addr) (fs:List (Str × V)) (wl g:Addr) (xs:List V) (j:Addr) (kvs:List (List Key × V)) (nw:Addr) (now:Rat),vs=[.ref p]∧PlG K H C p R gs dx fs wl g xs∧PlJ K H R gs fs j kvs∧H j=some (.dT kvs)∧wl≠j∧fs.lookup ("now" : Str)=some (.ref nw)∧FQ K H nw now∧FB 2000 now∧fs.length < 900∧gs.length≤6∧∀ (co:V) (du:Addr) (ds:List V) (H1:Hp),But p H H1→H du=none→H1 p=some (.ins C dx (putF ("due" : Str) (.ref du) (putF ("coming" : Str) co fs)))→OptB K H1 co (comP R gs now)→H1 du=some (.lst ds)→Al2 (PrH H1) ds (dueP R gs now)→Q .non H1
theorem yW:FnScope ["self","pair","moment"] ["self"] (zD (zP (top 65) 5)):=⟨rfl,rfl,rfl,by decide+kernel,rfl,by decide+kernel,by decide+kernel⟩
theorem ok_Plane_look_ahead (D:DfM K (C 0) "look_ahead" "Plane.look_ahead" (zP (top 65) 5) ["self"]) (T:Tx K mg C) (F_Plane_is_sooner:FnM P w K mg base 2 (C 0) "is_sooner" ["self","moment"] (Z1 K (C 0))) (F_Plane_meet_at:FnM P w K mg base 5 (C 0) "meet_at" ["self","pair","moment"] (Y9 K (C 0))) (F_Plane_close_at_a_corner:FnM P w K mg base 1 (C 0) "close_at_a_corner" ["self","pair"] (yH K (C 0))) (F_Plane_is_coming:FnM P w K mg base 1 (C 0) "is_coming" ["self","pair"] (jg K (C 0))):FnM P w K mg base 6 (C 0) "look_ahead" ["self"] (jU K (C 0)):=by
 refine D.ok0 yW (fun vs H Q E h=>?_) (fun f cdv A outer s H vs Q E hr h=>?_)
 ·obtain ⟨p,R,gs,dx,fs,wl,g,xs,j,kvs,nw,now,rfl,_⟩:=h
  rfl
 obtain ⟨p,R,gs,dx,fs,wl,g,xs,j,kvs,nw,now,rfl,pg,pj,hj,njw,fn,gn,dn,fl,l6,k⟩:=h
 refine ⟨_,(zE (jI T.cl_Plane T.n_Plane_coming (pv 0) yx)
   (zE (ps_thaw (zr PassesOwn.never rfl (JB (zU T.cl_Plane T.n_Plane_joints (pv 0))) (zd (i:=1) yW.nd rfl (Or.inl rfl)) (zE (zM (i:=2) yW.nd rfl (Or.inl rfl) (j4 (Zx (u100 hr)) (zU T.cl_Plane T.n_Plane_joints (pv 0)) (pv 1) (fun _ _=>rfl)))
   (zG (ze (j8 (zf (yV T.cl_Plane F_Plane_is_sooner (by decide) hr zF (pv 0) (zA (pv 2) zC)) (fun _=>rfl)) (jF (y9 (zf (yV T.cl_Plane F_Plane_meet_at (by decide) hr zF (pv 0) (zA (pv 1) (zA (pv 2) zC))) (fun _=>rfl)) (yY (zf (yV T.cl_Plane F_Plane_close_at_a_corner (by decide) hr zF (pv 0) (zA (pv 1) zC)) (fun _=>rfl)))).pt)).pt (zG (jI T.cl_Plane T.n_Plane_coming (pv 0) (pv 2))) zS)))))
   (zG (jI T.cl_Plane T.n_Plane_due (pv 0) (pe_thaw (@pe_lcT _ _ _ _ _ _ _ _ _ _ _ _ ["self"] [0] rfl (JB (zU T.cl_Plane T.n_Plane_joints (pv 0))) rfl (by decide) rfl (by decide) rfl (by decide) (je (j:=0) rfl rfl rfl rfl (.inl rfl)) (fun y c h=>h) (ZR rfl) (fun C z Hc fp=>pts_one (j8 (zf (yV T.cl_Plane F_Plane_is_coming (by decide) hr zF (pv 1) (zA (pv 0) zC)) (fun _=>rfl)) (jF (zf (yV T.cl_Plane F_Plane_meet_at (by decide) hr zF (pv 1) (zA (pv 0) (zA (zU T.cl_Plane T.n_Plane_coming (pv 1)) zC))) (fun _=>rfl)))).pt) (fun C z Hc fp=>(pv 0)) (fun _=>rfl))))))),?_⟩
 have c1:("coming" : Str)="coming"∨("coming" : Str)="due"∨("coming" : Str)="now"∨("coming" : Str)="gone_through":=.inl rfl
 have npj:p≠j:=zq pg.ob hj (by intro z; cases z)
 have npg:p≠g:=zq pg.ob pg.hg (by intro z; cases z)
 have njg:j≠g:=zq hj pg.hg (by intro z; cases z)
 obtain ⟨wkv,hwl⟩:∃ kv,H wl=some (.dT kv):=by
  obtain ⟨_,_,_,_,e,_⟩:=pg.ws
  exact ⟨_,e⟩
 have npw:p≠wl:=zq pg.ob hwl (by intro z; cases z)
 have lk:kvs.length<=200:=by
  have z:=congrArg List.length pj.ks
  rw [List.length_map,List.length_map] at z
  have:=Zs l6
  omega
 refine ⟨_,rfl,p,dx,fs,rfl,pg.ob,by omega,?_⟩
 obtain ⟨H1,q1,s1,e1⟩:=newB (H:=H) (p:=p) (.ins (C 0) dx (putF ("coming" : Str) V.non fs))
 dsimp only
 rw [q1]
 clear q1
 have hj1:=s1 _ _ (Ne.symm npj) hj
 refine ⟨_,rfl,p,_,_,_,rfl,e1,(ZB (by decide) fs).trans pj.fj,j,kvs,rfl,hj1,fun o=>?_⟩
 obtain ⟨H2,q2,s2,e2⟩:=newB (H:=H1) (p:=j) (.frz o (.dT kvs))
 rw [q2]
 clear q2
 have nt:NoT [p,j] H:=NoT.ins pg.ob (NoT.dct hj NoT.nil)
 have b2:Buts [p,j] H H2:=(Buts.one s1 (by simp)).trans (Buts.one s2 (by simp))
 have nwa:wl∉[p,j]:=by simp [Ne.symm npw,njw]
 have nga:g∉[p,j]:=by simp [Ne.symm npg,Ne.symm njg]
 have at3:∀ {H3:Hp} {cv:V},Buts [p] H2 H3→H3 p=some (.ins (C 0) dx (putF ("coming" : Str) cv fs))→PlG K H3 (C 0) p R gs dx (putF ("coming" : Str) cv fs) wl g xs∧PlJ K H3 R gs (putF ("coming" : Str) cv fs) j kvs∧FQ K H3 nw now∧H3 j=some (.frz o (.dT kvs)):=fun {H3 cv} s3 e3=>by
  have b3:Buts [p,j] H H3:=b2.trans (s3.mono (by simp))
  have j3:=s3 _ _ (by simp [Ne.symm npj]) e2
  exact ⟨pg.put c1 b3 nt nwa nga e3,pj.put c1 b3 nt (.inr ⟨o,j3⟩),b3.tup nt gn,j3⟩
 refine for_dict (fun i σ' H'=>∃ (u1 u2:Option V) (cv:V),σ'=[some (.ref p),u1,u2]∧Buts [p] H2 H'∧H' p=some (.ins (C 0) dx (putF ("coming" : Str) cv fs))∧OptB K H' cv (((prsP gs.length).take i).foldl (yU R gs now) none)) ⟨_,_,.non,rfl,Buts.refl,s2 _ _ npj e1,.inl ⟨rfl,rfl⟩⟩ (by rintro _ _ _ _ ⟨_,_,_,_,g',h',_⟩; exact (at3 g' h').2.2.2) ?_ ?_
 ·rintro i kv b σ' H3 hk hb ⟨u1,u2,cv,rfl,s3,e3,oc⟩
  obtain ⟨q,hq,ek⟩:=Yi pj.ks hk
  rw [ek] at hb
  have hin:=yK.mp (List.mem_of_getElem? hq)
  obtain ⟨pg3,pj3,gn3,hj3⟩:=at3 s3 e3
  obtain ⟨v,ev,ov⟩:=pj3.get (yK.mpr hin)
  have pc3:PlC K H3 now (((prsP gs.length).take i).foldl (yU R gs now) none) (putF ("coming" : Str) cv fs) nw cv:=⟨(ZB (by decide) fs).trans fn,gn3,dn,look_eq fs,oc⟩
  generalize hc:((prsP gs.length).take i).foldl (yU R gs now) none=cc at oc pc3
  have stp:((prsP gs.length).take (i+1)).foldl (yU R gs now) none=yU R gs now cc q:=by rw [zZ hq,List.foldl_append,hc]; rfl
  rw [stp]
  refine ⟨_,rfl,p,_,_,_,rfl,e3,pj3.fj,_,rfl,j,v,rfl,.inr ⟨kvs,keyP q,b,pj3.hj,rfl,hb,ev.symm⟩,?_⟩
  refine ⟨_,rfl,p,_,_,rfl,e3,pg3.nm.is_sooner,_,rfl,p,dx,v,now,cc,jntP R gs q,_,nw,cv,rfl,e3,pc3,ov,fun H4 s4=>⟨_,rfl,?_⟩⟩
  have stay:∀ {H5:Hp},Same H3 H5→yU R gs now cc q=cc→∃ (u1 u2:Option V) (cv:V),[some (V.ref p),some (.ref b),some v]=[some (.ref p),u1,u2]∧Buts [p] H2 H5∧H5 p=some (.ins (C 0) dx (putF ("coming" : Str) cv fs))∧OptB K H5 cv (yU R gs now cc q):=fun {H5} s5 e=>⟨_,_,cv,rfl,s3.trans (Buts.of s5),s5 _ _ e3,by rw [e]; exact oc.same s5⟩
  cases hs:ZO now cc (jntP R gs q) with
  |false=>
   refine iteF ?_
   refine iteF ?_
   exact stay s4 (by unfold yU; rw [hs]; rfl)
  |true=>
   refine iteT ?_
   rcases ov with ⟨en,_⟩|⟨t,pt,et,rfl,gt,dt⟩
   ·rw [en] at hs
    cases hs
   refine ⟨_,rfl,p,_,_,rfl,s4 _ _ e3,pg3.nm.meet_at,_,rfl,_,rfl,p,b,pt,R,gs,dx,_,wl,g,xs,q,t,rfl,pg3.same s4,s4 _ _ hb,hin,Kw.Same.tup s4 gt,dt,fun H5 s5=>⟨_,rfl,?_⟩⟩
   have s35:=s4.trans s5
   have gd:((jntP R gs q).getD 0)=t:=by rw [et]; rfl
   cases hm:metP R gs t q with
   |true=>
    refine iteT ?_
    refine iteT ?_
    refine ⟨_,rfl,_,rfl,p,dx,_,rfl,(s4.trans s5 _ _ e3),by have:=JM (f:=("coming" : Str)) (v:=cv) fs; omega,?_⟩
    obtain ⟨H7,q7,s7,e7⟩:=newB (H:=H5) (p:=p) (.ins (C 0) dx (putF ("coming" : Str) (V.ref pt) (putF ("coming" : Str) cv fs)))
    dsimp only
    rw [q7]
    clear q7
    rw [put_put] at e7
    refine ⟨_,_,.ref pt,rfl,s3.trans ((Buts.of (s4.trans s5)).trans (Buts.one s7 (List.mem_singleton.mpr rfl))),e7,?_⟩
    rw [show yU R gs now cc q=jntP R gs q by unfold yU; rw [hs,gd,hm]; rfl,et]
    exact .inr ⟨t,pt,rfl,rfl,(Buts.one s7 (List.mem_singleton.mpr rfl):Buts [p] _ _).tup (NoT.ins (s4.trans s5 _ _ e3) NoT.nil) (Kw.Same.tup (s4.trans s5) gt),dt⟩
   |false=>
    refine iteF ?_
    refine ⟨_,rfl,p,_,_,rfl,s35 _ _ e3,pg3.nm.close_at_a_corner,_,rfl,p,b,R,gs,dx,_,j,kvs,q,rfl,s35 _ _ e3,pj3.same s35,s35 _ _ hb,hin,fun H6 s6=>⟨_,rfl,?_⟩⟩
    cases hcr:corP R gs q with
    |true=>
     refine iteT ?_
     refine ⟨_,rfl,_,rfl,p,dx,_,rfl,(s35.trans s6 _ _ e3),by have:=JM (f:=("coming" : Str)) (v:=cv) fs; omega,?_⟩
     obtain ⟨H7,q7,s7,e7⟩:=newB (H:=H6) (p:=p) (.ins (C 0) dx (putF ("coming" : Str) (V.ref pt) (putF ("coming" : Str) cv fs)))
     dsimp only
     rw [q7]
     clear q7
     rw [put_put] at e7
     refine ⟨_,_,.ref pt,rfl,s3.trans ((Buts.of (s35.trans s6)).trans (Buts.one s7 (List.mem_singleton.mpr rfl))),e7,?_⟩
     rw [show yU R gs now cc q=jntP R gs q by unfold yU; rw [hs,gd,hm,hcr]; rfl,et]
     exact .inr ⟨t,pt,rfl,rfl,(Buts.one s7 (List.mem_singleton.mpr rfl):Buts [p] _ _).tup (NoT.ins (s35.trans s6 _ _ e3) NoT.nil) (Kw.Same.tup (s35.trans s6) gt),dt⟩
    |false=>
     refine iteF ?_
     exact stay (s35.trans s6) (by unfold yU; rw [hs,gd,hm,hcr]; rfl)
 ·rintro σ' H3 ⟨u1,u2,cv,rfl,s3,e3,oc⟩
  obtain ⟨pg3,pj3,gn3,hj3⟩:=at3 s3 e3
  have lkp:kvs.length=(prsP gs.length).length:=by
   have z:=congrArg List.length pj.ks
   rwa [List.length_map,List.length_map] at z
  rw [lkp,List.take_length] at oc
  change OptB K H3 cv (comP R gs now) at oc
  refine ⟨j,o,kvs,hj1,hj3,?_⟩
  obtain ⟨H4,q4,s4,e4⟩:=newB (H:=H3) (p:=j) (.dT kvs)
  rw [q4]
  clear q4
  have p4:=s4 _ _ npj e3
  have b4:Buts [p,j] H H4:=(b2.trans (s3.mono (by simp))).trans (Buts.one s4 (by simp))
  refine ⟨_,rfl,p,_,_,_,rfl,p4,pj3.fj,j,kvs,rfl,e4,fun o'=>?_⟩
  obtain ⟨H5,q5,s5,e5⟩:=newB (H:=H4) (p:=j) (.frz o' (.dT kvs))
  rw [q5]
  clear q5
  have p5:=s5 _ _ npj p4
  have b5:Buts [p,j] H H5:=b4.trans (Buts.one s5 (by simp))
  have pg5:=pg.put c1 b5 nt nwa nga p5
  have pj5:PlJ K H5 R gs (putF ("coming" : Str) cv fs) j kvs:=pj.put c1 b5 nt (.inr ⟨o',e5⟩)
  have oc5:OptB K H5 cv (comP R gs now):=oc.buts ((Buts.one s4 (by simp)).trans (Buts.one s5 (by simp)):Buts [j] H3 H5) (NoT.frz hj3 NoT.nil)
  have fc:=look_eq (f:=("coming" : Str)) (v:=cv) fs
  refine lc_dictF (ps:=prsP gs.length) (fun q=>cmgP R gs (comP R gs now) q && metP R gs ((comP R gs now).getD 0) q) pj.ks e5 (Nat.le_trans lk (by decide)) ?_ ?_ ?_
  ·intro q b H6 hq s6 hb Q' hQ
   have hin:=yK.mp hq
   refine ⟨_,rfl,p,_,_,rfl,s6 _ _ p5,pg5.nm.is_coming,_,rfl,p,b,R,gs,dx,_,j,kvs,q,_,cv,rfl,s6 _ _ p5,pj5.same s6,hb,hin,fc,oc5.same s6,_,rfl,?_⟩
   cases hc:cmgP R gs (comP R gs now) q with
   |false=>
    refine iteF ?_
    have z:=hQ H6 (Same.refl _)
    rw [hc,Bool.false_and] at z
    exact z
   |true=>
    refine iteT ?_
    rcases oc5.same s6 with ⟨en,_⟩|⟨t,pt,et,ecv,gt,dt⟩
    ·unfold cmgP at hc
     rw [en] at hc
     cases hc
    refine ⟨_,rfl,p,_,_,rfl,s6 _ _ p5,pg5.nm.meet_at,_,rfl,_,rfl,p,_,_,_,rfl,s6 _ _ p5,fc,p,b,pt,R,gs,dx,_,wl,g,xs,q,t,by rw [ecv]; rfl,pg5.same s6,hb,hin,gt,dt,fun H7 s7=>⟨_,rfl,?_⟩⟩
    have z:=hQ H7 s7
    rw [hc,Bool.true_and,et] at z
    exact z
  ·intro b H6 Q' hQ
   exact ⟨_,rfl,hQ⟩
  ·intro H6 ds s6 al q hq
   obtain ⟨H7,q7,s7,e7⟩:=newO hq (.lst ds)
   rw [q7]
   clear q7
   have s67:=s6.trans s7
   have j7:=s67 _ _ e5
   refine ⟨j,o',kvs,e4,j7,?_⟩
   obtain ⟨H8,q8,s8,e8⟩:=newB (H:=H7) (p:=j) (.dT kvs)
   rw [q8]
   clear q8
   have p7:=s67 _ _ p5
   have p8:=s8 _ _ npj p7
   refine ⟨_,rfl,p,dx,_,rfl,p8,by have:=JM (f:=("coming" : Str)) (v:=cv) fs; omega,?_⟩
   obtain ⟨H9,q9,s9,e9⟩:=newB (H:=H8) (p:=p) (.ins (C 0) dx (putF ("due" : Str) (V.ref q) (putF ("coming" : Str) cv fs)))
   dsimp only
   rw [q9]
   clear q9
   have nq:H q=none:=by
    cases z:H q with
    |none=>rfl
    |some u=>
     by_cases e:q=p
     ·subst e
      rw [(s6 _ _ p5)] at hq
      cases hq
     ·by_cases e':q=j
      ·subst e'
       rw [s6 _ _ e5] at hq
       cases hq
      ·have y:=s6 _ _ (b5 q u (by simp [e,e']) z)
       rw [hq] at y
       cases y
   have nqp:q≠p:=fun z=>by subst z; rw [pg.ob] at nq; cases nq
   have nqj:q≠j:=fun z=>by subst z; rw [hj] at nq; cases nq
   have b59:Buts [p,j] H5 H9:=(Buts.of s67).trans ((Buts.one s8 (by simp)).trans (Buts.one s9 (by simp)))
   have nt5:NoT [p,j] H5:=NoT.ins p5 (NoT.frz e5 NoT.nil)
   have nt7:NoT [p,j] H7:=NoT.ins p7 (NoT.frz j7 NoT.nil)
   have b79:Buts [p,j] H7 H9:=(Buts.one s8 (by simp)).trans (Buts.one s9 (by simp))
   refine k cv q ds H9 (fun a u na ha=>?_) nq e9 (oc5.buts b59 nt5) (b79 _ _ (by simp [nqp,nqj]) e7) (yk (zt al s7) b79 nt7)
   by_cases e':a=j
   ·subst e'
    rw [hj] at ha
    cases ha
    exact s9 _ _ na e8
   ·exact b59 _ _ (by simp [na,e']) (b5 a u (by simp [na,e']) ha)
noncomputable def jo (K:PySem.W.Frag) (C:Addr):Sp:=fun vs H Q _=>∃ (p u dx g:Addr) (fs:List (Str × V)) (xs:List V) (gs:List Bq) (t:Rat),vs=[.ref p,.ref u]∧H p=some (.ins C dx fs)∧fs.lookup ("goings" : Str)=some (.ref g)∧H g=some (.lst xs)∧Al2 (BqH K 1990 H) xs gs∧gs.length≤6∧FQ K H u t∧FB 2000 t∧∀ (r:Addr) (zs:List V) (H1:Hp),Same H H1→H r=none→H1 r=some (.lst zs)→Al2 (BqH K 5990 H1) zs (gs.map (atB t))→Q (.ref r) H1
theorem sc_Plane_bodies_at:FnScope ["self","moment"] ["self","moment"] (zD (zP (top 65) 4)):=⟨rfl,rfl,rfl,by decide+kernel,rfl,by decide+kernel,by decide+kernel⟩
theorem ok_Plane_bodies_at (D:DfM K (C 0) "bodies_at" "Plane.bodies_at" (zP (top 65) 4) ["self","moment"]) (T:Tx K mg C) (F_box_at:Fn P w K mg base 4 "box_at" ["box","moment"] (Yq K)):FnM P w K mg base 5 (C 0) "bodies_at" ["self","moment"] (jo K (C 0)):=by
 refine D.ok0 sc_Plane_bodies_at (fun vs H Q E h=>?_) (fun f cdv A outer s H vs Q E hr h=>?_)
 ·obtain ⟨p,u,dx,g,fs,xs,gs,t,rfl,_⟩:=h
  rfl
 obtain ⟨p,u,dx,g,fs,xs,gs,t,rfl,hp,fg,hg,al,l6,gt,dt,k⟩:=h
 refine ⟨_,(zG (zL (@Zg _ _ _ _ _ _ _ _ _ _ ["moment"] [1] rfl (zw (zU T.cl_Plane T.n_Plane_goings (pv 0))) rfl (by decide) rfl (by decide) rfl (by decide) (je (j:=1) rfl rfl rfl rfl (.inl rfl)) (fun y c h=>h) (ZR rfl) (fun C z Hc fp=>(zI F_box_at (by decide) hr (by rfl) zF (zA (pv 0) (zA (pv 1) zC)))) (fun _=>rfl)))),?_⟩
 have hz:=Al2.len al
 refine ⟨_,rfl,p,_,_,_,rfl,hp,fg,g,rfl,⟨_,SqL.of hg⟩,jH (K:=K) (xs:=xs) (fun i zs H'=>i<=xs.length/\Same H H'/\Al2 (BqH K 5990 H') zs ((gs.take i).map (atB t))) ⟨Nat.zero_le _,Same.refl _,trivial⟩ (by rw [hz]; exact Nat.le_trans l6 (by decide)) (fun i zs H1 z=>by obtain ⟨l,_,e⟩:=z; have:=Al2.len e; simp at this; omega) (fun i zs H1 z=>by obtain ⟨_,g,_⟩:=z; exact SqL.of (g _ _ hg)) ?_ ?_⟩
 ·rintro i x zs H1 Q1 hx ⟨hl,s1,hy⟩ kq
  have hi:i < xs.length:=(List.getElem?_eq_some_iff.mp hx).1
  obtain ⟨b,hb,hxb⟩:=Al2.get (zQ al s1) hx
  refine ⟨_,rfl,_,rfl,x,b,u,t,rfl,hxb,Kw.Same.tup s1 gt,dt,fun r2 H2 s2 one=>?_⟩
  refine kq _ _ ⟨hi,s1.trans s2,?_⟩
  rw [zZ hb,List.map_append]
  exact Al2.snoc (zQ hy s2) one
 ·rintro zs H1 ⟨_,s1,hy⟩ pl hpl
  rw [hz,List.take_length] at hy
  obtain ⟨H2,q2,s2,e2⟩:=newO hpl (.lst zs)
  rw [q2]
  clear q2
  exact k pl zs H2 (s1.trans s2) (yz s1 hpl) e2 (zQ hy s2)
noncomputable def wdP (d:Nat):V:=strV (if d=0 then "across" else "along")
noncomputable def MtP (K:PySem.W.Frag) (H:Hp) (v:V) (m:Rat × Pr):Prop:=∃ r a:Addr,v=.ref r/\SqT K H r [.ref a,wdP m.2.1,.int m.2.2.1,.int m.2.2.2]/\FQ K H a m.1/\FB 2000 m.1
theorem MtP.same {K:PySem.W.Frag} {H H':Hp} {v:V} {m:Rat × Pr} (h:MtP K H v m) (s:Same H H'):MtP K H' v m:=by
 obtain ⟨r,a,e,h1,h2,h3⟩:=h
 exact ⟨r,a,e,Kw.Same.tup s h1,Kw.Same.tup s h2,h3⟩
theorem ya {K:PySem.W.Frag} {H H':Hp} {vs:List V} {ms:List (Rat × Pr)} (h:Al2 (MtP K H) vs ms) (s:Same H H'):Al2 (MtP K H') vs ms:=Al2.imp (fun _ _ z=>z.same s) h
theorem MtP.buts {K:PySem.W.Frag} {H H':Hp} {v:V} {m:Rat × Pr} {as:List Addr} (h:MtP K H v m) (s:Buts as H H') (n:NoT as H):MtP K H' v m:=by
 obtain ⟨r,a,e,h1,h2,h3⟩:=h
 exact ⟨r,a,e,s.tup n h1,s.tup n h2,h3⟩
theorem mtp_buts {K:PySem.W.Frag} {H H':Hp} {vs:List V} {ms:List (Rat × Pr)} {as:List Addr} (h:Al2 (MtP K H) vs ms) (s:Buts as H H') (n:NoT as H):Al2 (MtP K H') vs ms:=Al2.imp (fun _ _ z=>z.buts s n) h
noncomputable def YJ (K:PySem.W.Frag) (C:Addr):Sp:=fun vs H Q _=>∃ (p dx:Addr) (fs:List (Str × V)) (du:Addr) (ds:List V) (ps:List Pr) (t:Rat) (pc:Addr),vs=[.ref p]∧H p=some (.ins C dx fs)∧fs.lookup ("due" : Str)=some (.ref du)∧H du=some (.lst ds)∧Al2 (PrH H) ds ps∧ps.length≤200∧(∀ q∈ps,q.1≤1)∧fs.lookup ("coming" : Str)=some (.ref pc)∧FQ K H pc t∧FB 2000 t∧∀ (r:Addr) (zs:List V) (H1:Hp),Same H H1→H r=none→H1 r=some (.lst zs)→Al2 (MtP K H1) zs (ps.map fun q=>(t,q))→Q (.ref r) H1
theorem sc_Plane_meetings:FnScope ["self"] ["self"] (zD (zP (top 65) 10)):=⟨rfl,rfl,rfl,by decide+kernel,rfl,by decide+kernel,by decide+kernel⟩
theorem ok_Plane_meetings (D:DfM K (C 0) "meetings" "Plane.meetings" (zP (top 65) 10) ["self"]) (T:Tx K mg C):FnM P w K mg base 1 (C 0) "meetings" ["self"] (YJ K (C 0)):=by
 refine D.ok0 sc_Plane_meetings (fun vs H Q E h=>?_) (fun f cdv A outer s H vs Q E hr h=>?_)
 ·obtain ⟨p,dx,fs,du,ds,ps,t,pc,rfl,_⟩:=h
  rfl
 obtain ⟨p,dx,fs,du,ds,ps,t,pc,rfl,hp,fd,hd,al,l2,w1,fc,gt,dt,k⟩:=h
 refine ⟨_,(zG (zL (@Zg _ _ _ _ _ _ _ _ _ _ ["self"] [0] rfl (zw (zU T.cl_Plane T.n_Plane_due (pv 0))) rfl (by decide) rfl (by decide) rfl (by decide) (je (j:=0) rfl rfl rfl rfl (.inl rfl)) (fun y c h=>h) (ZR rfl) (fun C z Hc fp=>(zV (zA (zU T.cl_Plane T.n_Plane_coming (pv 1)) (zA (zH (ixT (K:=K) rfl) (pe_globS3 (K:=K) rfl (by rfl) T.k_WORDS) (zH (ixT (K:=K) rfl) (pv 0) zB (fun _ _=>rfl)) (fun _ _=>rfl)) (zA (zH (ixT (K:=K) rfl) (pv 0) zB (fun _ _=>rfl)) (zA (zH (ixT (K:=K) rfl) (pv 0) zB (fun _ _=>rfl)) zC)))))) (fun _=>rfl)))),?_⟩
 have hz:=Al2.len al
 refine ⟨_,rfl,p,_,_,_,rfl,hp,fd,du,rfl,⟨_,SqL.of hd⟩,jH (K:=K) (xs:=ds) (fun i zs H'=>i<=ds.length/\Same H H'/\Al2 (MtP K H') zs ((ps.take i).map fun q=>(t,q))) ⟨Nat.zero_le _,Same.refl _,trivial⟩ (by rw [hz]; exact Nat.le_trans l2 (by decide)) (fun i zs H1 z=>by obtain ⟨l,_,e⟩:=z; have:=Al2.len e; simp at this; omega) (fun i zs H1 z=>by obtain ⟨_,g,_⟩:=z; exact SqL.of (g _ _ hd)) ?_ ?_⟩
 ·rintro i x zs H1 Q1 hx ⟨hl,s1,hy⟩ kq
  have hi:i < ds.length:=(List.getElem?_eq_some_iff.mp hx).1
  obtain ⟨q,hq,b,rfl,hb⟩:=Al2.get (zt al s1) hx
  have hqt:SqT K H1 b [.int (q.1:Int),.int q.2.1,.int q.2.2]:=SqT.of hb
  have hd1:=w1 q (List.mem_of_getElem? hq)
  refine ⟨_,rfl,p,_,_,_,rfl,s1 _ _ hp,fc,fun N hN=>?_⟩
  have hN':SqT K H1 N [strV "across",strV "along"]:=hN H1
  have at':atI [strV "across",strV "along"] (q.1:Int)=some (wdP q.1):=by
   rcases d01 hd1 with e|e
   ·rw [e]
    rfl
   ·rw [e]
    rfl
  refine ⟨_,rfl,b,_,_,_,rfl,rfl,hqt,rfl,N,_,_,_,rfl,rfl,hN',at',_,rfl,b,_,_,_,rfl,rfl,hqt,rfl,_,rfl,b,_,_,_,rfl,rfl,hqt,rfl,by show 4<=sizeLine; decide,?_⟩
  intro p2 n2
  obtain ⟨H2,q2,s2,e2⟩:=newO n2 (.tup [.ref pc,wdP q.1,.int q.2.1,.int q.2.2])
  rw [q2]
  clear q2
  refine kq _ _ ⟨hi,s1.trans s2,?_⟩
  rw [zZ hq,List.map_append]
  exact Al2.snoc (ya hy s2) ⟨p2,pc,rfl,SqT.of e2,Kw.Same.tup (s1.trans s2) gt,dt⟩
 ·rintro zs H1 ⟨_,s1,hy⟩ pl hpl
  rw [hz,List.take_length] at hy
  obtain ⟨H2,q2,s2,e2⟩:=newO hpl (.lst zs)
  rw [q2]
  clear q2
  exact k pl zs H2 (s1.trans s2) (yz s1 hpl) e2 (ya hy s2)
noncomputable def zv (l:List Int):List V:=l.map V.int
noncomputable def jh (K:PySem.W.Frag) (C:Addr):Sp:=fun vs H Q _=>∃ (p dx:Addr) (fs:List (Str × V)) (du:Addr) (ds:List V) (ps:List Pr),vs=[.ref p]∧H p=some (.ins C dx fs)∧fs.lookup ("due" : Str)=some (.ref du)∧H du=some (.lst ds)∧Al2 (PrH H) ds ps∧ps.length≤200∧∀ (r:Addr) (H1:Hp),Same H H1→H1 r=some (.lst (zv (numP ps)))→Q (.ref r) H1
theorem jR:FnScope ["self","numbers"] ["self"] (zD (zP (top 65) 11)):=⟨rfl,rfl,rfl,by decide+kernel,rfl,by decide+kernel,by decide+kernel⟩
theorem ok_Plane_boxes_met (D:DfM K (C 0) "boxes_met" "Plane.boxes_met" (zP (top 65) 11) ["self"]) (T:Tx K mg C):FnM P w K mg base 1 (C 0) "boxes_met" ["self"] (jh K (C 0)):=by
 refine D.ok0 jR (fun vs H Q E h=>?_) (fun f cdv A outer s H vs Q E hr h=>?_)
 ·obtain ⟨p,dx,fs,du,ds,ps,rfl,_⟩:=h
  rfl
 obtain ⟨p,dx,fs,du,ds,ps,rfl,hp,fd,hd,al,l2,k⟩:=h
 refine ⟨_,(zE (zM (i:=1) jR.nd rfl (Or.inl rfl) (zN op_cat (@Zg _ _ _ _ _ _ _ _ _ _ [] [] rfl (zw (zU T.cl_Plane T.n_Plane_due (pv 0))) rfl (by decide) rfl (by decide) rfl (by decide) jr (fun _ _ h=>nomatch h) (Zr rfl) (fun C z Hc fp=>(zH (ixT (K:=K) rfl) (pv 0) zB (fun _ _=>rfl))) (fun _=>rfl)) (@Zg _ _ _ _ _ _ _ _ _ _ [] [] rfl (zw (zU T.cl_Plane T.n_Plane_due (pv 0))) rfl (by decide) rfl (by decide) rfl (by decide) jr (fun _ _ h=>nomatch h) (Zr rfl) (fun C z Hc fp=>(zH (ixT (K:=K) rfl) (pv 0) zB (fun _ _=>rfl))) (fun _=>rfl))))
   (zG (zL (@pe_lcT _ _ _ _ _ _ _ _ _ _ _ _ [] [] rfl (zw (pv 1)) rfl (by decide) rfl (by decide) rfl (by decide) jr (fun _ _ h=>nomatch h) (Zr rfl) (fun C z Hc fp=>pts_one (zR Z9 (pv 0) zB (zT _))) (fun C z Hc fp=>(pv 0)) (fun _=>rfl))))),?_⟩
 have hz:=Al2.len al
 refine ⟨_,rfl,p,_,_,_,rfl,hp,fd,du,rfl,⟨_,SqL.of hd⟩,jH (K:=K) (xs:=ds) (fun i zs H'=>i<=ds.length/\Same H H'/\zs=zv ((ps.take i).map (·.2.1))) ⟨Nat.zero_le _,Same.refl _,rfl⟩ (by rw [hz]; exact Nat.le_trans l2 (by decide)) (fun i zs H1 z=>by obtain ⟨l,_,e⟩:=z; rw [e]; simp [zv]; omega) (fun i zs H1 z=>by obtain ⟨_,g,_⟩:=z; exact SqL.of (g _ _ hd)) ?_ ?_⟩
 ·rintro i x zs H1 Q1 hx ⟨hl,s1,rfl⟩ kq
  have hi:i < ds.length:=(List.getElem?_eq_some_iff.mp hx).1
  obtain ⟨q,hq,b,rfl,hb⟩:=Al2.get (zt al s1) hx
  have hqt:SqT K H1 b [.int (q.1:Int),.int q.2.1,.int q.2.2]:=SqT.of hb
  refine ⟨_,rfl,b,_,_,_,rfl,rfl,hqt,rfl,?_⟩
  refine kq _ _ ⟨hi,s1,?_⟩
  rw [zZ hq]
  simp [zv]
 rintro zs H1 ⟨_,s1,rfl⟩ r1 hr1
 rw [hz,List.take_length]
 obtain ⟨H2,q2,s2,e2⟩:=newO hr1 (.lst (zv (ps.map (·.2.1))))
 rw [q2]
 clear q2
 have s12:=s1.trans s2
 refine ⟨_,rfl,p,_,_,_,rfl,s12 _ _ hp,fd,du,rfl,⟨_,SqL.of (s12 _ _ hd)⟩,jH (K:=K) (xs:=ds) (fun i zs H'=>i<=ds.length/\Same H2 H'/\zs=zv ((ps.take i).map (·.2.2))) ⟨Nat.zero_le _,Same.refl _,rfl⟩ (by rw [hz]; exact Nat.le_trans l2 (by decide)) (fun i zs H1 z=>by obtain ⟨l,_,e⟩:=z; rw [e]; simp [zv]; omega) (fun i zs H1 z=>by obtain ⟨_,g,_⟩:=z; exact SqL.of (g _ _ (s12 _ _ hd))) ?_ ?_⟩
 ·rintro i x zs H3 Q1 hx ⟨hl,s3,rfl⟩ kq
  have hi:i < ds.length:=(List.getElem?_eq_some_iff.mp hx).1
  obtain ⟨q,hq,b,rfl,hb⟩:=Al2.get (zt al (s12.trans s3)) hx
  have hqt:SqT K H3 b [.int (q.1:Int),.int q.2.1,.int q.2.2]:=SqT.of hb
  refine ⟨_,rfl,b,_,_,_,rfl,rfl,hqt,rfl,?_⟩
  refine kq _ _ ⟨hi,s3,?_⟩
  rw [zZ hq]
  simp [zv]
 rintro zs H3 ⟨_,s3,rfl⟩ r3 hr3
 rw [hz,List.take_length]
 obtain ⟨H4,q4,s4,e4⟩:=newO hr3 (.lst (zv (ps.map (·.2.2))))
 rw [q4]
 clear q4
 have l4:(zv (ps.map (·.2.1))).length+(zv (ps.map (·.2.2))).length<=400:=by simp [zv]; omega
 refine ⟨r1,r3,_,_,rfl,rfl,(s3.trans s4) _ _ e2,e4,Nat.le_trans l4 (by decide),?_⟩
 intro p5 n5
 obtain ⟨H5,q5,s5,e5⟩:=newO n5 (.lst (zv (ps.map (·.2.1))++zv (ps.map (·.2.2))))
 rw [q5]
 clear q5
 have e5':H5 p5=some (.lst (zv (ps.map (·.2.1)++ps.map (·.2.2)))):=by rw [e5]; simp [zv]
 have s15:=s12.trans (s3.trans (s4.trans s5))
 refine ⟨_,rfl,p5,rfl,⟨_,SqL.of e5'⟩,lc_filter (K:=K) (fun v=>match v with|.int i=>decide (0<=i)|_=>false) (SqL.of e5') (Nat.le_trans (show (zv (ps.map (·.2.1)++ps.map (·.2.2))).length<=400 by simp [zv]; omega) (by decide)) ?_ ?_ ?_⟩
 ·intro x hx Q1 q1
  obtain ⟨i,_,rfl⟩:=List.mem_map.mp hx
  exact ⟨_,rfl,_,_,rfl,rfl,_,rfl,q1⟩
 ·intro x hx Q1 q1
  exact ⟨_,rfl,q1⟩
 ·intro l hln
  have ef:((zv (ps.map (·.2.1)++ps.map (·.2.2))).filter fun v=>match v with|.int i=>decide (0<=i)|_=>false)=zv (numP ps):=by
   unfold zv numP
   rw [List.filter_map]
   rfl
  rw [ef]
  obtain ⟨H6,q6,s6,e6⟩:=newO hln (.lst (zv (numP ps)))
  rw [q6]
  clear q6
  exact k l H6 (s15.trans s6) e6
noncomputable def y4 (K:PySem.W.Frag) (C:Addr):Sp:=fun vs H Q _=>∃ (p dx:Addr) (fs:List (Str × V)) (du:Addr) (ds:List V) (ps:List Pr),vs=[.ref p]∧H p=some (.ins C dx fs)∧fs.lookup ("due" : Str)=some (.ref du)∧H du=some (.lst ds)∧Al2 (PrH H) ds ps∧ps.length≤200∧fs.lookup ("boxes_met" : Str)=none∧∀ (H1:Hp),Same H H1→Q (.bl (twoP ps)) H1
theorem yT:FnScope ["self","numbers"] ["self"] (zD (zP (top 65) 13)):=⟨rfl,rfl,rfl,by decide+kernel,rfl,by decide+kernel,by decide+kernel⟩
theorem ok_Plane_has_two_meetings (D:DfM K (C 0) "has_two_meetings" "Plane.has_two_meetings" (zP (top 65) 13) ["self"]) (T:Tx K mg C) (F_Plane_boxes_met:FnM P w K mg base 1 (C 0) "boxes_met" ["self"] (jh K (C 0))):FnM P w K mg base 2 (C 0) "has_two_meetings" ["self"] (y4 K (C 0)):=by
 refine D.ok0 yT (fun vs H Q E h=>?_) (fun f cdv A outer s H vs Q E hr h=>?_)
 ·obtain ⟨p,dx,fs,du,ds,ps,rfl,_⟩:=h
  rfl
 obtain ⟨p,dx,fs,du,ds,ps,rfl,hp,fd,hd,al,l2,nm,k⟩:=h
 refine ⟨_,(zE (zM (i:=1) yT.nd rfl (Or.inl rfl) (ZS T.cl_Plane F_Plane_boxes_met (by decide) hr zF (pv 0)))
   (zG (zL (yv Zy (zW call_lenS (by rfl) T.b_len PyProof.Rows.Boot.«len» (zA (jv (call_setI rfl) (by rfl) T.b_set PyProof.Rows.Boot.«set» (zA (pv 1) zC)) zC)) (zW yD (by rfl) T.b_len PyProof.Rows.Boot.«len» (zA (pv 1) zC)) (zT _))))),?_⟩
 refine ⟨_,rfl,p,_,_,rfl,hp,nm,p,dx,fs,du,ds,ps,rfl,hp,fd,hd,al,l2,fun r H1 s1 e1=>?_⟩
 have l64:(numP ps).length < 4000:=by
  have z:=List.length_filter_le (fun i=>decide ((0:Int)<=i)) (ps.map (·.2.1)++ps.map (·.2.2))
  unfold numP
  simp only [List.length_append,List.length_map] at z
  omega
 refine ⟨_,rfl,r,numP ps,rfl,SqL.of e1,l64,fun l hl=>?_⟩
 obtain ⟨H2,q2,s2,e2⟩:=newO hl (.set (fun k=>(dd (numP ps)).any (· == k)) (dd (numP ps)).length)
 rw [q2]
 clear q2
 refine ⟨l,_,_,rfl,e2,_,rfl,_,_,rfl,.inl ⟨_,SqL.of (s2 _ _ e1),rfl⟩,_,_,rfl,rfl,?_⟩
 have z:=k H2 (s1.trans s2)
 have e:twoP ps=decide (((dd (numP ps)).length:Int) < ((zv (numP ps)).length:Int)):=by
  unfold twoP
  refine decide_eq_decide.mpr ?_
  rw [<- dd_two]
  simp [zv]
 rw [e] at z
 exact z
noncomputable def ju (K:PySem.W.Frag) (C:Addr):Sp:=fun vs H Q _=>∃ (p l:Addr) (R:Rat × Rat) (gs:List Bq) (dx:Addr) (fs:List (Str × V)) (wl g:Addr) (xs:List V) (j:Addr) (kvs:List (List Key × V)) (du:Addr) (ds:List V) (ps:List Pr) (ys:List V) (bs:List Bq),vs=[.ref p,.ref l]∧PlG K H C p R gs dx fs wl g xs∧PlJ K H R gs fs j kvs∧H j=some (.dT kvs)∧wl≠j∧fs.lookup ("due" : Str)=some (.ref du)∧H du=some (.lst ds)∧Al2 (PrH H) ds ps∧ps.length≤200∧gs.length≤6∧H l=some (.lst ys)∧Al2 (BqH K 5990 H) ys bs∧bs.length=gs.length∧∀ (H1:Hp),Same H H1→Q (.bl (hemP R bs ps)) H1
theorem yG:FnScope ["self","boxes","near","pair"] ["self","boxes"] (zD (zP (top 65) 14)):=⟨rfl,rfl,rfl,by decide+kernel,rfl,by decide+kernel,by decide+kernel⟩
theorem ok_Plane_is_hemmed_in (D:DfM K (C 0) "is_hemmed_in" "Plane.is_hemmed_in" (zP (top 65) 14) ["self","boxes"]) (T:Tx K mg C) (F_are_beside:Fn P w K mg base 5 "are_beside" ["one","other","way"] (Z0 K)) (F_Plane_one_of:FnM P w K mg base 1 (C 0) "one_of" ["self","pair","boxes"] (jM K (C 0))) (F_Plane_other_of:FnM P w K mg base 1 (C 0) "other_of" ["self","pair","boxes"] (yt K (C 0))):FnM P w K mg base 6 (C 0) "is_hemmed_in" ["self","boxes"] (ju K (C 0)):=by
 refine D.ok0 yG (fun vs H Q E h=>?_) (fun f cdv A outer s H vs Q E hr h=>?_)
 ·obtain ⟨p,l,R,gs,dx,fs,wl,g,xs,j,kvs,du,ds,ps,ys,bs,rfl,_⟩:=h
  rfl
 obtain ⟨p,l,R,gs,dx,fs,wl,g,xs,j,kvs,du,ds,ps,ys,bs,rfl,pg,pj,hj,njw,fd,hd,al,l2,l6,hl,alb,lb,k⟩:=h
 refine ⟨_,(zE (ps_thaw (zr PassesOwn.never rfl (JB (zU T.cl_Plane T.n_Plane_joints (pv 0))) (zd (i:=2) yG.nd rfl (Or.inl rfl)) (zG (ze (zf (zI F_are_beside (by decide) hr (by rfl) zF (zA (yV T.cl_Plane F_Plane_one_of (by decide) hr zF (pv 0) (zA (pv 2) (zA (pv 1) zC))) (zA (yV T.cl_Plane F_Plane_other_of (by decide) hr zF (pv 0) (zA (pv 2) (zA (pv 1) zC))) (zA (zH ix_tup (pv 2) zB (fun _ _=>rfl)) zC)))) (fun _=>rfl)) (zG (zr PassesOwn.never rfl (zw (zU T.cl_Plane T.n_Plane_due (pv 0))) (zd (i:=3) yG.nd rfl (Or.inl rfl)) (zG (ze (j8 (zR Zm (zH ix_tup (pv 3) zB (fun _ _=>rfl)) (zH ix_tup (pv 2) zB (fun _ _=>rfl)) (zT _)) (jF (y9 (zR Zm (zH ix_tup (pv 3) zB (fun _ _=>rfl)) (zH ix_tup (pv 2) zB (fun _ _=>rfl)) (zT _)) (yY (zR Zm (zH ix_tup (pv 3) zB (fun _ _=>rfl)) (zH ix_tup (pv 2) zB (fun _ _=>rfl)) (zT _)))).pt)).pt (zG (zL yM)) zS)))) zS))))
   (zG (zL yM))),?_⟩
 refine ⟨_,rfl,p,_,_,_,rfl,pg.ob,pj.fj,j,kvs,rfl,hj,fun o=>?_⟩
 obtain ⟨H2,q2,s2,e2⟩:=newB (H:=H) (p:=j) (.frz o (.dT kvs))
 rw [q2]
 clear q2
 have npj:p≠j:=zq pg.ob hj (by intro z; cases z)
 have njg:g≠j:=zq pg.hg hj (by intro z; cases z)
 have njd:du≠j:=zq hd hj (by intro z; cases z)
 have njl:l≠j:=zq hl hj (by intro z; cases z)
 have nt:NoT [j] H:=NoT.dct hj NoT.nil
 have b2:Buts [j] H H2:=Buts.one s2 (by simp)
 have pg2:=pg.buts b2 nt (by simp [npj]) (by simp [njw]) (by simp [njg])
 have alb2:=yF alb b2 nt
 have al2:=yk al b2 nt
 have hl2:=s2 _ _ njl hl
 have hd2:=s2 _ _ njd hd
 have hzd:=Al2.len al
 have lkp:kvs.length=(prsP bs.length).length:=by
  have z:=congrArg List.length pj.ks
  rw [List.length_map,List.length_map] at z
  rw [lb]
  exact z
 have out:∀ {H3:Hp} (c:Bool),Same H2 H3->c=hemP R bs ps->Thw H H3 (Q (.bl c)):=fun {H3} c s3 ec=>by
  refine ⟨j,o,kvs,hj,s3 _ _ e2,?_⟩
  obtain ⟨H4,q4,s4,e4⟩:=newB (H:=H3) (p:=j) (.dT kvs)
  rw [q4]
  clear q4
  rw [ec]
  exact k H4 (thawed (v:=.dT kvs) hj s2 s3 s4 e4)
 refine for_dict (fun i σ' H'=>∃ (u1 u2:Option V),σ'=[some (.ref p),some (.ref l),u1,u2]/\Same H2 H'/\((prsP bs.length).take i).any (fun n=>besB (boxB R bs n.1 n.2.1) (boxB R bs n.1 n.2.2) n.1 && ps.any fun p=>decide (p.1=n.1) && (decide (p.2.1=n.2.2) || decide (p.2.2=n.2.1)))=false) ⟨_,_,rfl,Same.refl _,rfl⟩ (by rintro _ _ _ _ ⟨_,_,_,g',_⟩; exact g' _ _ e2) ?_ ?_
 ·rintro i kv b σ' H3 hk hb ⟨u1,u2,rfl,s3,an⟩
  obtain ⟨q,hq,ek⟩:=Yi pj.ks hk
  rw [ek] at hb
  have hin:=yK.mp (List.mem_of_getElem? hq)
  rw [<- lb] at hq hin
  have pg3:=pg2.same s3
  have hqt:SqT K H3 b [.int (q.1:Int),.int q.2.1,.int q.2.2]:=SqT.of hb
  refine ⟨_,rfl,p,_,_,rfl,pg3.ob,pg3.nm.one_of,_,rfl,_,rfl,p,b,l,R,gs,dx,fs,wl,g,xs,q,ys,bs,5990,rfl,pg3,hb,s3 _ _ hl2,zQ alb2 s3,hin,by decide,fun v4 H4 s4 k4=>?_⟩
  have s34:=s3.trans s4
  have pg4:=pg3.same s4
  refine ⟨_,rfl,p,_,_,rfl,pg4.ob,pg4.nm.other_of,_,rfl,_,rfl,p,b,l,R,gs,dx,fs,wl,g,xs,q,ys,bs,5990,rfl,pg4,s4 _ _ hb,s34 _ _ hl2,zQ alb2 s34,hin,by decide,fun v5 H5 s5 k5=>?_⟩
  have s45:=s4.trans s5
  have hqt5:=Kw.Same.tup s45 hqt
  refine ⟨_,rfl,b,_,_,_,rfl,rfl,hqt5,rfl,v4,v5,_,_,q.1,rfl,k4.same s5,k5,hin.1,fun H6 s6=>⟨_,rfl,?_⟩⟩
  have s26:=s3.trans (s45.trans s6)
  have s36:=s45.trans s6
  have hqt6:=Kw.Same.tup s36 hqt
  cases hc:besB (boxB R bs q.1 q.2.1) (boxB R bs q.1 q.2.2) q.1 with
  |false=>
   refine iteF ?_
   exact ⟨_,_,rfl,s26,jB _ hq an (by rw [hc]; rfl)⟩
  |true=>
   refine iteT ?_
   refine ⟨_,rfl,p,_,_,_,rfl,s26 _ _ pg2.ob,fd,du,rfl,⟨_,SqL.of (s26 _ _ hd2)⟩,jW (K:=K) (a:=du) (xs:=ds) (fun m σ1 H'=>∃ (u2:Option V),σ1=[some (.ref p),some (.ref l),some (.ref b),u2]/\H'=H6/\(ps.take m).any (fun p=>decide (p.1=q.1) && (decide (p.2.1=q.2.2) || decide (p.2.2=q.2.1)))=false) ⟨_,rfl,rfl,rfl⟩ (by rintro _ _ _ _ ⟨_,_,rfl,_⟩; exact SqL.of (s26 _ _ hd2)) ?_ ?_⟩
   ·rintro m x σ1 H' hx ⟨u2,rfl,rfl,an2⟩
    obtain ⟨r,hr',c,rfl,hcr⟩:=Al2.get (zt al2 s26) hx
    have hrt:SqT K H' c [.int (r.1:Int),.int r.2.1,.int r.2.2]:=SqT.of hcr
    refine ⟨_,rfl,c,_,_,_,rfl,rfl,hrt,rfl,_,rfl,b,_,_,_,rfl,rfl,hqt6,rfl,rfl,_,rfl,?_⟩
    refine jK (fun c1=>?_) (fun c1=>?_)
    ·have c1':r.1=q.1:=by omega
     refine ⟨_,rfl,c,_,_,_,rfl,rfl,hrt,rfl,_,rfl,b,_,_,_,rfl,rfl,hqt6,rfl,rfl,_,rfl,?_⟩
     refine jK (fun c2=>?_) (fun c2=>?_)
     ·refine iteT ?_
      refine out true s26 ?_
      unfold hemP
      rw [jb _ hq (by rw [hc,jb _ hr' (by rw [decide_eq_true c1',decide_eq_true c2]; rfl)]; rfl)]
     ·refine ⟨_,rfl,c,_,_,_,rfl,rfl,hrt,rfl,_,rfl,b,_,_,_,rfl,rfl,hqt6,rfl,rfl,_,rfl,?_⟩
      refine jK (fun c3=>?_) (fun c3=>?_)
      ·refine out true s26 ?_
       unfold hemP
       rw [jb _ hq (by rw [hc,jb _ hr' (by rw [decide_eq_true c1',decide_eq_false c2,decide_eq_true c3]; rfl)]; rfl)]
      ·exact ⟨_,rfl,rfl,jB _ hr' an2 (by rw [decide_eq_true c1',decide_eq_false c2,decide_eq_false c3]; rfl)⟩
    ·refine iteF ?_
     exact ⟨_,rfl,rfl,jB _ hr' an2 (by rw [decide_eq_false (show ¬ r.1=q.1 by omega)]; rfl)⟩
   ·rintro σ1 H' ⟨u2,rfl,rfl,an2⟩
    rw [hzd,List.take_length] at an2
    exact ⟨_,_,rfl,s26,jB _ hq an (by rw [hc,an2]; rfl)⟩
 ·rintro σ' H3 ⟨u1,u2,rfl,s3,an⟩
  rw [lkp,List.take_length] at an
  obtain ⟨j',o',kvs',h1,h2,h3⟩:=out false s3 an.symm
  exact ⟨j',o',kvs',h1,h2,h3⟩
noncomputable def jq (K:PySem.W.Frag) (C:Addr):Sp:=fun vs H Q _=>∃ (p l:Addr) (R:Rat × Rat) (gs:List Bq) (dx:Addr) (fs:List (Str × V)) (wl g:Addr) (xs:List V) (j:Addr) (kvs:List (List Key × V)) (du:Addr) (ds:List V) (ps:List Pr) (ys:List V) (bs:List Bq) (c:Option Rat) (co:V),vs=[.ref p,.ref l]∧PlG K H C p R gs dx fs wl g xs∧PlJ K H R gs fs j kvs∧H j=some (.dT kvs)∧wl≠j∧fs.lookup ("due" : Str)=some (.ref du)∧H du=some (.lst ds)∧Al2 (PrH H) ds ps∧ps.length≤200∧gs.length≤6∧H l=some (.lst ys)∧Al2 (BqH K 5990 H) ys bs∧bs.length=gs.length∧fs.lookup ("coming" : Str)=some co∧OptB K H co c∧∀ (H1:Hp),Same H H1→Q (.bl (cnrP bs ps || cloP R gs c)) H1
theorem zu:FnScope ["self","boxes","numbers","other","one"] ["self","boxes"] (zD (zP (top 65) 15)):=⟨rfl,rfl,rfl,by decide+kernel,rfl,by decide+kernel,by decide+kernel⟩
theorem ok_Plane_has_a_corner (D:DfM K (C 0) "has_a_corner" "Plane.has_a_corner" (zP (top 65) 15) ["self","boxes"]) (T:Tx K mg C) (F_Plane_boxes_met:FnM P w K mg base 1 (C 0) "boxes_met" ["self"] (jh K (C 0))) (F_are_at_a_corner:Fn P w K mg base 5 "are_at_a_corner" ["one","other"] (jV K)) (F_Plane_is_coming:FnM P w K mg base 1 (C 0) "is_coming" ["self","pair"] (jg K (C 0))) (F_Plane_close_at_a_corner:FnM P w K mg base 1 (C 0) "close_at_a_corner" ["self","pair"] (yH K (C 0))):FnM P w K mg base 6 (C 0) "has_a_corner" ["self","boxes"] (jq K (C 0)):=by
 refine D.ok0 zu (fun vs H Q E h=>?_) (fun f cdv A outer s H vs Q E hr h=>?_)
 ·obtain ⟨p,l,R,gs,dx,fs,wl,g,xs,j,kvs,du,ds,ps,ys,bs,c,co,rfl,_⟩:=h
  rfl
 obtain ⟨p,l,R,gs,dx,fs,wl,g,xs,j,kvs,du,ds,ps,ys,bs,c,co,rfl,pg,pj,hj,njw,fd,hd,al,l2,l6,hl,alb,lb,fc,oc,k⟩:=h
 refine ⟨_,(zE (zM (i:=2) zu.nd rfl (Or.inl rfl) (ZS T.cl_Plane F_Plane_boxes_met (by decide) hr zF (pv 0)))
   (zE (zr PassesOwn.never rfl (yh (by rfl) T.b_range (zA (zW yD (by rfl) T.b_len PyProof.Rows.Boot.«len» (zA (pv 1) zC)) zC)) (zd (i:=3) zu.nd rfl (Or.inl rfl)) (zG (zr PassesOwn.never rfl (yh (by rfl) T.b_range (zA (pv 3) zC)) (zd (i:=4) zu.nd rfl (Or.inl rfl)) (zG (ze (j8 (y9 (zR Zv (pv 4) (pv 2) (by first|rfl|with_unfolding_all rfl)) (yY (zR Zv (pv 3) (pv 2) (by first|rfl|with_unfolding_all rfl)))).pt (jF (zf (zI F_are_at_a_corner (by decide) hr (by rfl) zF (zA (zH yb (pv 1) (pv 4) (fun _ _=>rfl)) (zA (zH yb (pv 1) (pv 3) (fun _ _=>rfl)) zC))) (fun _=>rfl)))).pt (zG (zL yM)) zS)))))
   (zG (zL (zW (call_any (K:=K) rfl rfl) (by rfl) T.b_any PyProof.Rows.Boot.«any» (zA (pe_thaw (@Zg _ _ _ _ _ _ _ _ _ _ ["self"] [0] rfl (JB (zU T.cl_Plane T.n_Plane_joints (pv 0))) rfl (by decide) rfl (by decide) rfl (by decide) (je (j:=0) rfl rfl rfl rfl (.inl rfl)) (fun y c h=>h) (ZR rfl) (fun C z Hc fp=>(yZ (yV T.cl_Plane F_Plane_is_coming (by decide) hr zF (pv 1) (zA (pv 0) zC)) (yP (yV T.cl_Plane F_Plane_close_at_a_corner (by decide) hr zF (pv 1) (zA (pv 0) zC))))) (fun _=>rfl))) zC)))))),?_⟩
 have hzb:=Al2.len alb
 have npj:p≠j:=zq pg.ob hj (by intro z; cases z)
 refine ⟨_,rfl,p,_,_,rfl,pg.ob,pg.nm.boxes_met,p,dx,fs,du,ds,ps,rfl,pg.ob,fd,hd,al,l2,fun r H1 s1 e1=>?_⟩
 refine ⟨_,rfl,_,_,rfl,.inl ⟨_,SqL.of (s1 _ _ hl),rfl⟩,_,rfl,by omega,by omega,yC (n:=((ys.length:Nat):Int).toNat) (fun i σ1 H'=>∃ (u3 u4:Option V),σ1=[some (.ref p),some (.ref l),some (.ref r),u3,u4]/\Same H1 H'/\((List.range bs.length).take i).any (fun o=>(List.range o).any fun i=>(decide ((i:Int)∈numP ps) || decide ((o:Int)∈numP ps)) && crnB (bxAt bs i) (bxAt bs o))=false) ⟨_,_,rfl,Same.refl _,rfl⟩ ?_ ?_⟩
 ·rintro o σ1 H2 ho ⟨u3,u4,rfl,s2,an⟩
  have hob:o < bs.length:=by omega
  have ho':(List.range bs.length)[o]?=some o:=List.getElem?_range hob
  obtain ⟨yo,hyo⟩:∃ y,ys[o]?=some y:=⟨_,List.getElem?_eq_getElem (by omega)⟩
  refine ⟨_,rfl,_,rfl,by omega,by omega,yC (n:=(0+(o:Int)).toNat) (fun i σ1 H'=>∃ (u4:Option V),σ1=[some (.ref p),some (.ref l),some (.ref r),some (.int (0+(o:Int))),u4]/\Same H1 H'/\((List.range o).take i).any (fun i=>(decide ((i:Int)∈numP ps) || decide ((o:Int)∈numP ps)) && crnB (bxAt bs i) (bxAt bs o))=false) ⟨_,rfl,s2,rfl⟩ ?_ ?_⟩
  ·rintro i σ1 H3 hi ⟨u4,rfl,s3,an2⟩
   have hio:i < o:=by omega
   have hi':(List.range o)[i]?=some i:=List.getElem?_range hio
   obtain ⟨yi,hyi⟩:∃ y,ys[i]?=some y:=⟨_,List.getElem?_eq_getElem (by omega)⟩
   have s13:=s1.trans s3
   obtain ⟨bi,hbi,qi⟩:=Al2.get (zQ alb s13) hyi
   obtain ⟨bo,hbo,qo⟩:=Al2.get (zQ alb s13) hyo
   have ei:bxAt bs i=bi:=by
    unfold bxAt
    rw [List.getD_eq_getElem?_getD,hbi]
    rfl
   have eo:bxAt bs o=bo:=by
    unfold bxAt
    rw [List.getD_eq_getElem?_getD,hbo]
    rfl
   have hr3:SqL K H3 r (zv (numP ps)):=SqL.of (s3 _ _ e1)
   refine ⟨_,rfl,_,rfl,r,_,rfl,.inl hr3,rfl,Zu _,_,rfl,?_⟩
   show if (inV (V.int (0+(i:Int))) (zv (numP ps)))=true then _ else _
   rw [show (0:Int)+(i:Int)=(i:Int) by omega,show inV (V.int (i:Int)) (zv (numP ps))=decide ((i:Int)∈numP ps) from JJ _ _]
   refine zc (fun c1=>?_) (fun c1=>?_)
   ·refine iteT ?_
    refine ⟨_,rfl,_,rfl,l,_,_,_,rfl,rfl,SqL.of (s13 _ _ hl),yB hyi,_,rfl,_,rfl,l,_,_,_,rfl,rfl,SqL.of (s13 _ _ hl),atI_z hyo,_,_,bi,bo,rfl,qi,qo,fun H4 s4=>⟨_,rfl,?_⟩⟩
    have s14:=s3.trans s4
    cases hc:crnB bi bo with
    |true=>
     refine iteT ?_
     have z:=k H4 (s1.trans s14)
     have e:cnrP bs ps=true:=by
      unfold cnrP
      exact jb _ ho' (jb _ hi' (by rw [ei,eo,hc]; simp [c1]))
     rw [e,Bool.true_or] at z
     exact z
    |false=>
     refine iteF ?_
     exact ⟨_,rfl,s14,jB _ hi' an2 (by rw [ei,eo,hc,Bool.and_false])⟩
   ·refine ⟨_,rfl,_,rfl,r,_,rfl,.inl hr3,rfl,Zu _,_,rfl,?_⟩
    show if (inV (V.int (0+(o:Int))) (zv (numP ps)))=true then _ else _
    rw [show inV (V.int (0+(o:Int))) (zv (numP ps))=decide ((o:Int)∈numP ps) by rw [show (0:Int)+(o:Int)=(o:Int) by omega]; exact JJ _ _]
    refine zc (fun c2=>?_) (fun c2=>?_)
    ·skip
     refine ⟨_,rfl,_,rfl,l,_,_,_,rfl,rfl,SqL.of (s13 _ _ hl),yB hyi,_,rfl,_,rfl,l,_,_,_,rfl,rfl,SqL.of (s13 _ _ hl),atI_z hyo,_,_,bi,bo,rfl,qi,qo,fun H4 s4=>⟨_,rfl,?_⟩⟩
     have s14:=s3.trans s4
     cases hc:crnB bi bo with
     |true=>
      refine iteT ?_
      have z:=k H4 (s1.trans s14)
      have e:cnrP bs ps=true:=by
       unfold cnrP
       exact jb _ ho' (jb _ hi' (by rw [ei,eo,hc]; simp [c2]))
      rw [e,Bool.true_or] at z
      exact z
     |false=>
      refine iteF ?_
      exact ⟨_,rfl,s14,jB _ hi' an2 (by rw [ei,eo,hc,Bool.and_false])⟩
    ·refine iteF ?_
     exact ⟨_,rfl,s3,jB _ hi' an2 (by rw [decide_eq_false c1,decide_eq_false c2]; rfl)⟩
  ·rintro σ1 H3 ⟨u4,rfl,s3,an2⟩
   rw [show (0+(o:Int)).toNat=o by omega,List.take_of_length_le (by rw [List.length_range]; exact Nat.le_refl _)] at an2
   exact ⟨_,_,rfl,s3,jB _ ho' an an2⟩
 ·rintro σ1 H2 ⟨u3,u4,rfl,s2,an⟩
  rw [show ((ys.length:Nat):Int).toNat=bs.length by omega,List.take_of_length_le (by rw [List.length_range]; exact Nat.le_refl _)] at an
  have s12:=s1.trans s2
  have hj2:=s12 _ _ hj
  refine ⟨_,rfl,p,_,_,_,rfl,s12 _ _ pg.ob,pj.fj,j,kvs,rfl,hj2,fun o=>?_⟩
  obtain ⟨H3,q3,s3,e3⟩:=newB (H:=H2) (p:=j) (.frz o (.dT kvs))
  rw [q3]
  clear q3
  have nt:NoT [j] H2:=NoT.dct hj2 NoT.nil
  have b3:Buts [j] H2 H3:=Buts.one s3 (by simp)
  have ob3:=s3 _ _ npj (s12 _ _ pg.ob)
  have pj3:PlJ K H3 R gs fs j kvs:=(pj.same s12).buts b3 nt (.inr ⟨o,e3⟩)
  have oc3:=(oc.same s12).buts b3 nt
  have lk:kvs.length<=200:=by
   have z:=congrArg List.length pj.ks
   rw [List.length_map,List.length_map] at z
   have:=Zs l6
   omega
  refine lc_dictB (ps:=prsP gs.length) (fun q=>cmgP R gs c q && corP R gs q) pj.ks e3 (Nat.le_trans lk (by decide)) ?_ ?_
  ·intro q b H4 hq s4 hb Q' hQ
   have hin:=yK.mp hq
   refine ⟨_,rfl,p,_,_,rfl,s4 _ _ ob3,pg.nm.is_coming,_,rfl,p,b,R,gs,dx,_,j,kvs,q,_,co,rfl,s4 _ _ ob3,pj3.same s4,hb,hin,fc,oc3.same s4,_,rfl,?_⟩
   cases hc:cmgP R gs c q with
   |false=>
    refine iteF ?_
    have z:=hQ H4 (Same.refl _)
    rw [hc,Bool.false_and] at z
    exact z
   |true=>
    refine iteT ?_
    refine ⟨_,rfl,p,_,_,rfl,s4 _ _ ob3,pg.nm.close_at_a_corner,_,rfl,p,b,R,gs,dx,_,j,kvs,q,rfl,s4 _ _ ob3,pj3.same s4,hb,hin,fun H5 s5=>?_⟩
    have z:=hQ H5 s5
    rw [hc,Bool.true_and] at z
    exact z
  ·intro H4 s4 r4 hr4
   obtain ⟨H5,q5,s5,e5⟩:=newO hr4 (.lst (((prsP gs.length).map fun q=>cmgP R gs c q && corP R gs q).map V.bl))
   rw [q5]
   clear q5
   refine ⟨j,o,kvs,hj2,(s4.trans s5) _ _ e3,?_⟩
   obtain ⟨H6,q6,s6,e6⟩:=newB (H:=H5) (p:=j) (.dT kvs)
   rw [q6]
   clear q6
   have s26:Same H2 H6:=thawed (v:=.dT kvs) hj2 s3 (s4.trans s5) s6 e6
   have r4j:r4≠j:=fun z=>by
    rw [z,s4 _ _ e3] at hr4
    cases hr4
   refine ⟨r4,_,rfl,SqL.of (s6 _ _ r4j e5),?_⟩
   have z:=k H6 (s12.trans s26)
   unfold cnrP at z
   rw [an,Bool.false_or] at z
   unfold cloP at z
   rw [show (((prsP gs.length).map fun q=>cmgP R gs c q && corP R gs q).any id)=(prsP gs.length).any fun p=>cmgP R gs c p && corP R gs p by rw [List.any_map]; rfl]
   exact z
noncomputable def Zi (K:PySem.W.Frag) (C:Addr):Sp:=fun vs H Q _=>∃ (p:Addr) (R:Rat × Rat) (gs:List Bq) (dx:Addr) (fs:List (Str × V)) (wl g:Addr) (xs:List V) (j:Addr) (kvs:List (List Key × V)) (du:Addr) (ds:List V) (ps:List Pr) (now t:Rat) (pc:Addr),vs=[.ref p]∧PlG K H C p R gs dx fs wl g xs∧PlJ K H R gs fs j kvs∧H j=some (.dT kvs)∧wl≠j∧fs.lookup ("due" : Str)=some (.ref du)∧H du=some (.lst ds)∧Al2 (PrH H) ds ps∧ps.length≤200∧gs.length≤6∧ps=dueP R gs now∧comP R gs now=some t∧fs.lookup ("coming" : Str)=some (.ref pc)∧FQ K H pc t∧FB 2000 t∧∀ (H1:Hp),Same H H1→Q (.bl (crwP R gs now)) H1
theorem jD:FnScope ["self","boxes"] ["self"] (zD (zP (top 65) 12)):=⟨rfl,rfl,rfl,by decide+kernel,rfl,by decide+kernel,by decide+kernel⟩
theorem ok_Plane_is_crowded (D:DfM K (C 0) "is_crowded" "Plane.is_crowded" (zP (top 65) 12) ["self"]) (T:Tx K mg C) (F_Plane_bodies_at:FnM P w K mg base 5 (C 0) "bodies_at" ["self","moment"] (jo K (C 0))) (F_Plane_has_two_meetings:FnM P w K mg base 2 (C 0) "has_two_meetings" ["self"] (y4 K (C 0))) (F_Plane_is_hemmed_in:FnM P w K mg base 6 (C 0) "is_hemmed_in" ["self","boxes"] (ju K (C 0))) (F_Plane_has_a_corner:FnM P w K mg base 6 (C 0) "has_a_corner" ["self","boxes"] (jq K (C 0))):FnM P w K mg base 7 (C 0) "is_crowded" ["self"] (Zi K (C 0)):=by
 refine D.ok0 jD (fun vs H Q E h=>?_) (fun f cdv A outer s H vs Q E hr h=>?_)
 ·obtain ⟨p,R,gs,dx,fs,wl,g,xs,j,kvs,du,ds,ps,now,t,pc,rfl,_⟩:=h
  rfl
 obtain ⟨p,R,gs,dx,fs,wl,g,xs,j,kvs,du,ds,ps,now,t,pc,rfl,pg,pj,hj,njw,fd,hd,al,l2,l6,eps,ec,fc,gt,dt,k⟩:=h
 refine ⟨_,(zE (zM (i:=1) jD.nd rfl (Or.inl rfl) (yV T.cl_Plane F_Plane_bodies_at (by decide) hr zF (pv 0) (zA (zU T.cl_Plane T.n_Plane_coming (pv 0)) zC)))
   (zG (zL (pe_or (ZS T.cl_Plane F_Plane_has_two_meetings (by decide) hr zF (pv 0)) (pe_or (yV T.cl_Plane F_Plane_is_hemmed_in (by decide) hr zF (pv 0) (zA (pv 1) zC)) (yP (yV T.cl_Plane F_Plane_has_a_corner (by decide) hr zF (pv 0) (zA (pv 1) zC)))))))),?_⟩
 refine ⟨_,rfl,p,_,_,rfl,pg.ob,pg.nm.bodies_at,_,rfl,p,_,_,_,rfl,pg.ob,fc,p,pc,dx,g,fs,xs,gs,t,rfl,pg.ob,pg.fg,pg.hg,pg.al,l6,gt,dt,fun r ys H1 s1 n1 e1 al1=>?_⟩
 have eg:((comP R gs now).getD 0)=t:=by rw [ec]; rfl
 unfold crwP at k
 rw [eg,<- eps] at k
 have pg1:=pg.same s1
 have al1d:=zt al s1
 refine ⟨_,rfl,p,_,_,rfl,pg1.ob,pg1.nm.has_two_meetings,p,dx,fs,du,ds,ps,rfl,pg1.ob,fd,s1 _ _ hd,al1d,l2,pg1.nm.boxes_met,fun H2 s2=>⟨_,rfl,?_⟩⟩
 have s12:=s1.trans s2
 cases c1:twoP ps with
 |true=>
  have z:=k H2 s12
  rw [c1,Bool.true_or] at z
  exact iteT z
 |false=>
  refine iteF ?_
  rw [c1,Bool.false_or] at k
  have pg2:=pg.same s12
  refine ⟨_,rfl,p,_,_,rfl,pg2.ob,pg2.nm.is_hemmed_in,_,rfl,p,r,R,gs,dx,fs,wl,g,xs,j,kvs,du,ds,ps,ys,_,rfl,pg2,pj.same s12,s12 _ _ hj,njw,fd,s12 _ _ hd,zt al s12,l2,l6,s2 _ _ e1,zQ al1 s2,by rw [List.length_map],fun H3 s3=>⟨_,rfl,?_⟩⟩
  have s13:=s12.trans s3
  cases c2:hemP R (gs.map (atB t)) ps with
  |true=>
   have z:=k H3 s13
   rw [c2,Bool.true_or] at z
   exact iteT z
  |false=>
   refine iteF ?_
   rw [c2,Bool.false_or] at k
   have pg3:=pg.same s13
   exact ⟨_,rfl,p,_,_,rfl,pg3.ob,pg3.nm.has_a_corner,_,rfl,p,r,R,gs,dx,fs,wl,g,xs,j,kvs,du,ds,ps,ys,_,some t,.ref pc,rfl,pg3,pj.same s13,s13 _ _ hj,njw,fd,s13 _ _ hd,zt al s13,l2,l6,(s2.trans s3) _ _ e1,zQ al1 (s2.trans s3),by rw [List.length_map],fc,.inr ⟨t,pc,rfl,rfl,Kw.Same.tup s13 gt,dt⟩,fun H4 s4=>by have z:=k H4 (s13.trans s4); rw [ec] at z; exact z⟩
noncomputable def spP_part (K:PySem.W.Frag) (C:Addr):Sp:=fun vs H Q _=>∃ (p pb:Addr) (R:Rat × Rat) (gs:List Bq) (dx:Addr) (fs:List (Str × V)) (wl g:Addr) (xs:List V) (j:Addr) (kvs:List (List Key × V)) (q:Pr) (B:Nat),vs=[.ref p,.ref pb]/\PlG K H C p R gs dx fs wl g xs/\PlJ K H R gs fs j kvs/\H j=some (.dT kvs)/\wl≠j/\H pb=some (.tup ((keyP q).map kV))/\InP gs.length q/\gs.length<=6/\WtB gs/\CmP B R gs/\B<=1900/\∀ (xs':List V) (kvs':List (List Key × V)) (H1:Hp),Buts [g,j] H H1->PlG K H1 C p R (prtP R gs q) dx fs wl g xs'->PlJ K H1 R (prtP R gs q) fs j kvs'->H1 j=some (.dT kvs')->Q .non H1
theorem zp:FnScope ["self","pair","way","one","other","left","right","changed","near"] ["self","pair"] (zD (zP (top 65) 17)):=⟨rfl,rfl,rfl,by decide+kernel,rfl,by decide+kernel,by decide+kernel⟩
theorem ok_Plane_part (D:DfM K (C 0) "part" "Plane.part" (zP (top 65) 17) ["self","pair"]) (T:Tx K mg C) (F_Plane_one_of:FnM P w K mg base 1 (C 0) "one_of" ["self","pair","boxes"] (jM K (C 0))) (F_Plane_other_of:FnM P w K mg base 1 (C 0) "other_of" ["self","pair","boxes"] (yt K (C 0))) (F_far_going:Fn P w K mg base 4 "far_going" ["box","way"] (ZC K)) (F_near_going:Fn P w K mg base 1 "near_going" ["box","way"] (jn K)) (F_with_far_going:Fn P w K mg base 4 "with_far_going" ["box","way","going"] (jd K)) (F_with_near_going:Fn P w K mg base 1 "with_near_going" ["box","way","going"] (yd K)) (F_parted:Fn P w K mg base 5 "parted" ["own","far"] (sp_parted K)) (F_Plane_joint_of:FnM P w K mg base 5 (C 0) "joint_of" ["self","pair"] (ZA K (C 0))):FnM P w K mg base 6 (C 0) "part" ["self","pair"] (spP_part K (C 0)):=by
 refine D.ok0 zp (fun vs H Q E h=>?_) (fun f cdv A outer s H vs Q E hr h=>?_)
 ·obtain ⟨p,pb,R,gs,dx,fs,wl,g,xs,j,kvs,q,B,rfl,_⟩:=h
  rfl
 obtain ⟨p,pb,R,gs,dx,fs,wl,g,xs,j,kvs,q,B,rfl,pg,pj,hj,njw,hb,hin,l6,hw,cm,hB,k⟩:=h
 refine ⟨_,(zE (zM (i:=2) zp.nd rfl (Or.inl rfl) (zH ix_tup (pv 1) zB (fun _ _=>rfl)))
   (zE (zM (i:=3) zp.nd rfl (Or.inl rfl) (yV T.cl_Plane F_Plane_one_of (by decide) hr zF (pv 0) (zA (pv 1) (zA (zU T.cl_Plane T.n_Plane_goings (pv 0)) zC))))
   (zE (zM (i:=4) zp.nd rfl (Or.inl rfl) (yV T.cl_Plane F_Plane_other_of (by decide) hr zF (pv 0) (zA (pv 1) (zA (zU T.cl_Plane T.n_Plane_goings (pv 0)) zC))))
   (zE (zM (i:=5) zp.nd rfl (Or.inl rfl) (zI F_far_going (by decide) hr (by rfl) zF (zA (pv 3) (zA (pv 2) zC))))
   (zE (zM (i:=6) zp.nd rfl (Or.inl rfl) (zI F_near_going (by decide) hr (by rfl) zF (zA (pv 4) (zA (pv 2) zC))))
   (zE (ze (zR Z9 (zH ix_tup (pv 1) zB (fun _ _=>rfl)) zB (zT _)) (zG (Yo (zI F_with_far_going (by decide) hr (by rfl) zF (zA (pv 3) (zA (pv 2) (zA (zI F_parted (by decide) hr (by rfl) zF (zA (pv 5) (zA (pv 6) zC))) zC)))) (JV (zU T.cl_Plane T.n_Plane_goings (pv 0)) (zH ix_tup (pv 1) zB (fun _ _=>rfl)) Zf))) zS)
   (zE (ze (zR Z9 (zH ix_tup (pv 1) zB (fun _ _=>rfl)) zB (zT _)) (zG (Yo (zI F_with_near_going (by decide) hr (by rfl) zF (zA (pv 4) (zA (pv 2) (zA (zI F_parted (by decide) hr (by rfl) zF (zA (pv 6) (zA (pv 5) zC))) zC)))) (JV (zU T.cl_Plane T.n_Plane_goings (pv 0)) (zH ix_tup (pv 1) zB (fun _ _=>rfl)) Zf))) zS)
   (zE (@ps_lcT _ _ _ _ _ _ _ _ _ _ _ _ [] [] 7 _ _ _ zp.nd rfl rfl rfl rfl (pi_tup (yN (ZE (K:=K) rfl) (pv 1) (yQ zB) jG)) rfl (by decide) rfl (by decide) rfl (by decide) jr (fun _ _ h=>nomatch h) (Zr rfl) (fun C z Hc fp=>pts_one (zR Z9 (pv 0) zB (zT _))) (fun C z Hc fp=>(pv 0)) (fun _=>rfl))
   (zG (zr PassesOwn.never rfl (zw (jv (call_list_dct rfl) (by rfl) T.b_list PyProof.Rows.Boot.«list» (zA (zU T.cl_Plane T.n_Plane_joints (pv 0)) zC))) (zd (i:=8) zp.nd rfl (Or.inl rfl)) (zG (ze (j8 (zR Zm (zH ix_tup (pv 8) zB (fun _ _=>rfl)) (pv 2) (zT _)) (jF (y9 (zR Zv (zH ix_tup (pv 8) zB (fun _ _=>rfl)) (pv 7) (by first|rfl|with_unfolding_all rfl)) (yY (zR Zv (zH ix_tup (pv 8) zB (fun _ _=>rfl)) (pv 7) (by first|rfl|with_unfolding_all rfl)))).pt)).pt (zG (ps_dput (Zx (u100 hr)) (zU T.cl_Plane T.n_Plane_joints (pv 0)) (pv 8) (yV T.cl_Plane F_Plane_joint_of (by decide) hr zF (pv 0) (zA (pv 8) zC)) rfl)) zS)))))))))))),?_⟩
 have hq:SqT K H pb [.int (q.1:Int),.int q.2.1,.int q.2.2]:=SqT.of hb
 have hz:=Al2.len pg.al
 have npg:p≠g:=zq pg.ob pg.hg (by intro z; cases z)
 have npj:p≠j:=zq pg.ob hj (by intro z; cases z)
 have njg:j≠g:=zq hj pg.hg (by intro z; cases z)
 obtain ⟨wkv,hwl⟩:∃ kv,H wl=some (.dT kv):=by
  obtain ⟨_,_,_,_,e,_⟩:=pg.ws
  exact ⟨_,e⟩
 have nwg:wl≠g:=zq hwl pg.hg (by intro z; cases z)
 obtain ⟨f1,f2⟩:=cm.fbs (q:=q) hw hin (by omega)
 refine ⟨_,rfl,pb,_,_,_,rfl,rfl,hq,rfl,?_⟩
 refine ⟨_,rfl,p,_,_,rfl,pg.ob,pg.nm.one_of,_,rfl,_,rfl,p,_,_,_,rfl,pg.ob,pg.fg,p,pb,g,R,gs,dx,fs,wl,g,xs,q,xs,gs,1990,rfl,pg,hb,pg.hg,pg.al,hin,Nat.le_refl _,fun v1 H1 s1 k1=>?_⟩
 have pg1:=pg.same s1
 refine ⟨_,rfl,p,_,_,rfl,pg1.ob,pg1.nm.other_of,_,rfl,_,rfl,p,_,_,_,rfl,pg1.ob,pg1.fg,p,pb,g,R,gs,dx,fs,wl,g,xs,q,xs,gs,1990,rfl,pg1,s1 _ _ hb,pg1.hg,pg1.al,hin,Nat.le_refl _,fun v2 H2 s2 k2=>?_⟩
 refine ⟨_,rfl,_,rfl,v1,_,q.1,rfl,k1.same s2,hin.1,(cm.far q.1 q.2.1).mono (by omega),fun r3 H3 s3 k3=>?_⟩
 refine ⟨_,rfl,_,rfl,v2,_,q.1,rfl,k2.same s3,hin.1,fun r4 H4 s4 k4=>?_⟩
 have s24:=s3.trans s4
 have s14:=s2.trans s24
 have s04:=s1.trans s14
 have pg4:=pg.same s04
 have hq4:=Kw.Same.tup s04 hq
 have k14:=k1.same s14
 have k24:=k2.same s24
 have k34:=k3.same s4
 have mA:0<=q.2.1->(boxB R gs q.1 q.2.1).m≠none:=fun z=>by
  obtain ⟨m,em,_⟩:=jp (R:=R) (d:=q.1) hw z (hin.l1 z)
  rw [em]
  exact fun y=>nomatch y
 have mB:0<=q.2.2->(boxB R gs q.1 q.2.2).m≠none:=fun z=>by
  obtain ⟨m,em,_⟩:=jp (R:=R) (d:=q.1) hw z (hin.l2 z)
  rw [em]
  exact fun y=>nomatch y
 have ntg:NoT [g] H4:=NoT.lst pg4.hg NoT.nil
 refine g_go ?_
 dsimp only
 refine cut1 (fun σ' H'=>∃ (xs1:List V),σ'=[some (.ref p),some (.ref pb),some (.int (q.1:Int)),some v1,some v2,some (.ref r3),some (.ref r4),none,none]/\But g H4 H'/\H' g=some (.lst xs1)/\Al2 (BqH K 1990 H') xs1 (prtA R gs q)) (fun N hN=>?_) ?_
 ·refine ⟨_,rfl,pb,_,_,_,rfl,rfl,hq4,rfl,_,_,rfl,rfl,_,rfl,?_⟩
  refine zc (fun c=>?_) (fun c=>?_)
  ·obtain ⟨fa,fb,fc⟩:=f1 c
   refine ⟨_,rfl,_,rfl,_,rfl,_,rfl,_,_,farG (boxB R gs q.1 q.2.1) q.1,yE (boxB R gs q.1 q.2.2) q.1,rfl,k34,k4,.inr (mA c),fa,fb,fun r5 a5 c5 ys5 H5 s5 h5 g5 g5'=>?_⟩
   refine ⟨v1,_,q.1,r5,a5,c5,_,_,ys5,rfl,k14.same s5,hin.1,h5,g5,g5',fa,fb,fc,fun r6 H6 s6 k6=>?_⟩
   have s46:=s5.trans s6
   have pg6:=pg4.same s46
   have hq6:=Kw.Same.tup s46 hq4
   refine ⟨_,rfl,p,_,_,_,rfl,pg6.ob,pg6.fg,_,rfl,pb,_,_,_,rfl,rfl,hq6,rfl,g,xs,_,q.2.1.toNat,rfl,rfl,pg6.hg,by rw [show q.2.1=((q.2.1.toNat:Nat):Int) by omega]; exact ixN_nat (by have:=hin.l1 c; omega),?_⟩
   obtain ⟨H7,q7,s7,e7⟩:=newB (H:=H6) (p:=g) (.lst (xs.set q.2.1.toNat (V.ref r6)))
   dsimp only
   rw [q7]
   clear q7
   refine hN _ _ ⟨_,rfl,(But.of s46).trans s7,e7,?_⟩
   have nt6:NoT [g] H6:=NoT.lst pg6.hg NoT.nil
   have b7:Buts [g] H6 H7:=Buts.one s7 (by simp)
   unfold prtA
   rw [if_pos c]
   exact Al2.set (yF pg6.al b7 nt6) (k6.buts b7 nt6)
  ·refine hN _ _ ⟨xs,rfl,But.refl _,pg4.hg,?_⟩
   unfold prtA
   rw [if_neg c]
   exact pg4.al
 rintro σ' H5 ⟨xs1,rfl,s5,hg5,al5⟩
 have b5:Buts [g] H4 H5:=Buts.one s5 (by simp)
 have ob5:=s5 _ _ npg pg4.ob
 have hq5:=b5.tup ntg hq4
 have hz5:=Al2.len al5
 rw [ZT] at hz5
 refine cut1 (fun σ' H'=>∃ (xs2:List V),σ'=[some (.ref p),some (.ref pb),some (.int (q.1:Int)),some v1,some v2,some (.ref r3),some (.ref r4),none,none]/\But g H5 H'/\H' g=some (.lst xs2)/\Al2 (BqH K 1990 H') xs2 (prtP R gs q)) (fun N hN=>?_) ?_
 ·refine ⟨_,rfl,pb,_,_,_,rfl,rfl,hq5,rfl,_,_,rfl,rfl,_,rfl,?_⟩
  refine zc (fun c=>?_) (fun c=>?_)
  ·obtain ⟨fa,fb⟩:=f2 c
   have go3:GoQ K 1990 H5 (.ref r3) (farG (boxB R gs q.1 q.2.1) q.1):=by
    obtain ⟨p',a',c',e',h1',h2',h3',d'⟩:=k34
    exact ⟨p',a',c',e',b5.tup ntg h1',b5.tup ntg h2',b5.tup ntg h3',d'⟩
   have go4:GoQ K 1990 H5 (.ref r4) (yE (boxB R gs q.1 q.2.2) q.1):=by
    obtain ⟨p',a',c',e',h1',h2',h3',d'⟩:=k4
    exact ⟨p',a',c',e',b5.tup ntg h1',b5.tup ntg h2',b5.tup ntg h3',d'⟩
   refine ⟨_,rfl,_,rfl,_,rfl,_,rfl,_,_,yE (boxB R gs q.1 q.2.2) q.1,farG (boxB R gs q.1 q.2.1) q.1,rfl,go4,go3,.inr (mB c),fa,fb,fun r6 a6 c6 ys6 H6 s6 h6 g6 g6'=>?_⟩
   refine ⟨v2,_,q.1,r6,a6,c6,_,_,ys6,rfl,(k24.buts b5 ntg).same s6,hin.1,h6,g6,g6',fa,fb,fun r7 H7 s7 k7=>?_⟩
   have s57:=s6.trans s7
   have hq7:=Kw.Same.tup s57 hq5
   refine ⟨_,rfl,p,_,_,_,rfl,s57 _ _ ob5,pg.fg,_,rfl,pb,_,_,_,rfl,rfl,hq7,rfl,g,xs1,_,q.2.2.toNat,rfl,rfl,s57 _ _ hg5,by rw [show q.2.2=((q.2.2.toNat:Nat):Int) by omega]; exact ixN_nat (by have:=hin.l2 c; omega),?_⟩
   obtain ⟨H8,q8,s8,e8⟩:=newB (H:=H7) (p:=g) (.lst (xs1.set q.2.2.toNat (V.ref r7)))
   dsimp only
   rw [q8]
   clear q8
   refine hN _ _ ⟨_,rfl,(But.of s57).trans s8,e8,?_⟩
   have nt7:NoT [g] H7:=NoT.lst (s57 _ _ hg5) NoT.nil
   have b8:Buts [g] H7 H8:=Buts.one s8 (by simp)
   unfold prtP
   rw [if_pos c]
   exact Al2.set (yF (zQ al5 s57) b8 nt7) (k7.buts b8 nt7)
  ·refine hN _ _ ⟨xs1,rfl,But.refl _,hg5,?_⟩
   unfold prtP
   rw [if_neg c]
   exact al5
 rintro σ' H6 ⟨xs2,rfl,s6,hg6,al6⟩
 have b06:But g H H6:=(But.of s04).trans (s5.trans s6)
 have bs06:Buts [g] H H6:=Buts.one b06 (by simp)
 have ntg0:NoT [g] H:=NoT.lst pg.hg NoT.nil
 have hq6:=bs06.tup ntg0 hq
 refine ⟨_,rfl,_,rfl,pb,_,rfl,hq6,Z5 (n:=3) (by decide) (by decide),?_⟩
 intro p7 n7
 obtain ⟨H7,q7,s7,e7⟩:=newO n7 (.tup (cutV [.int (q.1:Int),.int q.2.1,.int q.2.2] (some 1) none))
 rw [q7]
 clear q7
 have e7':H7 p7=some (.tup [.int q.2.1,.int q.2.2]):=e7
 refine ⟨p7,rfl,⟨_,SqT.of e7'⟩,lc_tupG (K:=K) (fun v=>match v with|.int i=>decide (0<=i)|_=>false) (SqT.of e7') (by show 2<=sizeLine; decide) ?_ ?_ ?_⟩
 ·intro x hx Q1 q1
  obtain ⟨i,rfl⟩:∃ i:Int,x=.int i:=by
   rcases List.mem_cons.mp hx with rfl|hx
   ·exact ⟨_,rfl⟩
   ·rw [List.mem_singleton.mp hx]
    exact ⟨_,rfl⟩
  exact ⟨_,rfl,_,_,rfl,rfl,_,rfl,q1⟩
 ·intro x hx Q1 q1
  exact ⟨_,rfl,q1⟩
 intro l8 hl8
 obtain ⟨ch,ech⟩:∃ ch:List Int,ch=[q.2.1,q.2.2].filter fun i=>decide (0<=i):=⟨_,rfl⟩
 have ef:(([.int q.2.1,.int q.2.2]:List V).filter fun v=>match v with|.int i=>decide (0<=i)|_=>false)=ch.map V.int:=by
  rw [ech]
  exact List.filter_map (f:=V.int) (l:=[q.2.1,q.2.2]) (p:=fun v=>match v with|.int i=>decide (0<=i)|_=>false)
 rw [ef]
 obtain ⟨H8,q8,s8,e8⟩:=newO hl8 (.lst (ch.map V.int))
 rw [q8]
 clear q8
 have mch:∀ i:Int,i∈ch↔0<=i/\(i=q.2.1∨i=q.2.2):=fun i=>by
  rw [ech,List.mem_filter]
  simp only [List.mem_cons,List.not_mem_nil,or_false,decide_eq_true_eq]
  exact ⟨fun h=>⟨h.2,h.1⟩,fun h=>⟨h.2,h.1⟩⟩
 have s68:=s7.trans s8
 have b08:Buts [g] H H8:=bs06.trans (Buts.of s68)
 have hj8:H8 j=some (.dT kvs):=b08 _ _ (by simp [njg]) hj
 have ob8:=b08 _ _ (by simp [npg]) pg.ob
 refine ⟨_,rfl,p,_,_,_,rfl,ob8,pj.fj,j,kvs,prsP gs.length,rfl,hj8,pj.ks,fun l9 ds hl9 al9=>?_⟩
 obtain ⟨H9,q9,s9,e9⟩:=newO hl9 (.lst ds)
 rw [q9]
 clear q9
 have hzd:=Al2.len al9
 have s69:=s68.trans s9
 have nd:=JY l6
 have cm':=cm.part hw hin
 have hj9:=s9 _ _ hj8
 have b09:Buts [g] H H9:=b08.trans (Buts.of s9)
 have pg9:PlG K H9 (C 0) p R (prtP R gs q) dx fs wl g xs2:=⟨s9 _ _ ob8,pg.fw,pg.fg,pg.ws.buts b09 ntg0 (by simp [nwg]),s69 _ _ hg6,zQ al6 s69,pg.nm⟩
 have l9j:l9≠j:=fun z=>by rw [z,hj8] at hl9; cases hl9
 have l8j:l8≠j:=fun z=>by rw [z,(s7 _ _ (bs06 _ _ (by simp [njg]) hj))] at hl8; cases hl8
 have ntj:NoT [j] H9:=NoT.dct hj9 NoT.nil
 refine ⟨l9,rfl,⟨_,SqL.of e9⟩,jW (K:=K) (a:=l9) (xs:=ds) (fun i σ1 H'=>∃ (u8:Option V) (kv:List (List Key × V)),σ1=[some (.ref p),some (.ref pb),some (.int (q.1:Int)),some v1,some v2,some (.ref r3),some (.ref r4),some (.ref l8),u8]/\Buts [j] H9 H'/\H' j=some (.dT kv)/\kv.map (·.1)=(prsP gs.length).map keyP/\Al2 (OptB K H') (kv.map (·.2)) (mixL (jntP R gs) (jntP R (prtP R gs q)) (prsP gs.length) i)) ⟨_,kvs,rfl,Buts.refl,hj9,pj.ks,by rw [mix_zero]; exact yS pj.js b09 ntg0⟩ (by rintro _ _ _ _ ⟨_,_,_,g',_⟩; exact SqL.of (g' _ _ (by simp [l9j]) e9)) ?_ ?_⟩
 ·rintro i x σ1 H10 hx ⟨u8,kv,rfl,s10,hj10,ks10,js10⟩
  have hi:i < ds.length:=(List.getElem?_eq_some_iff.mp hx).1
  obtain ⟨r,hr',c,rfl,hc9⟩:=Al2.get (yk (zt al9 s9) s10 ntj) hx
  have hrin:=yK.mp (List.mem_of_getElem? hr')
  have hrt:SqT K H10 c [.int (r.1:Int),.int r.2.1,.int r.2.2]:=SqT.of hc9
  have hch:SqL K H10 l8 (ch.map V.int):=SqL.of (s10 _ _ (by simp [l8j]) (s9 _ _ e8))
  have stay:jntP R (prtP R gs q) r=jntP R gs r->∃ (u8:Option V) (kv:List (List Key × V)),[some (V.ref p),some (.ref pb),some (.int (q.1:Int)),some v1,some v2,some (.ref r3),some (.ref r4),some (.ref l8),some (.ref c)]=[some (.ref p),some (.ref pb),some (.int (q.1:Int)),some v1,some v2,some (.ref r3),some (.ref r4),some (.ref l8),u8]/\Buts [j] H9 H10/\H10 j=some (.dT kv)/\kv.map (·.1)=(prsP gs.length).map keyP/\Al2 (OptB K H10) (kv.map (·.2)) (mixL (jntP R gs) (jntP R (prtP R gs q)) (prsP gs.length) (i+1)):=fun e=>⟨_,kv,rfl,s10,hj10,ks10,by rw [<- mix_same hr' e]; exact js10⟩
  refine ⟨_,rfl,c,_,_,_,rfl,rfl,hrt,rfl,_,rfl,rfl,_,rfl,?_⟩
  refine jK (fun c1=>?_) (fun c1=>?_)
  rotate_left
  ·refine iteF ?_
   exact stay (jnt_else hin hrin.1 (.inl (by omega)))
  refine ⟨_,rfl,c,_,_,_,rfl,rfl,hrt,rfl,_,rfl,l8,_,rfl,.inl hch,rfl,Zu _,_,rfl,?_⟩
  show if (inV (V.int r.2.1) (ch.map V.int))=true then _ else _
  rw [JJ]
  refine zc (fun c2=>?_) (fun c2=>?_)
  ·refine iteT ?_
   have pg10:PlG K H10 (C 0) p R (prtP R gs q) dx fs wl g xs2:=pg9.buts s10 ntj (by simp [npj]) (by simp [njw]) (by simp [Ne.symm njg])
   refine ⟨_,rfl,p,_,_,rfl,pg10.ob,pg10.nm.joint_of,_,rfl,p,c,R,prtP R gs q,dx,fs,wl,g,xs2,r,rfl,pg10,hc9,by rw [yr]; exact hrin,(cm'.far r.1 r.2.1).mono (by omega),fun t et=>(cm'.jnt et).mono (by omega),fun v11 H11 s11 o11=>?_⟩
   have hj11:=s11 _ _ hj10
   have lkv:kv.length<=200:=by
    have z:=congrArg List.length ks10
    rw [List.length_map,List.length_map] at z
    have:=Zs l6
    omega
   refine ⟨_,rfl,p,_,_,_,rfl,s11 _ _ pg10.ob,pj.fj,_,rfl,j,_,rfl,DPut.t (k:=keyP r) hj11 (s11 _ _ hc9) (Nat.lt_of_le_of_lt lkv (by decide)),?_⟩
   obtain ⟨H12,q12,s12,e12⟩:=newB (H:=H11) (p:=j) (.dT (putK kv (keyP r) v11))
   dsimp only
   rw [q12]
   clear q12
   have hikv:i < kv.length:=by
    have z:=congrArg List.length ks10
    rw [List.length_map,List.length_map] at z
    omega
   obtain ⟨⟨ky,wv⟩,hkv⟩:∃ e,kv[i]?=some e:=⟨_,List.getElem?_eq_getElem hikv⟩
   obtain ⟨r',hr'',ek⟩:=Yi ks10 hkv
   rw [hr'] at hr''
   cases hr''
   replace ek:ky=keyP r:=ek
   subst ek
   have ep:=putK_at (v:=v11) (by rw [ks10]; exact nd) hkv
   have b12:Buts [j] H10 H12:=(Buts.of s11).trans (Buts.one s12 (by simp))
   have nt10:NoT [j] H10:=NoT.dct hj10 NoT.nil
   have nt11:NoT [j] H11:=NoT.dct hj11 NoT.nil
   refine ⟨_,_,rfl,s10.trans b12,e12,?_,?_⟩
   ·rw [ep,List.map_set,ks10]
    show ((prsP gs.length).map keyP).set i (keyP r)=_
    refine List.ext_getElem? fun n=>?_
    rw [List.getElem?_set]
    by_cases e:i=n
    ·subst e
     rw [if_pos rfl,List.getElem?_map,hr',if_pos (by rw [List.length_map]; omega)]
     rfl
    ·rw [if_neg e]
   ·rw [ep,List.map_set,<- mix_set hr']
    exact Al2.set (yS js10 b12 nt10) (o11.buts (Buts.one s12 (by simp)) nt11)
  ·refine ⟨_,rfl,c,_,_,_,rfl,rfl,hrt,rfl,_,rfl,l8,_,rfl,.inl hch,rfl,Zu _,_,rfl,?_⟩
   show if (inV (V.int r.2.2) (ch.map V.int))=true then _ else _
   rw [JJ]
   refine zc (fun c3=>?_) (fun c3=>?_)
   ·skip
    have pg10:PlG K H10 (C 0) p R (prtP R gs q) dx fs wl g xs2:=pg9.buts s10 ntj (by simp [npj]) (by simp [njw]) (by simp [Ne.symm njg])
    refine ⟨_,rfl,p,_,_,rfl,pg10.ob,pg10.nm.joint_of,_,rfl,p,c,R,prtP R gs q,dx,fs,wl,g,xs2,r,rfl,pg10,hc9,by rw [yr]; exact hrin,(cm'.far r.1 r.2.1).mono (by omega),fun t et=>(cm'.jnt et).mono (by omega),fun v11 H11 s11 o11=>?_⟩
    have hj11:=s11 _ _ hj10
    have lkv:kv.length<=200:=by
     have z:=congrArg List.length ks10
     rw [List.length_map,List.length_map] at z
     have:=Zs l6
     omega
    refine ⟨_,rfl,p,_,_,_,rfl,s11 _ _ pg10.ob,pj.fj,_,rfl,j,_,rfl,DPut.t (k:=keyP r) hj11 (s11 _ _ hc9) (Nat.lt_of_le_of_lt lkv (by decide)),?_⟩
    obtain ⟨H12,q12,s12,e12⟩:=newB (H:=H11) (p:=j) (.dT (putK kv (keyP r) v11))
    dsimp only
    rw [q12]
    clear q12
    have hikv:i < kv.length:=by
     have z:=congrArg List.length ks10
     rw [List.length_map,List.length_map] at z
     omega
    obtain ⟨⟨ky,wv⟩,hkv⟩:∃ e,kv[i]?=some e:=⟨_,List.getElem?_eq_getElem hikv⟩
    obtain ⟨r',hr'',ek⟩:=Yi ks10 hkv
    rw [hr'] at hr''
    cases hr''
    replace ek:ky=keyP r:=ek
    subst ek
    have ep:=putK_at (v:=v11) (by rw [ks10]; exact nd) hkv
    have b12:Buts [j] H10 H12:=(Buts.of s11).trans (Buts.one s12 (by simp))
    have nt10:NoT [j] H10:=NoT.dct hj10 NoT.nil
    have nt11:NoT [j] H11:=NoT.dct hj11 NoT.nil
    refine ⟨_,_,rfl,s10.trans b12,e12,?_,?_⟩
    ·rw [ep,List.map_set,ks10]
     show ((prsP gs.length).map keyP).set i (keyP r)=_
     refine List.ext_getElem? fun n=>?_
     rw [List.getElem?_set]
     by_cases e:i=n
     ·subst e
      rw [if_pos rfl,List.getElem?_map,hr',if_pos (by rw [List.length_map]; omega)]
      rfl
     ·rw [if_neg e]
    ·rw [ep,List.map_set,<- mix_set hr']
     exact Al2.set (yS js10 b12 nt10) (o11.buts (Buts.one s12 (by simp)) nt11)
   ·exact stay (jnt_else hin hrin.1 (.inr ⟨fun z=>c2 ((mch _).mpr z),fun z=>c3 ((mch _).mpr z)⟩))
 ·rintro σ1 H10 ⟨u8,kv,rfl,s10,hj10,ks10,js10⟩
  rw [hzd,mix_all] at js10
  have pgE:PlG K H10 (C 0) p R (prtP R gs q) dx fs wl g xs2:=pg9.buts s10 ntj (by simp [npj]) (by simp [njw]) (by simp [Ne.symm njg])
  refine k xs2 kv H10 (fun a u na ha=>s10 _ _ ?_ (b09 _ _ ?_ ha)) pgE ⟨pj.fj,.inl hj10,by rw [yr]; exact ks10,by rw [yr]; exact js10⟩ hj10
  ·simp only [List.mem_cons,List.not_mem_nil,or_false,not_or] at na ⊢
   exact na.2
  ·simp only [List.mem_cons,List.not_mem_nil,or_false,not_or] at na ⊢
   exact na.1
noncomputable def Jx (K:PySem.W.Frag) (C:Addr):Sp:=fun vs H Q _=>∃ (p:Addr) (R:Rat × Rat) (gs:List Bq) (now:Rat) (n:Nat) (wl g j:Addr) (t:Rat) (B:Nat),vs=[.ref p]∧ZL K H C p R gs now n wl g j∧gs.length≤6∧WtB gs∧comP R gs now=some t∧CmP B R gs∧B+15 * (dueP R gs now).length≤1900∧∀ (H1:Hp),Buts [p,g,j] H H1→ZL K H1 C p R (onP R gs now) t (n+1) wl g j→(∀ dx fs,H1 p=some (.ins C dx fs)→∀ du,fs.lookup ("due" : Str)=some (.ref du)→∀ z o,H z=some o→du≠z∨z=p∨z=g∨z=j)→Q .non H1
theorem Za:FnScope ["self","pair"] ["self"] (zD (zP (top 65) 16)):=⟨rfl,rfl,rfl,by decide+kernel,rfl,by decide+kernel,by decide+kernel⟩
theorem ok_Plane_go_on (D:DfM K (C 0) "go_on" "Plane.go_on" (zP (top 65) 16) ["self"]) (T:Tx K mg C) (F_Plane_part:FnM P w K mg base 6 (C 0) "part" ["self","pair"] (spP_part K (C 0))) (F_Plane_look_ahead:FnM P w K mg base 6 (C 0) "look_ahead" ["self"] (jU K (C 0))):FnM P w K mg base 7 (C 0) "go_on" ["self"] (Jx K (C 0)):=by
 refine D.ok0 Za (fun vs H Q E h=>?_) (fun f cdv A outer s H vs Q E hr h=>?_)
 ·obtain ⟨p,R,gs,now,n,wl,g,j,t,B,rfl,_⟩:=h
  rfl
 obtain ⟨p,R,gs,now,n,wl,g,j,t,B,rfl,⟨dx,nw,co,du,xs,kvs,ds,pg,pj,hj,njw,gn,dn,oc,hd,al,ndg⟩,l6,hw,et,cm,hB,k⟩:=h
 refine ⟨_,(zE (jI T.cl_Plane T.n_Plane_now (pv 0) (zU T.cl_Plane T.n_Plane_coming (pv 0)))
   (zE (ps_fldadd T.cl_Plane T.n_Plane_gone_through in_add (pv 0) zB)
   (zE (zr PassesOwn.never rfl (zw (zU T.cl_Plane T.n_Plane_due (pv 0))) (zd (i:=1) Za.nd rfl (Or.inl rfl)) (zG (y3 (yV T.cl_Plane F_Plane_part (by decide) hr zF (pv 0) (zA (pv 1) zC)))))
   (zG (y3 (ZS T.cl_Plane F_Plane_look_ahead (by decide) hr zF (pv 0))))))),?_⟩
 have npg:p≠g:=zq pg.ob pg.hg (by intro z; cases z)
 have npj:p≠j:=zq pg.ob hj (by intro z; cases z)
 have njg:j≠g:=zq hj pg.hg (by intro z; cases z)
 have npd:p≠du:=zq pg.ob hd (by intro z; cases z)
 have njd:j≠du:=zq hj hd (by intro z; cases z)
 obtain ⟨wkv,hwl⟩:∃ kv,H wl=some (.dT kv):=by
  obtain ⟨_,_,_,_,e,_⟩:=pg.ws
  exact ⟨_,e⟩
 have nwg:wl≠g:=zq hwl pg.hg (by intro z; cases z)
 have nwp:wl≠p:=zq hwl pg.ob (by intro z; cases z)
 obtain ⟨pt,rfl,gt,dt⟩:∃ pt:Addr,co=.ref pt/\FQ K H pt t/\FB 2000 t:=by
  rcases oc with ⟨e,_⟩|⟨q,pt,e,e',g',d'⟩
  ·rw [et] at e
   cases e
  ·rw [et] at e
   injection e with e
   subst e
   exact ⟨pt,e',g',d'⟩
 refine ⟨_,rfl,p,_,_,_,rfl,pg.ob,rfl,_,rfl,p,dx,_,rfl,pg.ob,by show (7:Nat) < 1000; decide,?_⟩
 obtain ⟨H2,q2,s2,e2⟩:=newB (H:=H) (p:=p) (.ins (C 0) dx (putF ("now" : Str) (V.ref pt) (plF wl g nw (n:Int) j (.ref pt) du)))
 dsimp only
 rw [q2]
 clear q2
 replace e2:H2 p=some (.ins (C 0) dx (plF wl g pt (n:Int) j (.ref pt) du)):=e2
 refine ⟨_,rfl,p,dx,_,_,rfl,e2,rfl,1,rfl,rfl,by show (7:Nat) < 1000; decide,?_⟩
 obtain ⟨H3,q3,s3,e3⟩:=newB (H:=H2) (p:=p) (.ins (C 0) dx (putF ("gone_through" : Str) (V.int ((n:Int)+1)) (plF wl g pt (n:Int) j (.ref pt) du)))
 dsimp only
 rw [q3]
 clear q3
 replace e3:H3 p=some (.ins (C 0) dx (plF wl g pt ((n+1:Nat):Int) j (.ref pt) du)):=e3
 have b3:But p H H3:=s2.trans s3
 have bs3:Buts [p] H H3:=Buts.one b3 (by simp)
 have nt:NoT [p] H:=NoT.ins pg.ob NoT.nil
 have pg3:PlG K H3 (C 0) p R gs dx (plF wl g pt ((n+1:Nat):Int) j (.ref pt) du) wl g xs:=⟨e3,rfl,rfl,pg.ws.buts bs3 nt (by simp [nwp]),b3 _ _ (Ne.symm npg) pg.hg,yF pg.al bs3 nt,plF_nm⟩
 have hj3:=b3 _ _ (Ne.symm npj) hj
 have pj3:PlJ K H3 R gs (plF wl g pt ((n+1:Nat):Int) j (.ref pt) du) j kvs:=⟨rfl,.inl hj3,pj.ks,yS pj.js bs3 nt⟩
 have hd3:=b3 _ _ (Ne.symm npd) hd
 have al3:=yk al bs3 nt
 have gt3:=bs3.tup nt gt
 have nt3:NoT [g,j] H3:=NoT.lst pg3.hg (NoT.dct hj3 NoT.nil)
 have hzd:=Al2.len al
 refine ⟨_,rfl,p,_,_,_,rfl,e3,rfl,du,rfl,⟨_,SqL.of hd3⟩,jW (K:=K) (a:=du) (xs:=ds) (fun m σ' H'=>∃ (u1:Option V) (xs':List V) (kvs':List (List Key × V)),σ'=[some (.ref p),u1]/\Buts [g,j] H3 H'/\PlG K H' (C 0) p R (((dueP R gs now).take m).foldl (prtP R) gs) dx (plF wl g pt ((n+1:Nat):Int) j (.ref pt) du) wl g xs'/\PlJ K H' R (((dueP R gs now).take m).foldl (prtP R) gs) (plF wl g pt ((n+1:Nat):Int) j (.ref pt) du) j kvs'/\H' j=some (.dT kvs')) ⟨_,xs,kvs,rfl,Buts.refl,pg3,pj3,hj3⟩ (by rintro _ _ _ _ ⟨_,_,_,_,g5,_⟩; exact SqL.of (g5 _ _ (by simp [ndg,Ne.symm njd]) hd3)) ?_ ?_⟩
 ·rintro m x σ' H4 hx ⟨u1,xs',kvs',rfl,s4,pg4,pj4,hj4⟩
  have hm:m < ds.length:=(List.getElem?_eq_some_iff.mp hx).1
  obtain ⟨q,hq,b,rfl,hb⟩:=Al2.get (yk al3 s4 nt3) hx
  have hin:=jj q (List.mem_of_getElem? hq)
  have hlt:∀ r∈(dueP R gs now).take m,InP gs.length r:=fun r hr=>jj r (List.mem_of_mem_take hr)
  obtain ⟨cm4,hw4⟩:=YA ((dueP R gs now).take m) cm hw hlt
  have ltk:((dueP R gs now).take m).length<=(dueP R gs now).length:=by rw [List.length_take]; omega
  have lgs:(((dueP R gs now).take m).foldl (prtP R) gs).length=gs.length:=Zq _ _
  refine ⟨_,rfl,p,_,_,rfl,pg4.ob,rfl,_,rfl,p,b,R,_,dx,_,wl,g,xs',j,kvs',q,B+15 * ((dueP R gs now).take m).length,rfl,pg4,pj4,hj4,njw,hb,by rw [lgs]; exact hin,by rw [lgs]; exact l6,hw4,cm4,by omega,fun xs5 kvs5 H5 s5 pg5 pj5 hj5=>?_⟩
  have ef:((dueP R gs now).take (m+1)).foldl (prtP R) gs=prtP R (((dueP R gs now).take m).foldl (prtP R) gs) q:=by
   rw [zZ hq,List.foldl_append]
   rfl
  rw [<- ef] at pg5 pj5
  exact ⟨_,xs5,kvs5,rfl,s4.trans s5,pg5,pj5,hj5⟩
 ·rintro σ' H4 ⟨u1,xs',kvs',rfl,s4,pg4,pj4,hj4⟩
  rw [hzd,List.take_length] at pg4 pj4
  have lgs:(onP R gs now).length=gs.length:=Zq _ _
  refine ⟨_,rfl,p,_,_,rfl,pg4.ob,rfl,p,R,onP R gs now,dx,_,wl,g,xs',j,kvs',pt,t,rfl,pg4,pj4,hj4,njw,rfl,s4.tup nt3 gt3,dt,by show (7:Nat) < 900; decide,by rw [lgs]; exact l6,fun co5 du5 ds5 H5 s5 n5 e5 oc5 hd5 al5=>?_⟩
  replace e5:H5 p=some (.ins (C 0) dx (plF wl g pt ((n+1:Nat):Int) j co5 du5)):=e5
  have bs5:Buts [p] H4 H5:=Buts.one s5 (by simp)
  have nt4:NoT [p] H4:=NoT.ins pg4.ob NoT.nil
  have hj5:=s5 _ _ (Ne.symm npj) hj4
  refine k H5 (fun a o na ha=>?_) ⟨dx,pt,co5,du5,xs',kvs',ds5,⟨e5,rfl,rfl,pg4.ws.buts bs5 nt4 (by simp [nwp]),s5 _ _ (Ne.symm npg) pg4.hg,yF pg4.al bs5 nt4,plF_nm⟩,⟨rfl,.inl hj5,pj4.ks,yS pj4.js bs5 nt4⟩,hj5,njw,bs5.tup nt4 (s4.tup nt3 gt3),dt,oc5,hd5,al5,fun z=>by rw [z,pg4.hg] at n5; cases n5⟩ ?_
  ·simp only [List.mem_cons,List.not_mem_nil,or_false,not_or] at na
   exact s5 _ _ na.1 (s4 _ _ (by simp [na.2.1,na.2.2]) (b3 _ _ na.1 ha))
  ·intro dx' fs' hp' du' hdu' z o hz
   rw [e5] at hp'
   cases hp'
   cases (show some (V.ref du5)=some (.ref du') from hdu')
   by_cases y:z=p∨z=g∨z=j
   ·exact .inr y
   ·simp only [not_or] at y
    refine .inl fun x=>?_
    have w:=s4 _ _ (by simp [y.2.1,y.2.2]) (b3 _ _ y.1 hz)
    rw [<- x,n5] at w
    cases w
noncomputable def Y4 (K:PySem.W.Frag):Sp:=fun vs H Q _=>∃ (r x y:Addr) (R:Rat × Rat),vs=[.ref r]/\SqT K H r [.ref x,.ref y]/\FQ K H x R.1/\FQ K H y R.2/\FB 1990 R.1/\FB 1990 R.2/\∀ (wl:Addr) (H1:Hp),Same H H1->Wls K H1 wl R->Q (.ref wl) H1
theorem Zb:FnScope ["room","wide","high"] ["room"] (zD (top 62)):=⟨rfl,rfl,rfl,by decide+kernel,rfl,by decide+kernel,by decide+kernel⟩
theorem ok_walls_of (D:Df K mg "walls_of" (top 62) ["room"]) (T:Tx K mg C):Fn P w K mg base 1 "walls_of" ["room"] (Y4 K):=by
 refine D.ok0 Zb (fun vs H Q E h=>?_) (fun f cdv A outer s H vs Q E hr h=>?_)
 ·obtain ⟨r,x,y,R,rfl,_⟩:=h
  rfl
 obtain ⟨r,x,y,R,rfl,hr0,hx,hy,fx,fy,q⟩:=h
 refine ⟨_,(zE (zM (i:=1) Zb.nd rfl (Or.inl rfl) (zH ix_tup (pv 0) zB (fun _ _=>rfl)))
   (zE (zM (i:=2) Zb.nd rfl (Or.inl rfl) (zH ix_tup (pv 0) zB (fun _ _=>rfl)))
   (zG (zL (pe_dictT (Zx (u100 hr)) (.cons (zV (zA (zX (by rfl) T.k_ACROSS) (zA (zX (by rfl) T.k_NEAR_WALL) zC))) (zV (zA (zV (zA (pe_un Yr zB) (zA zB zC))) (zA (zm (K:=K) rfl (by rfl) T.k_NOUGHT) (zA (zV (zA zB (zA zB zC))) (zA (pv 2) (zA (zm (K:=K) rfl (by rfl) T.k_NOUGHT) (zA (zm (K:=K) rfl (by rfl) T.k_NOUGHT) (zA yx zC)))))))) (.cons (zV (zA (zX (by rfl) T.k_ACROSS) (zA (zX (by rfl) T.k_FAR_WALL) zC))) (zV (zA (pv 1) (zA (zm (K:=K) rfl (by rfl) T.k_NOUGHT) (zA (zV (zA zB (zA zB zC))) (zA (pv 2) (zA (zm (K:=K) rfl (by rfl) T.k_NOUGHT) (zA (zm (K:=K) rfl (by rfl) T.k_NOUGHT) (zA yx zC)))))))) (.cons (zV (zA (zX (by rfl) T.k_ALONG) (zA (zX (by rfl) T.k_NEAR_WALL) zC))) (zV (zA (zm (K:=K) rfl (by rfl) T.k_NOUGHT) (zA (zV (zA (pe_un Yr zB) (zA zB zC))) (zA (pv 1) (zA (zV (zA zB (zA zB zC))) (zA (zm (K:=K) rfl (by rfl) T.k_NOUGHT) (zA (zm (K:=K) rfl (by rfl) T.k_NOUGHT) (zA yx zC)))))))) (.cons (zV (zA (zX (by rfl) T.k_ALONG) (zA (zX (by rfl) T.k_FAR_WALL) zC))) (zV (zA (zm (K:=K) rfl (by rfl) T.k_NOUGHT) (zA (pv 2) (zA (pv 1) (zA (zV (zA zB (zA zB zC))) (zA (zm (K:=K) rfl (by rfl) T.k_NOUGHT) (zA (zm (K:=K) rfl (by rfl) T.k_NOUGHT) (zA yx zC)))))))) .nil)))) (by simp) (by decide)))))),?_⟩
 refine ⟨_,rfl,r,_,_,_,rfl,rfl,hr0,rfl,?_⟩
 refine ⟨_,rfl,r,_,_,_,rfl,rfl,hr0,rfl,?_⟩
 intro p0 n0
 obtain ⟨H0,q0,s0,e0⟩:=newO n0 (.dT [])
 rw [q0]
 clear q0
 refine ⟨by show 2<=sizeLine; decide,?_⟩
 intro p1 n1
 obtain ⟨H1,q1,s1,e1⟩:=newO n1 (.tup [.int 0,.int (-1)])
 rw [q1]
 clear q1
 refine ⟨_,rfl,by show 2<=sizeLine; decide,?_⟩
 intro p2 n2
 obtain ⟨H2,q2,s2,e2⟩:=newO n2 (.tup [.int (-1),.int 1])
 rw [q2]
 clear q2
 refine fun N3_1 g3_1=>?_
 refine ⟨by show 2<=sizeLine; decide,?_⟩
 intro p3 n3
 obtain ⟨H3,q3,s3,e3⟩:=newO n3 (.tup [.int 1,.int 1])
 rw [q3]
 clear q3
 refine ⟨_,rfl,?_⟩
 refine fun N4_4 g4_4=>?_
 refine fun N4_5 g4_5=>?_
 refine ⟨by show 7<=sizeLine; decide,?_⟩
 intro p4 n4
 obtain ⟨H4,q4,s4,e4⟩:=newO n4 (.tup [.ref p2,.ref N3_1,.ref p3,.ref y,.ref N4_4,.ref N4_5,.non])
 rw [q4]
 clear q4
 refine ⟨by show 2<=sizeLine; decide,?_⟩
 intro p5 n5
 obtain ⟨H5,q5,s5,e5⟩:=newO n5 (.tup [.int 0,.int (-2)])
 rw [q5]
 clear q5
 refine ⟨_,rfl,?_⟩
 refine fun N6_1 g6_1=>?_
 refine ⟨by show 2<=sizeLine; decide,?_⟩
 intro p6 n6
 obtain ⟨H6,q6,s6,e6⟩:=newO n6 (.tup [.int 1,.int 1])
 rw [q6]
 clear q6
 refine ⟨_,rfl,?_⟩
 refine fun N7_4 g7_4=>?_
 refine fun N7_5 g7_5=>?_
 refine ⟨by show 7<=sizeLine; decide,?_⟩
 intro p7 n7
 obtain ⟨H7,q7,s7,e7⟩:=newO n7 (.tup [.ref x,.ref N6_1,.ref p6,.ref y,.ref N7_4,.ref N7_5,.non])
 rw [q7]
 clear q7
 refine ⟨by show 2<=sizeLine; decide,?_⟩
 intro p8 n8
 obtain ⟨H8,q8,s8,e8⟩:=newO n8 (.tup [.int 1,.int (-1)])
 rw [q8]
 clear q8
 refine fun N9_0 g9_0=>?_
 refine ⟨_,rfl,by show 2<=sizeLine; decide,?_⟩
 intro p9 n9
 obtain ⟨H9,q9,s9,e9⟩:=newO n9 (.tup [.int (-1),.int 1])
 rw [q9]
 clear q9
 refine ⟨_,rfl,?_⟩
 refine ⟨by show 2<=sizeLine; decide,?_⟩
 intro p10 n10
 obtain ⟨H10,q10,s10,e10⟩:=newO n10 (.tup [.int 1,.int 1])
 rw [q10]
 clear q10
 refine fun N11_4 g11_4=>?_
 refine fun N11_5 g11_5=>?_
 refine ⟨by show 7<=sizeLine; decide,?_⟩
 intro p11 n11
 obtain ⟨H11,q11,s11,e11⟩:=newO n11 (.tup [.ref N9_0,.ref p9,.ref x,.ref p10,.ref N11_4,.ref N11_5,.non])
 rw [q11]
 clear q11
 refine ⟨by show 2<=sizeLine; decide,?_⟩
 intro p12 n12
 obtain ⟨H12,q12,s12,e12⟩:=newO n12 (.tup [.int 1,.int (-2)])
 rw [q12]
 clear q12
 refine fun N13_0 g13_0=>?_
 refine ⟨_,rfl,?_⟩
 refine ⟨_,rfl,?_⟩
 refine ⟨by show 2<=sizeLine; decide,?_⟩
 intro p13 n13
 obtain ⟨H13,q13,s13,e13⟩:=newO n13 (.tup [.int 1,.int 1])
 rw [q13]
 clear q13
 refine fun N14_4 g14_4=>?_
 refine fun N14_5 g14_5=>?_
 refine ⟨by show 7<=sizeLine; decide,?_⟩
 intro p14 n14
 obtain ⟨H14,q14,s14,e14⟩:=newO n14 (.tup [.ref N13_0,.ref y,.ref x,.ref p13,.ref N14_4,.ref N14_5,.non])
 rw [q14]
 clear q14
 have t14:Same H14 H14:=fun _ _ h=>h
 have t13:=s14.trans t14
 have t12:=s13.trans t13
 have t11:=s12.trans t12
 have t10:=s11.trans t11
 have t9:=s10.trans t10
 have t8:=s9.trans t9
 have t7:=s8.trans t8
 have t6:=s7.trans t7
 have t5:=s6.trans t6
 have t4:=s5.trans t5
 have t3:=s4.trans t4
 have t2:=s3.trans t3
 have t1:=s2.trans t2
 have t0:=s1.trans t1
 have tx:=s0.trans t0
 obtain ⟨sz,wz⟩:=wls_new (K:=K) (R:=R) fx fy n0 tx (t0 _ _ e0) ⟨p4,_,_,_,_,_,_,rfl,SqT.of (t4 _ _ e4),fq_mone (SqT.of (t2 _ _ e2)),z7 (g3_1 _),fq_one (SqT.of (t3 _ _ e3)),Kw.Same.tup tx hy,z7 (g4_4 _),z7 (g4_5 _)⟩ ⟨p7,_,_,_,_,_,_,rfl,SqT.of (t7 _ _ e7),Kw.Same.tup tx hx,z7 (g6_1 _),fq_one (SqT.of (t6 _ _ e6)),Kw.Same.tup tx hy,z7 (g7_4 _),z7 (g7_5 _)⟩ ⟨p11,_,_,_,_,_,_,rfl,SqT.of (t11 _ _ e11),z7 (g9_0 _),fq_mone (SqT.of (t9 _ _ e9)),Kw.Same.tup tx hx,fq_one (SqT.of (t10 _ _ e10)),z7 (g11_4 _),z7 (g11_5 _)⟩ ⟨p14,_,_,_,_,_,_,rfl,SqT.of (t14 _ _ e14),z7 (g13_0 _),Kw.Same.tup tx hy,Kw.Same.tup tx hx,fq_one (SqT.of (t13 _ _ e13)),z7 (g14_4 _),z7 (g14_5 _)⟩
 exact ⟨t0 _ _ e0,[(keyW 0 (-1),.ref p4),(keyW 0 (-2),.ref p7),(keyW 1 (-1),.ref p11),(keyW 1 (-2),.ref p14)],⟨⟨p1,rfl,t1 _ _ e1⟩,rfl,⟨p5,rfl,t5 _ _ e5⟩,rfl,⟨p8,rfl,t8 _ _ e8⟩,rfl,⟨p12,rfl,t12 _ _ e12⟩,rfl,trivial⟩,by show 4<=100; decide,q p0 _ sz wz⟩
noncomputable def YB (K:PySem.W.Frag):Sp:=fun vs H Q _=>∃ (n:Nat),vs=[.int (n:Int)]/\n<=6/\∀ (a:Addr) (xs:List V) (H1:Hp),Same H H1->H a=none->H1 a=some (.lst xs)->Al2 (PrH H1) xs (prsP n)->Q (.ref a) H1
theorem ym:FnScope ["count","pairs","way","one","other"] ["count"] (zD (top 64)):=⟨rfl,rfl,rfl,by decide+kernel,rfl,by decide+kernel,by decide+kernel⟩
theorem ok_all_pairs (D:Df K mg "all_pairs" (top 64) ["count"]) (T:Tx K mg C):Fn P w K mg base 1 "all_pairs" ["count"] (YB K):=by
 refine D.ok0 ym (fun vs H Q E h=>?_) (fun f cdv A outer s H vs Q E hr h=>?_)
 ·obtain ⟨n,rfl,_⟩:=h
  rfl
 obtain ⟨n,rfl,hn,q⟩:=h
 refine ⟨_,(zE (zM (i:=1) ym.nd rfl (Or.inl rfl) (yy zC))
   (zE (zr PassesOwn.never rfl (pi_tup (zV (zA (zX (by rfl) T.k_ACROSS) (zA (zX (by rfl) T.k_ALONG) zC)))) (zd (i:=2) ym.nd rfl (Or.inl rfl)) (zG (zr PassesOwn.never rfl (Ym (by rfl) T.b_range (zA (zX (by rfl) T.k_NEAR_WALL) (zA (pv 0) zC))) (zd (i:=3) ym.nd rfl (Or.inl rfl)) (zG (zr PassesOwn.never rfl (zw (zN op_cat (yy (zA (zX (by rfl) T.k_FAR_WALL) zC)) (pe_listRange rfl (by rfl) T.b_list (by rfl) T.b_range (zA (pv 0) zC)))) (zd (i:=4) ym.nd rfl (Or.inl rfl)) (zG (ze (j8 (zR op_ne (pv 3) (pv 4) (zT _)) (jF (y9 (zR Z9 (pv 3) zB (zT _)) (yY (zR Z9 (pv 4) zB (zT _)))).pt)).pt (zG (y3 (pe_bm PySem.F.plainAttrs_list PySem.F.slot_list_append PySem.F.type_list_append Yv (pv 1) (zA (zV (zA (pv 2) (zA (pv 3) (zA (pv 4) zC)))) zC)))) zS)))))))
   (zG (zL (pv 1))))),?_⟩
 refine ⟨by show 0<=sizeLine; decide,?_⟩
 intro p0 n0
 obtain ⟨H0,q0,s0,e0⟩:=newO n0 (.lst [])
 rw [q0]
 clear q0
 refine ⟨by show 2<=sizeLine; decide,?_⟩
 intro p1 n1
 obtain ⟨H1,q1,s1,e1⟩:=newO n1 (.tup [.int 0,.int 1])
 rw [q1]
 clear q1
 have e01:=s1 _ _ e0
 have st:SqT K H1 p1 [.int 0,.int 1]:=SqT.of e1
 have nt1:NoT [p0] H1:=NoT.lst e01 NoT.nil
 refine ⟨p1,rfl,⟨_,st⟩,for_tup (K:=K) (xs:=[.int 0,.int 1]) (fun d σ' H'=>∃ (u2 u3 u4:Option V) (xs:List V) (ps:List Pr),σ'=[some (.int (n:Int)),some (.ref p0),u2,u3,u4]/\But p0 H1 H'/\H' p0=some (.lst xs)/\Al2 (PrH H') xs ps/\ps=(if d=0 then [] else if d=1 then prsD n 0 else prsP n)/\ps.length<=60 * d) ⟨_,_,_,[],[],rfl,But.refl _,e01,trivial,rfl,Nat.zero_le _⟩ ?_ ?_ ?_⟩
 ·rintro d σ' H2 _ ⟨u2,u3,u4,xs,ps,rfl,b2,hp2,al2,eps,lps⟩
  exact (Buts.one b2 (by simp)).tup nt1 st
 ·rintro d x σ' H2 hx ⟨u2,u3,u4,xs,ps,rfl,b2,hp2,al2,eps,lps⟩
  obtain ⟨hd,rfl⟩:d<=1/\x=.int (d:Int):=by
   match d,hx with
   |0,hx=>cases hx; exact ⟨by decide,rfl⟩
   |1,hx=>cases hx; exact ⟨by decide,rfl⟩
   |d+2,hx=>cases hx
  have l60:ps.length<=60:=by omega
  refine ⟨_,rfl,_,_,rfl,⟨by decide,by decide,by omega,by omega⟩,yC (lo:=-1) (n:=((n:Int) - (-1)).toNat) (fun i σ' H'=>∃ (u3 u4:Option V) (xs:List V) (qs:List Pr),σ'=[some (.int (n:Int)),some (.ref p0),some (.int (d:Int)),u3,u4]/\But p0 H2 H'/\H' p0=some (.lst xs)/\Al2 (PrH H') xs qs/\qs=ps++((onesN n).take i).flatMap (prs1 n d)/\qs.length<=ps.length+8 * i) ⟨_,_,xs,ps,rfl,But.refl _,hp2,al2,by simp,by omega⟩ ?_ ?_⟩
  ·rintro i σ' H3 hi ⟨u3,u4,xs,qs,rfl,b3,hp3,al3,eqs,lqs⟩
   have hin:i<=n:=by omega
   refine ⟨by show 1<=sizeLine; decide,?_⟩
   intro p4 n4
   obtain ⟨H4,q4,s4,e4⟩:=newO n4 (.lst [.int (-2)])
   rw [q4]
   clear q4
   refine ⟨_,rfl,n,rfl,by omega,?_⟩
   intro p5 n5
   obtain ⟨H5,q5,s5,e5⟩:=newO n5 (.lst ((List.range n).map fun i:Nat=>V.int (i:Int)))
   rw [q5]
   clear q5
   refine ⟨p4,p5,_,_,rfl,rfl,s5 _ _ e4,e5,by rw [List.length_map,List.length_range,sizeLine_eq]; show 1+n<=_; omega,?_⟩
   intro p6 n6
   obtain ⟨H6,q6,s6,e6⟩:=newO n6 (.lst ([V.int (-2)]++(List.range n).map fun i:Nat=>V.int (i:Int)))
   rw [q6]
   clear q6
   rw [oth_vs] at e6
   have s36:=s4.trans (s5.trans s6)
   have hp6:=s36 _ _ hp3
   have n60:p6≠p0:=fun z=>by rw [z,(s4.trans s5) _ _ hp3] at n6; cases n6
   refine ⟨p6,rfl,⟨_,SqL.of e6⟩,jW (K:=K) (xs:=(Jn n).map V.int) (fun k σ' H'=>∃ (u4:Option V) (xs:List V) (rs:List Pr),σ'=[some (.int (n:Int)),some (.ref p0),some (.int (d:Int)),some (.int (-1+(i:Int))),u4]/\But p0 H6 H'/\H' p0=some (.lst xs)/\Al2 (PrH H') xs rs/\rs=qs++(((Jn n).take k).filter (okP (-1+(i:Int)))).map (fun o=>(d,-1+(i:Int),o))/\rs.length<=qs.length+k) ⟨_,xs,qs,rfl,But.refl _,hp6,zt al3 s36,by simp,by omega⟩ ?_ ?_ ?_⟩
   ·rintro k σ' H' _ ⟨u4,xs,rs,rfl,b,hp,_⟩
    exact SqL.of (b _ _ n60 e6)
   ·rintro k x σ' H7 hx ⟨u4,xs,rs,rfl,b7,hp7,al7,ers,lrs⟩
    rw [List.getElem?_map] at hx
    obtain ⟨o,ho,rfl⟩:=Option.map_eq_some_iff.mp hx
    have hk:k < (Jn n).length:=(List.getElem?_eq_some_iff.mp ho).1
    rw [oth_len] at hk
    refine ⟨_,rfl,_,rfl,rfl,_,rfl,?_⟩
    refine if_neI (fun c1=>?_) (fun c1=>?_)
    ·refine ⟨_,rfl,_,_,rfl,rfl,_,rfl,?_⟩
     refine zc (fun c2=>?_) (fun c2=>?_)
     ·refine iteT ?_
      refine ⟨_,rfl,.inl ⟨rfl,_,SqL.of hp7⟩,_,rfl,_,rfl,_,rfl,by show 3<=sizeLine; decide,?_⟩
      intro p8 n8
      obtain ⟨H8,q8,s8,e8⟩:=newO n8 (.tup [.int (d:Int),.int (-1+(i:Int)),.int o])
      rw [q8]
      clear q8
      have hp8:=s8 _ _ hp7
      refine ⟨p0,xs,_,rfl,rfl,hp8,by rw [Al2.len al7,sizeLine_eq]; omega,?_⟩
      obtain ⟨H9,q9,b9,e9⟩:=newB (H:=H8) (p:=p0) (.lst (xs++[.ref p8]))
      rw [q9]
      clear q9
      have nt8:NoT [p0] H8:=NoT.lst hp8 NoT.nil
      have bs9:Buts [p0] H8 H9:=Buts.one b9 (by simp)
      have n80:p8≠p0:=zq e8 hp8 (by intro z; cases z)
      refine ⟨_,_,rs++[(d,-1+(i:Int),o)],rfl,b7.trans ((But.of s8).trans b9),e9,Al2.snoc (yk (zt al7 s8) bs9 nt8) ⟨p8,rfl,b9 _ _ n80 e8⟩,?_,by rw [List.length_append,List.length_singleton]; omega⟩
      rw [zZ ho,List.filter_append,List.map_append,ers,List.append_assoc]
      rw [show [o].filter (okP (-1+(i:Int)))=[o] by simp [okP]; omega]
      rfl
     ·refine ⟨_,rfl,_,_,rfl,rfl,_,rfl,?_⟩
      refine zc (fun c3=>?_) (fun c3=>?_)
      ·refine ⟨_,rfl,.inl ⟨rfl,_,SqL.of hp7⟩,_,rfl,_,rfl,_,rfl,by show 3<=sizeLine; decide,?_⟩
       intro p8 n8
       obtain ⟨H8,q8,s8,e8⟩:=newO n8 (.tup [.int (d:Int),.int (-1+(i:Int)),.int o])
       rw [q8]
       clear q8
       have hp8:=s8 _ _ hp7
       refine ⟨p0,xs,_,rfl,rfl,hp8,by rw [Al2.len al7,sizeLine_eq]; omega,?_⟩
       obtain ⟨H9,q9,b9,e9⟩:=newB (H:=H8) (p:=p0) (.lst (xs++[.ref p8]))
       rw [q9]
       clear q9
       have nt8:NoT [p0] H8:=NoT.lst hp8 NoT.nil
       have bs9:Buts [p0] H8 H9:=Buts.one b9 (by simp)
       have n80:p8≠p0:=zq e8 hp8 (by intro z; cases z)
       refine ⟨_,_,rs++[(d,-1+(i:Int),o)],rfl,b7.trans ((But.of s8).trans b9),e9,Al2.snoc (yk (zt al7 s8) bs9 nt8) ⟨p8,rfl,b9 _ _ n80 e8⟩,?_,by rw [List.length_append,List.length_singleton]; omega⟩
       rw [zZ ho,List.filter_append,List.map_append,ers,List.append_assoc]
       rw [show [o].filter (okP (-1+(i:Int)))=[o] by simp [okP]; omega]
       rfl
      ·refine ⟨_,xs,rs,rfl,b7,hp7,al7,?_,by omega⟩
       rw [zZ ho,List.filter_append,List.map_append,ers]
       rw [show [o].filter (okP (-1+(i:Int)))=[] by simp [okP]; omega]
       simp
    ·refine iteF ?_
     refine ⟨_,xs,rs,rfl,b7,hp7,al7,?_,by omega⟩
     rw [zZ ho,List.filter_append,List.map_append,ers]
     rw [show [o].filter (okP (-1+(i:Int)))=[] by simp [okP]; omega]
     simp
   ·rintro σ' H7 ⟨u4,xs,rs,rfl,b7,hp7,al7,ers,lrs⟩
    rw [List.length_map,oth_len] at lrs
    rw [List.take_of_length_le (by rw [List.length_map]; exact Nat.le_refl _)] at ers
    refine ⟨_,_,xs,rs,rfl,b3.trans ((But.of s36).trans b7),hp7,al7,?_,by omega⟩
    rw [zZ (ones_at hin),List.flatMap_append,ers,eqs,List.append_assoc]
    simp only [List.append_cancel_left_eq,List.flatMap_cons,List.flatMap_nil,List.append_nil]
    rfl
  ·rintro σ' H3 ⟨u3,u4,xs,qs,rfl,b3,hp3,al3,eqs,lqs⟩
   rw [show ((n:Int) - (-1)).toNat=n+1 by omega] at eqs lqs
   rw [List.take_of_length_le (by rw [ones_len]; exact Nat.le_refl _),<- prsD_eq] at eqs
   refine ⟨_,_,_,xs,qs,rfl,b2.trans b3,hp3,al3,?_,by omega⟩
   rw [eqs,eps]
   rcases d01 hd with rfl|rfl
   ·rfl
   ·rfl
 ·rintro σ' H2 ⟨u2,u3,u4,xs,ps,rfl,b2,hp2,al2,eps,lps⟩
  refine ⟨_,rfl,q p0 xs H2 (fun a o ha=>?_) n0 hp2 ((show ps=prsP n from eps)▸al2)⟩
  have na:a≠p0:=fun z=>by rw [z,n0] at ha; cases ha
  exact b2 _ _ na ((s0.trans s1) _ _ ha)
noncomputable def spP_init (K:PySem.W.Frag) (C:Addr):Sp:=fun vs H Q _=>∃ (x dx r rx ry l:Addr) (R:Rat × Rat) (xs:List V) (gs:List Bq) (B:Nat),vs=[.ref x,.ref r,.ref l]/\H x=some (.ins C dx [])/\SqT K H r [.ref rx,.ref ry]/\FQ K H rx R.1/\FQ K H ry R.2/\FB 1990 R.1/\FB 1990 R.2/\H l=some (.lst xs)/\Al2 (BqH K 1990 H) xs gs/\gs.length<=6/\CmP B R gs/\B<=1900/\∀ (wl g j:Addr) (H1:Hp),But x H H1->H g=none->H j=none->ZL K H1 C x R gs 0 0 wl g j->Q .non H1
theorem jZ:FnScope ["self","room","boxes","pair"] ["self","room","boxes"] (zD (zP (top 65) 0)):=⟨rfl,rfl,rfl,by decide+kernel,rfl,by decide+kernel,by decide+kernel⟩
theorem ok_Plane___init__ (D:DfM K (C 0) "__init__" "Plane.__init__" (zP (top 65) 0) ["self","room","boxes"]) (T:Tx K mg C) (F_walls_of:Fn P w K mg base 1 "walls_of" ["room"] (Y4 K)) (F_all_pairs:Fn P w K mg base 1 "all_pairs" ["count"] (YB K)) (F_Plane_joint_of:FnM P w K mg base 5 (C 0) "joint_of" ["self","pair"] (ZA K (C 0))) (F_Plane_look_ahead:FnM P w K mg base 6 (C 0) "look_ahead" ["self"] (jU K (C 0))):FnM P w K mg base 7 (C 0) "__init__" ["self","room","boxes"] (spP_init K (C 0)):=by
 refine D.ok0 jZ (fun vs H Q E h=>?_) (fun f cdv A outer s H vs Q E hr h=>?_)
 ·obtain ⟨x,dx,r,rx,ry,l,R,xs,gs,B,rfl,_⟩:=h
  rfl
 obtain ⟨x,dx,r,rx,ry,l,R,xs,gs,B,rfl,hx,hr0,grx,gry,fx,fy,hl,al,l6,cm,hB,k⟩:=h
 refine ⟨_,(zE (jI T.cl_Plane T.n_Plane_walls (pv 0) (zI F_walls_of (by decide) hr (by rfl) zF (zA (pv 1) zC)))
   (zE (jI T.cl_Plane T.n_Plane_goings (pv 0) (jv YS (by rfl) T.b_list PyProof.Rows.Boot.«list» (zA (pv 2) zC)))
   (zE (jI T.cl_Plane T.n_Plane_now (pv 0) (zm (K:=K) rfl (by rfl) T.k_NOUGHT))
   (zE (jI T.cl_Plane T.n_Plane_gone_through (pv 0) zB)
   (zE (jI T.cl_Plane T.n_Plane_joints (pv 0) pe_dnewT)
   (zE (zr PassesOwn.never rfl (zw (zI F_all_pairs (by decide) hr (by rfl) zF (zA (zW yD (by rfl) T.b_len PyProof.Rows.Boot.«len» (zA (pv 2) zC)) zC))) (zd (i:=3) jZ.nd rfl (Or.inl rfl)) (zG (ps_dput (Zx (u100 hr)) (zU T.cl_Plane T.n_Plane_joints (pv 0)) (pv 3) (yV T.cl_Plane F_Plane_joint_of (by decide) hr zF (pv 0) (zA (pv 3) zC)) rfl)))
   (zG (y3 (ZS T.cl_Plane F_Plane_look_ahead (by decide) hr zF (pv 0)))))))))),?_⟩
 have hz:=Al2.len al
 refine ⟨_,rfl,r,rx,ry,R,rfl,hr0,grx,gry,fx,fy,fun wl H2 s2 ws2=>?_⟩
 refine ⟨_,rfl,x,dx,_,rfl,s2 _ _ hx,by show (0:Nat) < 1000; decide,?_⟩
 obtain ⟨H3,q3,s3,e3⟩:=newB (H:=H2) (p:=x) (.ins (C 0) dx (putF ("walls" : Str) (V.ref wl) []))
 dsimp only
 rw [q3]
 clear q3
 replace e3:H3 x=some (.ins (C 0) dx [("walls",.ref wl)]):=e3
 have hx2:=s2 _ _ hx
 have nlx:l≠x:=zq hl hx (by intro z; cases z)
 have hl3:=s3 _ _ nlx (s2 _ _ hl)
 refine ⟨_,rfl,l,xs,rfl,.inl (SqL.of hl3),?_⟩
 intro p4 n4
 obtain ⟨H4,q4,s4,e4⟩:=newO n4 (.lst xs)
 rw [q4]
 clear q4
 have px4:p4≠x:=Ne.symm (zO e3 n4)
 refine ⟨_,rfl,x,dx,_,rfl,s4 _ _ e3,by show (1:Nat) < 1000; decide,?_⟩
 obtain ⟨H5,q5,s5,e5⟩:=newB (H:=H4) (p:=x) (.ins (C 0) dx (putF ("goings" : Str) (V.ref p4) [("walls",.ref wl)]))
 dsimp only
 rw [q5]
 clear q5
 replace e5:H5 x=some (.ins (C 0) dx [("walls",.ref wl),("goings",.ref p4)]):=e5
 refine fun N hN=>?_
 refine ⟨_,rfl,x,dx,_,rfl,e5,by show (2:Nat) < 1000; decide,?_⟩
 obtain ⟨H6,q6,s6,e6⟩:=newB (H:=H5) (p:=x) (.ins (C 0) dx (putF ("now" : Str) (V.ref N) [("walls",.ref wl),("goings",.ref p4)]))
 dsimp only
 rw [q6]
 clear q6
 replace e6:H6 x=some (.ins (C 0) dx [("walls",.ref wl),("goings",.ref p4),("now",.ref N)]):=e6
 refine ⟨_,rfl,x,dx,_,rfl,e6,by show (3:Nat) < 1000; decide,?_⟩
 obtain ⟨H7,q7,s7,e7⟩:=newB (H:=H6) (p:=x) (.ins (C 0) dx (putF ("gone_through" : Str) (V.int 0) [("walls",.ref wl),("goings",.ref p4),("now",.ref N)]))
 dsimp only
 rw [q7]
 clear q7
 replace e7:H7 x=some (.ins (C 0) dx [("walls",.ref wl),("goings",.ref p4),("now",.ref N),("gone_through",.int 0)]):=e7
 intro p8 n8
 obtain ⟨H8,q8,s8,e8⟩:=newO n8 (.dT [])
 rw [q8]
 clear q8
 have px8:p8≠x:=Ne.symm (zO e7 n8)
 refine ⟨_,rfl,x,dx,_,rfl,s8 _ _ e7,by show (4:Nat) < 1000; decide,?_⟩
 obtain ⟨H9,q9,s9,e9⟩:=newB (H:=H8) (p:=x) (.ins (C 0) dx (putF ("joints" : Str) (V.ref p8) [("walls",.ref wl),("goings",.ref p4),("now",.ref N),("gone_through",.int 0)]))
 dsimp only
 rw [q9]
 clear q9
 replace e9:H9 x=some (.ins (C 0) dx [("walls",.ref wl),("goings",.ref p4),("now",.ref N),("gone_through",.int 0),("joints",.ref p8)]):=e9
 have b24:But x H2 H4:=s3.trans (But.of s4)
 have b47:But x H4 H7:=s5.trans (s6.trans s7)
 have b79:But x H7 H9:=(But.of s8).trans s9
 have b29:But x H2 H9:=b24.trans (b47.trans b79)
 have bs29:Buts [x] H2 H9:=Buts.one b29 (by simp)
 have nt2:NoT [x] H2:=NoT.ins hx2 NoT.nil
 obtain ⟨wkv,hwl⟩:∃ kv,H2 wl=some (.dT kv):=by
  obtain ⟨_,_,_,_,e,_⟩:=ws2
  exact ⟨_,e⟩
 have nwx:wl≠x:=zq hwl hx2 (by intro z; cases z)
 have hwl7:=(b24.trans b47) _ _ nwx hwl
 have nw8:wl≠p8:=zO hwl7 n8
 have hg7:=b47 _ _ px4 e4
 have n84:p4≠p8:=zO hg7 n8
 have hg9:=b79 _ _ px4 hg7
 have hj9:=s9 _ _ px8 e8
 have al9:=yF (zQ al s2) bs29 nt2
 have hl9:=b29 _ _ nlx (s2 _ _ hl)
 have nm9:NoM [("walls",.ref wl),("goings",.ref p4),("now",.ref N),("gone_through",.int 0),("joints",.ref p8)]:=⟨rfl,rfl,rfl,rfl,rfl,rfl,rfl,rfl,rfl,rfl,rfl,rfl,rfl,rfl,rfl,rfl,rfl⟩
 have pg9:PlG K H9 (C 0) x R gs dx [("walls",.ref wl),("goings",.ref p4),("now",.ref N),("gone_through",.int 0),("joints",.ref p8)] wl p4 xs:=⟨e9,rfl,rfl,ws2.buts bs29 nt2 (by simp [nwx]),hg9,al9,nm9⟩
 refine ⟨_,rfl,_,_,rfl,.inl ⟨_,SqL.of hl9,rfl⟩,xs.length,rfl,by omega,fun pa ys H10 s10 n10 e10 al10=>?_⟩
 rw [hz] at al10
 have hzp:=Al2.len al10
 have lps:=Zs l6
 have nd:=JY l6
 have pg10:=pg9.same s10
 have hj10:=s10 _ _ hj9
 have nt10:NoT [p8] H10:=NoT.dct hj10 NoT.nil
 have nxa:x≠pa:=zO e9 n10
 have n8a:p8≠pa:=zO hj9 n10
 refine ⟨pa,rfl,⟨_,SqL.of e10⟩,jW (K:=K) (a:=pa) (xs:=ys) (fun i σ' H'=>∃ (u3:Option V) (kv:List (List Key × V)),σ'=[some (.ref x),some (.ref r),some (.ref l),u3]/\But p8 H10 H'/\H' p8=some (.dT kv)/\kv.map (·.1)=((prsP gs.length).take i).map keyP/\Al2 (OptB K H') (kv.map (·.2)) (((prsP gs.length).take i).map (jntP R gs))) ⟨_,[],rfl,But.refl _,hj10,rfl,trivial⟩ (by rintro _ _ _ _ ⟨_,_,_,g5,_⟩; exact SqL.of (g5 _ _ (Ne.symm n8a) e10)) ?_ ?_⟩
 ·rintro i y σ' H11 hy ⟨u3,kv,rfl,b11,hj11,ks,js⟩
  have bs11:Buts [p8] H10 H11:=Buts.one b11 (by simp)
  have hi:i < ys.length:=(List.getElem?_eq_some_iff.mp hy).1
  obtain ⟨q,hq,c,rfl,hc⟩:=Al2.get (yk al10 bs11 nt10) hy
  have hin:InP gs.length q:=yK.mp (List.mem_of_getElem? hq)
  have pg11:PlG K H11 (C 0) x R gs dx [("walls",.ref wl),("goings",.ref p4),("now",.ref N),("gone_through",.int 0),("joints",.ref p8)] wl p4 xs:=pg10.buts bs11 nt10 (by simp [Ne.symm px8]) (by simp [nw8]) (by simp [n84])
  refine ⟨_,rfl,x,_,_,rfl,pg11.ob,pg11.nm.joint_of,_,rfl,x,c,R,gs,dx,_,wl,p4,xs,q,rfl,pg11,hc,hin,(cm.far q.1 q.2.1).mono (by omega),fun t et=>(cm.jnt et).mono (by omega),fun v12 H12 s12 o12=>?_⟩
  have hj12:=s12 _ _ hj11
  have lkv:kv.length<=200:=by
   have z:=congrArg List.length ks
   rw [List.length_map,List.length_map,List.length_take] at z
   omega
  refine ⟨_,rfl,x,_,_,_,rfl,s12 _ _ pg11.ob,rfl,_,rfl,p8,_,rfl,DPut.t (k:=keyP q) hj12 (s12 _ _ hc) (Nat.lt_of_le_of_lt lkv (by decide)),?_⟩
  obtain ⟨H13,q13,s13,e13⟩:=newB (H:=H12) (p:=p8) (.dT (putK kv (keyP q) v12))
  dsimp only
  rw [q13]
  clear q13
  rw [putK_snoc nd ks hq] at e13
  have nt12:NoT [p8] H12:=NoT.dct hj12 NoT.nil
  have bs13:Buts [p8] H12 H13:=Buts.one s13 (by simp)
  refine ⟨_,_,rfl,b11.trans ((But.of s12).trans s13),e13,?_,?_⟩
  ·rw [List.map_append,ks,zZ hq,List.map_append]
   rfl
  ·rw [List.map_append,zZ hq,List.map_append]
   exact Al2.snoc (yS (optb_same js s12) bs13 nt12) (o12.buts bs13 nt12)
 ·rintro σ' H11 ⟨u3,kv,rfl,b11,hj11,ks,js⟩
  rw [hzp,List.take_length] at ks js
  have bs11:Buts [p8] H10 H11:=Buts.one b11 (by simp)
  have pg11:PlG K H11 (C 0) x R gs dx [("walls",.ref wl),("goings",.ref p4),("now",.ref N),("gone_through",.int 0),("joints",.ref p8)] wl p4 xs:=pg10.buts bs11 nt10 (by simp [Ne.symm px8]) (by simp [nw8]) (by simp [n84])
  have pj11:PlJ K H11 R gs [("walls",.ref wl),("goings",.ref p4),("now",.ref N),("gone_through",.int 0),("joints",.ref p8)] p8 kv:=⟨rfl,.inl hj11,ks,js⟩
  refine ⟨_,rfl,x,_,_,rfl,pg11.ob,rfl,x,R,gs,dx,_,wl,p4,xs,p8,kv,N,0,rfl,pg11,pj11,hj11,nw8,rfl,z7 (hN _),zy.mono (by decide),by show (5:Nat) < 900; decide,l6,fun co5 du5 ds5 H12 s12 n12 e12 oc12 hd12 al12=>?_⟩
  replace e12:H12 x=some (.ins (C 0) dx (plF wl p4 N ((0:Nat):Int) p8 co5 du5)):=e12
  have bs12:Buts [x] H11 H12:=Buts.one s12 (by simp)
  have nt11:NoT [x] H11:=NoT.ins pg11.ob NoT.nil
  have hj12:=s12 _ _ px8 hj11
  have n4:=yz s2 (Zk s3 n4 px4)
  have n8:=yz s2 (Zk (b24.trans b47) n8 px8)
  refine k wl p4 p8 H12 (fun a o na ha=>?_) n4 n8 ⟨dx,N,co5,du5,xs,kv,ds5,⟨e12,rfl,rfl,pg11.ws.buts bs12 nt11 (by simp [nwx]),s12 _ _ px4 pg11.hg,yF pg11.al bs12 nt11,plF_nm⟩,⟨rfl,.inl hj12,ks,yS js bs12 nt11⟩,hj12,nw8,z7 (hN _),zy.mono (by decide),oc12,hd12,al12,fun z=>by rw [z,pg11.hg] at n12; cases n12⟩
  have na8:a≠p8:=fun z=>by rw [z,n8] at ha; cases ha
  exact s12 _ _ na (b11 _ _ na8 (s10 _ _ (b29 _ _ na (s2 _ _ ha))))
noncomputable def Y8 (K:PySem.W.Frag) (C:Addr):Sp:=fun vs H Q _=>∃ (p:Addr) (R:Rat × Rat) (gs:List Bq) (now:Rat) (n:Nat) (wl g j:Addr) (m:Nat),vs=[.ref p,.int (m:Int)]/\ZL K H C p R gs now n wl g j/\gs.length<=6/\n<=m/\∀ (v:V) (H1:Hp),Same H H1->((v=.non/\n < m/\(∃ t,comP R gs now=some t)/\crwP R gs now=false)∨∃ wd:String,v=.str wd/\RunP R gs now (m - n) wd [] gs now)->Q v H1
theorem sc_end_word:FnScope ["course","most"] ["course","most"] (zD (top 54)):=⟨rfl,rfl,rfl,by decide+kernel,rfl,by decide+kernel,by decide+kernel⟩
theorem ok_end_word (D:Df K mg "end_word" (top 54) ["course","most"]) (T:Tx K mg C) (F_Plane_is_crowded:FnM P w K mg base 7 (C 0) "is_crowded" ["self"] (Zi K (C 0))):Fn P w K mg base 8 "end_word" ["course","most"] (Y8 K (C 0)):=by
 refine D.ok0 sc_end_word (fun vs H Q E h=>?_) (fun f cdv A outer s H vs Q E hr h=>?_)
 ·obtain ⟨p,R,gs,now,n,wl,g,j,m,rfl,_⟩:=h
  rfl
 obtain ⟨p,R,gs,now,n,wl,g,j,m,rfl,cr,l6,nm,k⟩:=h
 refine ⟨_,(zE (ze (zR JR (zU T.cl_Plane T.n_Plane_coming (pv 0)) yx (zT _)) (zG (zL pe_str)) zS)
   (zE (ze (zR Zm (zU T.cl_Plane T.n_Plane_gone_through (pv 0)) (pv 1) (zT _)) (zG (zL pe_str)) zS)
   (zE (ze (zf (ZS T.cl_Plane F_Plane_is_crowded (by decide) hr zF (pv 0)) (fun _=>rfl)) (zG (zL pe_str)) zS)
   (zG (zL yx))))),?_⟩
 obtain ⟨dx,nw,co,du,xs,kvs,ds,pg,pj,hj,njw,gn,dn,oc,hd,al,ndg⟩:=id cr
 refine ⟨_,rfl,p,_,_,_,rfl,pg.ob,rfl,rfl,_,rfl,?_⟩
 refine zc (fun c=>?_) (fun c=>?_)
 ·exact k _ H (Same.refl _) (.inr ⟨"still",rfl,.still (oc.non.mp c)⟩)
 obtain ⟨t,pc,et,rfl,gt,dt⟩:∃ (t:Rat) (pc:Addr),comP R gs now=some t/\co=.ref pc/\FQ K H pc t/\FB 2000 t:=by
  rcases oc with ⟨_,e⟩|⟨t,pc,e,e',g',d'⟩
  ·exact absurd e c
  ·exact ⟨t,pc,e,e',g',d'⟩
 refine ⟨_,rfl,p,_,_,_,rfl,pg.ob,rfl,_,rfl,rfl,_,rfl,?_⟩
 refine jK (fun c1=>?_) (fun c1=>?_)
 ·have e:m - n=0:=by omega
  refine k _ H (Same.refl _) (.inr ⟨"more",rfl,?_⟩)
  rw [e]
  exact .more et
 obtain ⟨d,ed⟩:∃ d,m - n=d+1:=⟨m - n - 1,by omega⟩
 refine ⟨_,rfl,p,_,_,rfl,pg.ob,rfl,p,R,gs,dx,_,wl,g,xs,j,kvs,du,ds,dueP R gs now,now,t,pc,rfl,pg,pj,hj,njw,rfl,hd,al,due_few l6,l6,rfl,et,rfl,gt,dt,fun H1 s1=>⟨_,rfl,?_⟩⟩
 cases b:crwP R gs now with
 |true=>
  refine iteT ?_
  refine k _ H1 s1 (.inr ⟨"crowd",rfl,?_⟩)
  rw [ed]
  exact .crowd et b
 |false=>
  refine iteF ?_
  exact k _ H1 s1 (.inl ⟨rfl,by omega,⟨t,et⟩,b⟩)
noncomputable def ToldP (K:PySem.W.Frag) (H:Hp) (r:Addr) (wd:String) (ms:List (Rat × Pr)) (es:List Bq) (last:Rat):Prop:=∃ (rr rb rn:Addr) (zs ws:List V),SqT K H r [.str wd,.ref rr,.ref rb,.ref rn]/\H rr=some (.lst zs)/\Al2 (MtP K H) zs ms/\H rb=some (.lst ws)/\Al2 (BqH K 5990 H) ws (es.map (atB last))/\FQ K H rn last/\FB 2000 last
theorem plnat_but {K:PySem.W.Frag} {H H':Hp} {C p:Addr} {R:Rat × Rat} {gs:List Bq} {now:Rat} {n:Nat} {wl g j z:Addr} (h:ZL K H C p R gs now n wl g j) (s:But z H H') (nt:NoT [z] H) (f:∀ a,a=p∨a=wl∨a=g∨a=j→a≠z) (fd:∀ a xs,H a=some (.lst xs)→a=z→False∨True) (nd:∀ dx fs,H p=some (.ins C dx fs)→∀ du,fs.lookup ("due" : Str)=some (.ref du)→du≠z):ZL K H' C p R gs now n wl g j:=by
 obtain ⟨dx,nw,co,du,xs,kvs,ds,pg,pj,hj,njw,gn,dn,oc,hd,al,ndg⟩:=h
 have bs:Buts [z] H H':=Buts.one s (by simp)
 have dz:=nd _ _ pg.ob du rfl
 have hj':=s _ _ (f j (by simp)) hj
 exact ⟨dx,nw,co,du,xs,kvs,ds,pg.buts bs nt (by simp [f p]) (by simp [f wl]) (by simp [f g]),pj.buts bs nt (.inl hj'),hj',njw,bs.tup nt gn,dn,oc.buts bs nt,s _ _ dz hd,yk al bs nt,ndg⟩
noncomputable def YR (K:PySem.W.Frag) (C:Addr):Sp:=fun vs H Q _=>∃ (p:Addr) (R:Rat × Rat) (gs:List Bq) (wl g j:Addr) (m B:Nat),vs=[.ref p,.int (m:Int)]/\ZL K H C p R gs 0 0 wl g j/\gs.length<=6/\WtB gs/\CmP B R gs/\B+90 * m<=1900/\m<=40/\∀ (r:Addr) (wd:String) (ms:List (Rat × Pr)) (es:List Bq) (last:Rat) (H1:Hp),Buts [p,g,j] H H1->RunP R gs 0 m wd ms es last->ToldP K H1 r wd ms es last->Q (.ref r) H1
theorem jJ:FnScope ["course","most","run","word"] ["course","most"] (zD (top 55)):=⟨rfl,rfl,rfl,by decide+kernel,rfl,by decide+kernel,by decide+kernel⟩
theorem ok_run_along (D:Df K mg "run_along" (top 55) ["course","most"]) (T:Tx K mg C) (F_end_word:Fn P w K mg base 8 "end_word" ["course","most"] (Y8 K (C 0))) (F_Plane_meetings:FnM P w K mg base 1 (C 0) "meetings" ["self"] (YJ K (C 0))) (F_Plane_go_on:FnM P w K mg base 7 (C 0) "go_on" ["self"] (Jx K (C 0))) (F_Plane_bodies_at:FnM P w K mg base 5 (C 0) "bodies_at" ["self","moment"] (jo K (C 0))):Fn P w K mg base 9 "run_along" ["course","most"] (YR K (C 0)):=by
 refine D.ok0 jJ (fun vs H Q E h=>?_) (fun f cdv A outer s H vs Q E hr h=>?_)
 ·obtain ⟨p,R,gs,wl,g,j,m,B,rfl,_⟩:=h
  rfl
 obtain ⟨p,R,gs,wl,g,j,m,B,rfl,cr,l6,hw,cm,hB,m40,k⟩:=h
 refine ⟨_,(zE (zM (i:=2) jJ.nd rfl (Or.inl rfl) (yy zC))
   (zE (zM (i:=3) jJ.nd rfl (Or.inl rfl) (zI F_end_word (by decide) hr (by rfl) zF (zA (pv 0) (zA (pv 1) zC))))
   (zE (Z8 PassesOwn.never (zR JR (pv 3) yx (zT _)) (zE (y3 (pe_bm PySem.F.plainAttrs_list PySem.F.slot_list_extend PySem.F.type_list_extend mt_extend (pv 2) (zA (ZS T.cl_Plane F_Plane_meetings (by decide) hr zF (pv 0)) zC)))
   (zE (y3 (ZS T.cl_Plane F_Plane_go_on (by decide) hr zF (pv 0)))
   (zG (zM (i:=3) jJ.nd rfl (Or.inl rfl) (zI F_end_word (by decide) hr (by rfl) zF (zA (pv 0) (zA (pv 1) zC))))))))
   (zG (zL (zV (zA (pv 3) (zA (pv 2) (zA (yV T.cl_Plane F_Plane_bodies_at (by decide) hr zF (pv 0) (zA (zU T.cl_Plane T.n_Plane_now (pv 0)) zC)) (zA (zU T.cl_Plane T.n_Plane_now (pv 0)) zC)))))))))),?_⟩
 refine ⟨by show 0<=sizeLine; decide,?_⟩
 intro p2 n2
 obtain ⟨H2,q2,s2,e2⟩:=newO n2 (.lst [])
 rw [q2]
 clear q2
 have cr2:=cr.same s2
 have apart:∀ a,a=p∨a=wl∨a=g∨a=j->a≠p2:=fun a ha=>by
  obtain ⟨dx,nw,co,du,xs,kvs,ds,pg,pj,hj,_⟩:=id cr
  obtain ⟨_,_,_,_,hwl,_⟩:=pg.ws
  rcases ha with rfl|rfl|rfl|rfl
  ·exact zO pg.ob n2
  ·exact zO hwl n2
  ·exact zO pg.hg n2
  ·exact zO hj n2
 have apd:∀ dx fs,H2 p=some (.ins (C 0) dx fs)→∀ du,fs.lookup ("due" : Str)=some (.ref du)→du≠p2:=fun dx' fs' hp' du' hdu'=>by
  obtain ⟨dx,nw,co,du,xs,kvs,ds,pg,pj,hj,njw,gn,dn,oc,hd,_⟩:=id cr
  rw [s2 _ _ pg.ob] at hp'
  cases hp'
  cases (show some (V.ref du)=some (.ref du') from hdu')
  exact zO hd n2
 refine ⟨_,rfl,_,rfl,p,R,gs,0,0,wl,g,j,m,rfl,cr2,l6,Nat.zero_le _,fun w3 H3 s3 alt3=>?_⟩
 refine ⟨fun d σ' H'=>∃ (w4:V) (gk:List Bq) (now:Rat) (n:Nat) (zs:List V) (ms:List (Rat × Pr)),σ'=[some (.ref p),some (.int (m:Int)),some (.ref p2),some w4]∧d=m - n∧n≤m∧Buts [p,g,j,p2] H2 H'∧ZL K H' (C 0) p R gk now n wl g j∧gk.length=gs.length∧WtB gk∧CmP (B+90 * n) R gk∧(∀ dx fs,H' p=some (.ins (C 0) dx fs)→∀ du,fs.lookup ("due" : Str)=some (.ref du)→du≠p2)∧H' p2=some (.lst zs)∧Al2 (MtP K H') zs ms∧ms.length≤6 * n∧(∀ wd ms' es last,RunP R gk now (m - n) wd ms' es last→RunP R gs 0 m wd (ms++ms') es last)∧((w4=.non∧n < m∧(∃ t,comP R gk now=some t)∧crwP R gk now=false)∨∃ wd:String,w4=.str wd∧RunP R gk now (m - n) wd [] gk now),⟨_,w3,gs,0,0,[],[],rfl,rfl,Nat.zero_le _,Buts.of s3,cr2.same s3,rfl,hw,cm,?_,s3 _ _ e2,trivial,Nat.zero_le _,fun _ _ _ _ r=>r,alt3⟩,?_⟩
 ·intro dx' fs' hp' du' hdu'
  obtain ⟨dx,nw,co,du,xs,kvs,ds,pg,_⟩:=id cr2
  have z:=s3 _ _ pg.ob
  rw [hp'] at z
  cases z
  exact apd _ _ pg.ob du' hdu'
 rintro d σ' H4 ⟨w4,gk,now,n,zs,ms,rfl,rfl,nm,s4,cr4,ln,hw4,cm4,du4,e4,az,lm,go,alt⟩
 obtain ⟨dx,nw,co,du,xs,kvs,ds,pg,pj,hj,njw,gn,dn,oc,hd,al,ndg⟩:=id cr4
 refine ⟨_,rfl,rfl,_,rfl,?_⟩
 rcases alt with ⟨rfl,nlt,⟨t,et⟩,ncr⟩|⟨wd,rfl,rq⟩
 ·refine zc (fun _=>?_) (fun c=>absurd rfl c)
  refine ⟨_,fun _ _ n=>n,?_⟩
  obtain ⟨pc,rfl,gt,dt⟩:∃ (pc:Addr),co=.ref pc/\FQ K H4 pc t/\FB 2000 t:=by
   rcases oc with ⟨e,_⟩|⟨t',pc,e,e',g',d'⟩
   ·rw [et] at e
    cases e
   ·rw [et] at e
    cases e
    exact ⟨pc,e',g',d'⟩
  have six:(dueP R gk now).length<=6:=due_six (by omega) (by
   have z:=ncr
   unfold crwP at z
   exact (Bool.or_eq_false_iff.mp z).1)
  refine ⟨_,rfl,.inl ⟨rfl,_,SqL.of e4⟩,_,rfl,p,_,_,rfl,pg.ob,rfl,p,dx,_,du,ds,dueP R gk now,t,pc,rfl,pg.ob,rfl,hd,al,due_few (by omega),fun q hq=>(jj q hq).1,rfl,gt,dt,fun r5 zs5 H5 s5 n5 e5 al5=>?_⟩
  have em:(dueP R gk now).map (fun q=>(t,q))=mtsP R gk now:=by
   unfold mtsP
   rw [et]
   rfl
  rw [em] at al5
  have lm5:(mtsP R gk now).length<=6:=by rw [<- em,List.length_map]; exact six
  have lz:=Al2.len az
  have lz5:=Al2.len al5
  refine ⟨p2,r5,zs,zs5,rfl,rfl,s5 _ _ e4,e5,Nat.le_trans (show zs.length+zs5.length<=6 * 41+6 by omega) (by decide),?_⟩
  obtain ⟨H6,q6,s6,e6⟩:=newB (H:=H5) (p:=p2) (.lst (zs++zs5))
  dsimp only
  rw [q6]
  clear q6
  have hp5:=s5 _ _ e4
  have bs6:Buts [p2] H5 H6:=Buts.one s6 (List.mem_singleton.mpr rfl)
  have nt5:NoT [p2] H5:=NoT.lst hp5 NoT.nil
  have dup:du≠p2:=du4 _ _ pg.ob du rfl
  have cr6:ZL K H6 (C 0) p R gk now n wl g j:=plnat_but (cr4.same s5) s6 nt5 apart (fun _ _ _ _=>.inr trivial) (fun dx' fs' hp' du' hdu'=>by
   rw [s5 _ _ pg.ob] at hp'
   cases hp'
   cases (show some (V.ref du)=some (.ref du') from hdu')
   exact dup)
  obtain ⟨dx6,nw6,co6,du6,xs6,kvs6,ds6,pg6,pj6,hj6,_⟩:=id cr6
  refine ⟨_,rfl,p,_,_,rfl,pg6.ob,rfl,p,R,gk,now,n,wl,g,j,t,B+90 * n,rfl,cr6,by omega,hw4,et,cm4,by omega,fun H7 s7 cr7 nd7=>?_⟩
  have nt6:NoT [p,g,j] H6:=NoT.ins pg6.ob (NoT.lst pg6.hg (NoT.dct hj6 NoT.nil))
  have e7:=s7 _ _ (by simp [Ne.symm (apart p (by simp)),Ne.symm (apart g (by simp)),Ne.symm (apart j (by simp))]) e6
  have az7:Al2 (MtP K H7) (zs++zs5) (ms++mtsP R gk now):=mtp_buts (mtp_buts (al_app (ya az s5) al5) bs6 nt5) s7 nt6
  have on_ln:(onP R gk now).length=gk.length:=Zq _ _
  obtain ⟨cm7,hw7⟩:=YA (dueP R gk now) cm4 hw4 (fun q hq=>jj q hq)
  refine ⟨_,rfl,_,rfl,p,R,onP R gk now,t,n+1,wl,g,j,m,rfl,cr7,by omega,by omega,fun w8 H8 s8 alt8=>?_⟩
  refine ⟨m - (n+1),by omega,w8,onP R gk now,t,n+1,zs++zs5,ms++mtsP R gk now,rfl,rfl,by omega,?_,cr7.same s8,by omega,hw7,cm7.mono (by omega),?_,s8 _ _ e7,ya az7 s8,by rw [List.length_append]; omega,fun wd ms' es last r=>?_,alt8⟩
  ·exact s4.trans ((Buts.of s5).trans ((Buts.one s6 (by simp)).trans ((s7.mono (by simp)).trans (Buts.of s8))))
  ·intro dx' fs' hp' du' hdu' z
   obtain ⟨dx7,nw7,co7,du7,xs7,kvs7,ds7,pg7,pj7,hj7,njw7,gn7,dn7,oc7,hd7,al7,ndg7⟩:=id cr7
   have y:=s8 _ _ pg7.ob
   rw [hp'] at y
   cases y
   cases (show some (V.ref du7)=some (.ref du') from hdu')
   rcases nd7 _ _ pg7.ob _ rfl p2 _ e6 with y|y
   ·exact y z
   ·exact apart p2 (by rcases y with y|y|y<;>simp [y]) rfl
  ·have z:RunP R gk now (m - (n+1)+1) wd (mtsP R gk now++ms') es last:=.step et ncr r
   rw [show m - (n+1)+1=m - n by omega] at z
   have z2:=go wd _ es last z
   rw [<- List.append_assoc] at z2
   exact z2
 ·refine zc (fun c=>nomatch c) (fun _=>?_)
  refine ⟨_,rfl,_,rfl,_,rfl,p,_,_,rfl,pg.ob,rfl,_,rfl,p,_,_,_,rfl,pg.ob,rfl,p,nw,dx,g,_,xs,gk,now,rfl,pg.ob,rfl,pg.hg,pg.al,by omega,gn,dn,fun r5 zs5 H5 s5 n5 e5 al5=>?_⟩
  refine ⟨_,rfl,p,_,_,_,rfl,s5 _ _ pg.ob,rfl,by show 4<=sizeLine; decide,?_⟩
  intro p6 n6
  obtain ⟨H6,q6,s6,e6⟩:=newO n6 (.tup [.str wd,.ref p2,.ref r5,.ref nw])
  rw [q6]
  clear q6
  have s46:=s5.trans s6
  have fin:=go wd [] gk now rq
  rw [List.append_nil] at fin
  refine k p6 wd ms gk now H6 ?_ fin ⟨p2,r5,nw,zs,zs5,SqT.of e6,s46 _ _ e4,ya az s46,s6 _ _ e5,zQ al5 s6,Kw.Same.tup s46 gn,dn⟩
  intro a o na ho
  have a2:a≠p2:=zO ho n2
  refine s46 a o (s4 a o ?_ (s2 a o ho))
  simp only [List.mem_cons,List.not_mem_nil,or_false,not_or] at na ⊢
  exact ⟨na.1,na.2.1,na.2.2,a2⟩
noncomputable def jT (K:PySem.W.Frag):Sp:=fun vs H Q _=>∃ (p:Addr) (q:Rat),vs=[.ref p]/\FQ K H p q/\FB 4000 q/\Q (.bl true) H
theorem jS:FnScope ["thing","top","bottom"] ["thing"] (zD (top 12)):=⟨rfl,rfl,rfl,by decide+kernel,rfl,by decide+kernel,by decide+kernel⟩
theorem ok_is_fraction (D:Df K mg "is_fraction" (top 12) ["thing"]) (T:Tx K mg C) (F_is_whole:Fn P w K mg base 1 "is_whole" ["thing"] (Yf K)) (F_common_divisor:Fn P w K mg base 1 "common_divisor" ["one","other"] JT):Fn P w K mg base 2 "is_fraction" ["thing"] (jT K):=by
 refine D.ok0 jS (fun vs H Q E h=>?_) (fun f cdv A outer s H vs Q E hr h=>?_)
 ·obtain ⟨p,q,rfl,_⟩:=h
  rfl
 obtain ⟨p,q,rfl,hp,dq,k⟩:=h
 refine ⟨_,(zE (ze (y9 (z9 (zf (zW (Zl (K:=K) rfl) (by rfl) T.b_isinstance PyProof.Rows.Boot.«isinstance» (zA (pv 0) (zA (Yx (by rfl) T.b_tuple PyProof.Rows.Boot.«tuple») zC))) (fun _=>rfl))) (yY (zR op_ne (zW yD (by rfl) T.b_len PyProof.Rows.Boot.«len» (zA (pv 0) zC)) zB (zT _)))).pt (zG (zL yM)) zS)
   (zE (zM (i:=1) jS.nd rfl (Or.inl rfl) (zH ix_tup (pv 0) zB (fun _ _=>rfl)))
   (zE (zM (i:=2) jS.nd rfl (Or.inl rfl) (zH ix_tup (pv 0) zB (fun _ _=>rfl)))
   (zE (ze (y9 (z9 (zf (zI F_is_whole (by decide) hr (by rfl) zF (zA (pv 1) zC)) (fun _=>rfl))) (yY (z9 (zf (zI F_is_whole (by decide) hr (by rfl) zF (zA (pv 2) zC)) (fun _=>rfl))))).pt (zG (zL yM)) zS)
   (zG (zL (yZ (yv Z9 (pv 2) zB (zT _)) (yP (yv Zm (zI F_common_divisor (by decide) hr (by rfl) zF (zA (pv 1) (zA (pv 2) zC))) zB (zT _)))))))))),?_⟩
 have hp':SqT K H p [.int q.num,.int ((q.den:Nat):Int)]:=hp
 refine ⟨_,rfl,_,_,true,rfl,.inl ⟨_,rfl⟩,.inr ⟨_,_,rfl,hp',Zh⟩,_,rfl,iteF ?_⟩
 refine ⟨_,rfl,_,_,rfl,.inr ⟨_,hp',rfl⟩,rfl,_,rfl,iteF ?_⟩
 refine ⟨_,rfl,p,_,_,_,rfl,rfl,hp',rfl,_,rfl,p,_,_,_,rfl,rfl,hp',rfl,?_⟩
 refine ⟨_,rfl,_,_,true,false,rfl,.int _,yf,yR,_,rfl,iteF ?_⟩
 refine ⟨_,rfl,_,_,true,false,rfl,.int _,yf,yR,_,rfl,iteF ?_⟩
 refine ⟨_,rfl,_,_,rfl,rfl,_,rfl,?_⟩
 have d1:(1:Int)<=((q.den:Nat):Int):=by have:=q.den_pos; omega
 refine zc (fun _=>?_) (fun c=>absurd d1 c)
 refine ⟨_,rfl,_,rfl,q.num,((q.den:Nat):Int),rfl,dq.2,rfl,?_⟩
 have g1:Int.gcd q.num ((q.den:Nat):Int)=1:=q.reduced
 rw [g1]
 exact k
noncomputable def jm (K:PySem.W.Frag):Sp:=fun vs H Q _=>∃ (p:Addr) (q:Rat),vs=[.ref p]/\FQ K H p q/\FB 1990 q/\0 < q/\∀ (H1:Hp),Same H H1->Q (.bl true) H1
theorem sc_is_breadth:FnScope ["thing"] ["thing"] (zD (top 36)):=⟨rfl,rfl,rfl,by decide+kernel,rfl,by decide+kernel,by decide+kernel⟩
theorem ok_is_breadth (D:Df K mg "is_breadth" (top 36) ["thing"]) (T:Tx K mg C) (F_is_fraction:Fn P w K mg base 2 "is_fraction" ["thing"] (jT K)) (F_under:Fn P w K mg base 1 "under" ["one","other"] (Zd K)):Fn P w K mg base 3 "is_breadth" ["thing"] (jm K):=by
 refine D.ok0 sc_is_breadth (fun vs H Q E h=>?_) (fun f cdv A outer s H vs Q E hr h=>?_)
 ·obtain ⟨p,q,rfl,_⟩:=h
  rfl
 obtain ⟨p,q,rfl,hp,dq,q0,k⟩:=h
 refine ⟨_,(zG (zL (yZ (zI F_is_fraction (by decide) hr (by rfl) zF (zA (pv 0) zC)) (yP (zI F_under (by decide) hr (by rfl) zF (zA (zm (K:=K) rfl (by rfl) T.k_NOUGHT) (zA (pv 0) zC))))))),?_⟩
 refine ⟨_,rfl,p,q,rfl,hp,dq.mono (by decide),_,rfl,iteT fun N hN=>?_⟩
 refine ⟨_,rfl,N,0,p,q,rfl,z7 (hN _),zy.mono (by decide),hp,dq.mono (by decide),fun H1 s1=>?_⟩
 have z:=k H1 s1
 rw [<- decide_eq_true q0] at z
 exact z
noncomputable def Yg (K:PySem.W.Frag):Sp:=fun vs H Q _=>∃ (m:Int),vs=[.int m]/\1<=m/\m<=1000/\Q (.bl true) H
theorem sc_is_weight:FnScope ["thing"] ["thing"] (zD (top 30)):=⟨rfl,rfl,rfl,by decide+kernel,rfl,by decide+kernel,by decide+kernel⟩
theorem ok_is_weight (D:Df K mg "is_weight" (top 30) ["thing"]) (T:Tx K mg C) (F_is_whole:Fn P w K mg base 1 "is_whole" ["thing"] (Yf K)):Fn P w K mg base 2 "is_weight" ["thing"] (Yg K):=by
 refine D.ok0 sc_is_weight (fun vs H Q E h=>?_) (fun f cdv A outer s H vs Q E hr h=>?_)
 ·obtain ⟨m,rfl,_⟩:=h
  rfl
 obtain ⟨m,rfl,m1,m2,k⟩:=h
 refine ⟨_,(zG (zL (yZ (zI F_is_whole (by decide) hr (by rfl) zF (zA (pv 0) zC)) (yP (pe_chain JS JS zB (pv 0) (zX (by rfl) T.k_MOST_WEIGHT)))))),?_⟩
 refine ⟨_,rfl,_,_,true,false,rfl,.int m,yf,yR,_,rfl,iteT ?_⟩
 refine ⟨_,rfl,_,_,rfl,rfl,_,rfl,?_⟩
 refine zc (fun _=>?_) (fun c=>absurd m1 c)
 have z:=k
 rw [<- decide_eq_true m2] at z
 exact ⟨_,_,rfl,rfl,z⟩
noncomputable def J3 (K:PySem.W.Frag):Sp:=fun vs H Q _=>∃ (z:V) (b:Bq),vs=[z]/\BqH K 1990 H z b/\0 < b.w/\0 < b.h/\(∃ m,b.m=some m)/\∀ (H1:Hp),Same H H1->Q (.bl true) H1
theorem sc_is_box:FnScope ["thing"] ["thing"] (zD (top 37)):=⟨rfl,rfl,rfl,by decide+kernel,rfl,by decide+kernel,by decide+kernel⟩
theorem ok_is_box (D:Df K mg "is_box" (top 37) ["thing"]) (T:Tx K mg C) (F_is_fraction:Fn P w K mg base 2 "is_fraction" ["thing"] (jT K)) (F_is_breadth:Fn P w K mg base 3 "is_breadth" ["thing"] (jm K)) (F_is_weight:Fn P w K mg base 2 "is_weight" ["thing"] (Yg K)):Fn P w K mg base 4 "is_box" ["thing"] (J3 K):=by
 refine D.ok0 sc_is_box (fun vs H Q E h=>?_) (fun f cdv A outer s H vs Q E hr h=>?_)
 ·obtain ⟨z,b,rfl,_⟩:=h
  rfl
 obtain ⟨z,b,rfl,⟨p,a0,a1,a2,a3,a4,a5,rfl,hp,⟨g0,g1,g2,g3,g4,g5⟩,⟨d0,d1,d2,d3,d4,d5⟩,wt⟩,w0,h0,⟨m,em⟩,k⟩:=h
 refine ⟨_,(zE (ze (y9 (z9 (zf (zW (Zl (K:=K) rfl) (by rfl) T.b_isinstance PyProof.Rows.Boot.«isinstance» (zA (pv 0) (zA (Yx (by rfl) T.b_tuple PyProof.Rows.Boot.«tuple») zC))) (fun _=>rfl))) (yY (zR op_ne (zW yD (by rfl) T.b_len PyProof.Rows.Boot.«len» (zA (pv 0) zC)) zB (zT _)))).pt (zG (zL yM)) zS)
   (zE (ze (z9 (zf (zW (YC (K:=K) rfl rfl) (by rfl) T.b_all PyProof.Rows.Boot.«all» (zA (@Zg _ _ _ _ _ _ _ _ _ _ ["thing"] [0] rfl (pi_tup (zV (zA zB (zA zB (zA zB (zA zB zC)))))) rfl (by decide) rfl (by decide) rfl (by decide) (je (j:=0) rfl rfl rfl rfl (.inl rfl)) (fun y c h=>h) (ZR rfl) (fun C z Hc fp=>(zI F_is_fraction (by decide) hr (by rfl) zF (zA (zH (ixT (K:=K) rfl) (pv 1) (pv 0) (fun _ _=>rfl)) zC))) (fun _=>rfl)) zC)) (fun _=>rfl))) (zG (zL yM)) zS)
   (zG (zL (yZ (zI F_is_breadth (by decide) hr (by rfl) zF (zA (zH ix_tup (pv 0) zB (fun _ _=>rfl)) zC)) (yZ (zI F_is_breadth (by decide) hr (by rfl) zF (zA (zH ix_tup (pv 0) zB (fun _ _=>rfl)) zC)) (yP (zI F_is_weight (by decide) hr (by rfl) zF (zA (zH ix_tup (pv 0) zB (fun _ _=>rfl)) zC))))))))),?_⟩
 obtain ⟨m1,m2⟩:=wt m em
 rw [em] at hp
 refine ⟨_,rfl,_,_,true,rfl,.inl ⟨_,rfl⟩,.inr ⟨_,_,rfl,hp,Zh⟩,_,rfl,iteF ?_⟩
 refine ⟨_,rfl,_,_,rfl,.inr ⟨_,hp,rfl⟩,rfl,_,rfl,iteF ?_⟩
 refine ⟨by show 4<=sizeLine; decide,?_⟩
 intro p1 n1
 obtain ⟨H1,q1,s1,e1⟩:=newO n1 (.tup [.int 0,.int 1,.int 4,.int 5])
 rw [q1]
 clear q1
 have hp1:=Kw.Same.tup s1 hp
 refine ⟨p1,rfl,⟨_,SqT.of e1⟩,lc_tup (K:=K) (xs:=[.int 0,.int 1,.int 4,.int 5]) (fun i ys H'=>H1=H'/\ys=([true,true,true,true].take i).map V.bl/\i<=4) ⟨rfl,rfl,by omega⟩ (by rw [sizeLine_eq]; simp) (fun i ys H' ⟨_,e,l⟩=>by rw [e]; simp; omega) (fun i ys H' ⟨e,_⟩=>by rw [<- e]; exact SqT.of e1) ?_ ?_⟩
 ·rintro i y ys H' Q' hy ⟨rfl,rfl,li⟩ k
  match i,hy with
  |0,hy=>cases hy; exact ⟨_,rfl,_,rfl,p,_,_,_,rfl,rfl,hp1,rfl,_,_,rfl,Kw.Same.tup s1 g0,d0.mono (by decide),k _ _ ⟨rfl,rfl,by omega⟩⟩
  |1,hy=>cases hy; exact ⟨_,rfl,_,rfl,p,_,_,_,rfl,rfl,hp1,rfl,_,_,rfl,Kw.Same.tup s1 g1,d1.mono (by decide),k _ _ ⟨rfl,rfl,by omega⟩⟩
  |2,hy=>cases hy; exact ⟨_,rfl,_,rfl,p,_,_,_,rfl,rfl,hp1,rfl,_,_,rfl,Kw.Same.tup s1 g4,d4.mono (by decide),k _ _ ⟨rfl,rfl,by omega⟩⟩
  |3,hy=>cases hy; exact ⟨_,rfl,_,rfl,p,_,_,_,rfl,rfl,hp1,rfl,_,_,rfl,Kw.Same.tup s1 g5,d5.mono (by decide),k _ _ ⟨rfl,rfl,by omega⟩⟩
 ·rintro ys H' ⟨rfl,ey,_⟩
  replace ey:ys=[true,true,true,true].map V.bl:=ey
  subst ey
  intro p5 n5
  obtain ⟨H5,q5,s5,e5⟩:=newO n5 (.lst ([true,true,true,true].map V.bl))
  rw [q5]
  clear q5
  have s15:=s1.trans s5
  refine ⟨p5,[true,true,true,true],rfl,SqL.of e5,_,rfl,iteF ?_⟩
  have hp5:=Kw.Same.tup s15 hp
  refine ⟨_,rfl,p,_,_,_,rfl,rfl,hp5,rfl,_,_,rfl,Kw.Same.tup s15 g2,d2,w0,fun H6 s6=>⟨_,rfl,iteT ?_⟩⟩
  have s16:=s15.trans s6
  have hp6:=Kw.Same.tup s16 hp
  refine ⟨_,rfl,p,_,_,_,rfl,rfl,hp6,rfl,_,_,rfl,Kw.Same.tup s16 g3,d3,h0,fun H7 s7=>⟨_,rfl,iteT ?_⟩⟩
  have s17:=s16.trans s7
  have hp7:=Kw.Same.tup s17 hp
  exact ⟨_,rfl,p,_,_,_,rfl,rfl,hp7,rfl,m,rfl,m1,m2,k _ s17⟩
noncomputable def Ji (K:PySem.W.Frag):Sp:=fun vs H Q _=>∃ (r x y:Addr) (R:Rat × Rat),vs=[.ref r]/\SqT K H r [.ref x,.ref y]/\FQ K H x R.1/\FQ K H y R.2/\FB 1990 R.1/\FB 1990 R.2/\0 < R.1/\0 < R.2/\∀ (H1:Hp),Same H H1->Q (.bl true) H1
theorem sc_is_room:FnScope ["thing"] ["thing"] (zD (top 38)):=⟨rfl,rfl,rfl,by decide+kernel,rfl,by decide+kernel,by decide+kernel⟩
theorem ok_is_room (D:Df K mg "is_room" (top 38) ["thing"]) (T:Tx K mg C) (F_is_breadth:Fn P w K mg base 3 "is_breadth" ["thing"] (jm K)):Fn P w K mg base 4 "is_room" ["thing"] (Ji K):=by
 refine D.ok0 sc_is_room (fun vs H Q E h=>?_) (fun f cdv A outer s H vs Q E hr h=>?_)
 ·obtain ⟨r,x,y,R,rfl,_⟩:=h
  rfl
 obtain ⟨r,x,y,R,rfl,hr0,gx,gy,fx,fy,x0,y0,k⟩:=h
 refine ⟨_,(zG (zL (yZ (zW (Zl (K:=K) rfl) (by rfl) T.b_isinstance PyProof.Rows.Boot.«isinstance» (zA (pv 0) (zA (Yx (by rfl) T.b_tuple PyProof.Rows.Boot.«tuple») zC))) (yZ (yv Zm (zW yD (by rfl) T.b_len PyProof.Rows.Boot.«len» (zA (pv 0) zC)) zB (zT _)) (yZ (zI F_is_breadth (by decide) hr (by rfl) zF (zA (zH ix_tup (pv 0) zB (fun _ _=>rfl)) zC)) (yP (zI F_is_breadth (by decide) hr (by rfl) zF (zA (zH ix_tup (pv 0) zB (fun _ _=>rfl)) zC)))))))),?_⟩
 refine ⟨_,rfl,_,_,true,rfl,.inl ⟨_,rfl⟩,.inr ⟨_,_,rfl,hr0,Zh⟩,_,rfl,iteT ?_⟩
 refine ⟨_,rfl,_,_,rfl,.inr ⟨_,hr0,rfl⟩,rfl,_,rfl,iteT ?_⟩
 refine ⟨_,rfl,r,_,_,_,rfl,rfl,hr0,rfl,x,R.1,rfl,gx,fx,x0,fun H1 s1=>⟨_,rfl,iteT ?_⟩⟩
 have hr1:=Kw.Same.tup s1 hr0
 exact ⟨_,rfl,r,_,_,_,rfl,rfl,hr1,rfl,y,R.2,rfl,Kw.Same.tup s1 gy,fy,y0,fun H2 s2=>k H2 (s1.trans s2)⟩
noncomputable def Ya (K:PySem.W.Frag):Sp:=fun vs H Q _=>∃ (z:V) (b:Bq) (r x y:Addr) (R:Rat × Rat),vs=[z,.ref r]/\BqH K 1990 H z b/\SqT K H r [.ref x,.ref y]/\FQ K H x R.1/\FQ K H y R.2/\FB 1990 R.1/\FB 1990 R.2/\InR R b/\∀ (H1:Hp),Same H H1->Q (.bl true) H1
theorem YI:FnScope ["box","room","way"] ["box","room"] (zD (top 40)):=⟨rfl,rfl,rfl,by decide+kernel,rfl,by decide+kernel,by decide+kernel⟩
theorem ok_is_within (D:Df K mg "is_within" (top 40) ["box","room"]) (T:Tx K mg C) (F_under:Fn P w K mg base 1 "under" ["one","other"] (Zd K)) (F_far_side:Fn P w K mg base 3 "far_side" ["box","way"] (jA K)):Fn P w K mg base 4 "is_within" ["box","room"] (Ya K):=by
 refine D.ok0 YI (fun vs H Q E h=>?_) (fun f cdv A outer s H vs Q E hr h=>?_)
 ·obtain ⟨z,b,r,x,y,R,rfl,_⟩:=h
  rfl
 obtain ⟨z,b,r,x,y,R,rfl,hz,hr0,gx,gy,fx,fy,ir,k⟩:=h
 refine ⟨_,(zE (zr PassesOwn.never rfl (pi_tup (zV (zA (zX (by rfl) T.k_ACROSS) (zA (zX (by rfl) T.k_ALONG) zC)))) (zd (i:=2) YI.nd rfl (Or.inl rfl)) (zG (ze (y9 (zf (zI F_under (by decide) hr (by rfl) zF (zA (zH ix_tup (pv 0) (pv 2) (fun _ _=>rfl)) (zA (zm (K:=K) rfl (by rfl) T.k_NOUGHT) zC))) (fun _=>rfl)) (yY (zf (zI F_under (by decide) hr (by rfl) zF (zA (zH ix_tup (pv 1) (pv 2) (fun _ _=>rfl)) (zA (zI F_far_side (by decide) hr (by rfl) zF (zA (pv 0) (zA (pv 2) zC))) zC))) (fun _=>rfl)))).pt (zG (zL yM)) zS)))
   (zG (zL yM))),?_⟩
 obtain ⟨p,a0,a1,a2,a3,a4,a5,rfl,hp,⟨g0,g1,g2,g3,g4,g5⟩,⟨d0,d1,d2,d3,d4,d5⟩,wt⟩:=id hz
 refine ⟨by show 2<=sizeLine; decide,?_⟩
 intro p1 n1
 obtain ⟨H1,q1,s1,e1⟩:=newO n1 (.tup [.int 0,.int 1])
 rw [q1]
 clear q1
 refine ⟨p1,rfl,⟨_,SqT.of e1⟩,for_tup (K:=K) (xs:=[.int 0,.int 1]) (fun d σ' H'=>∃ (u2:Option V),σ'=[some (.ref p),some (.ref r),u2]/\Same H1 H') ⟨_,rfl,Same.refl _⟩ ?_ ?_ ?_⟩
 ·rintro d σ' H2 _ ⟨u2,rfl,s2⟩
  exact Kw.Same.tup s2 (SqT.of e1)
 ·rintro d y0 σ' H2 hx ⟨u2,rfl,s2⟩
  have s02:=s1.trans s2
  have hp2:=Kw.Same.tup s02 hp
  have hr2:=Kw.Same.tup s02 hr0
  match d,hx with
  |0,hx=>
   cases hx
   refine ⟨_,rfl,_,rfl,p,_,_,_,rfl,rfl,hp2,rfl,fun N hN=>?_⟩
   refine ⟨_,b.x,N,0,rfl,Kw.Same.tup s02 g0,d0.mono (by decide),z7 (hN _),zy.mono (by decide),fun H3 s3=>⟨_,rfl,?_⟩⟩
   refine zc (fun c=>absurd c (YQ ir.2.2.1)) (fun _=>?_)
   have s03:=s02.trans s3
   have hr3:=Kw.Same.tup s03 hr0
   refine ⟨_,rfl,_,rfl,r,_,_,_,rfl,rfl,hr3,rfl,_,rfl,_,rfl,_,b,0,rfl,(hz.same s03).mono (by decide),by decide,fun r4 H4 s4 g4' f4=>?_⟩
   refine ⟨_,R.1,r4,_,rfl,Kw.Same.tup (s03.trans s4) gx,fx.mono (by decide),g4',f4.mono (by decide),fun H5 s5=>⟨_,rfl,?_⟩⟩
   refine zc (fun c=>absurd c (YQ ir.2.2.2.2.1)) (fun _=>?_)
   exact ⟨_,rfl,s2.trans (s3.trans (s4.trans s5))⟩
  |1,hx=>
   cases hx
   refine ⟨_,rfl,_,rfl,p,_,_,_,rfl,rfl,hp2,rfl,fun N hN=>?_⟩
   refine ⟨_,b.y,N,0,rfl,Kw.Same.tup s02 g1,d1.mono (by decide),z7 (hN _),zy.mono (by decide),fun H3 s3=>⟨_,rfl,?_⟩⟩
   refine zc (fun c=>absurd c (YQ ir.2.2.2.1)) (fun _=>?_)
   have s03:=s02.trans s3
   have hr3:=Kw.Same.tup s03 hr0
   refine ⟨_,rfl,_,rfl,r,_,_,_,rfl,rfl,hr3,rfl,_,rfl,_,rfl,_,b,1,rfl,(hz.same s03).mono (by decide),by decide,fun r4 H4 s4 g4' f4=>?_⟩
   refine ⟨_,R.2,r4,_,rfl,Kw.Same.tup (s03.trans s4) gy,fy.mono (by decide),g4',f4.mono (by decide),fun H5 s5=>⟨_,rfl,?_⟩⟩
   refine zc (fun c=>absurd c (YQ ir.2.2.2.2.2)) (fun _=>?_)
   exact ⟨_,rfl,s2.trans (s3.trans (s4.trans s5))⟩
 ·rintro σ' H2 ⟨u2,rfl,s2⟩
  exact k H2 (s1.trans s2)
noncomputable def JU (K:PySem.W.Frag):Sp:=fun vs H Q _=>∃ (z y:V) (a b:Bq),vs=[z,y]/\BqH K 5990 H z a/\BqH K 5990 H y b/\∀ (H1:Hp),Same H H1->Q (.bl (hicB a b 0 && hicB a b 1)) H1
theorem sc_overlap:FnScope ["one","other"] ["one","other"] (zD (top 42)):=⟨rfl,rfl,rfl,by decide+kernel,rfl,by decide+kernel,by decide+kernel⟩
theorem ok_overlap (D:Df K mg "overlap" (top 42) ["one","other"]) (T:Tx K mg C) (F_have_in_common:Fn P w K mg base 4 "have_in_common" ["one","other","way"] (yJ K)):Fn P w K mg base 5 "overlap" ["one","other"] (JU K):=by
 refine D.ok0 sc_overlap (fun vs H Q E h=>?_) (fun f cdv A outer s H vs Q E hr h=>?_)
 ·obtain ⟨z,y,a,b,rfl,_⟩:=h
  rfl
 obtain ⟨z,y,a,b,rfl,hz,hy,k⟩:=h
 refine ⟨_,(zG (zL (yZ (zI F_have_in_common (by decide) hr (by rfl) zF (zA (pv 0) (zA (pv 1) (zA (zX (by rfl) T.k_ACROSS) zC)))) (yP (zI F_have_in_common (by decide) hr (by rfl) zF (zA (pv 0) (zA (pv 1) (zA (zX (by rfl) T.k_ALONG) zC)))))))),?_⟩
 refine ⟨_,rfl,_,rfl,_,_,a,b,0,rfl,hz,hy,by decide,fun H1 s1=>⟨_,rfl,?_⟩⟩
 cases c:hicB a b 0 with
 |true=>
  refine iteT ⟨_,rfl,_,rfl,_,_,a,b,1,rfl,hz.same s1,hy.same s1,by decide,fun H2 s2=>?_⟩
  have w:=k H2 (s1.trans s2)
  rw [c,Bool.true_and] at w
  exact w
 |false=>
  have w:=k H1 s1
  rw [c,Bool.false_and] at w
  exact iteF w
noncomputable def ZK (K:PySem.W.Frag):Sp:=fun vs H Q _=>∃ (r x y l:Addr) (R:Rat × Rat) (xs:List V) (gs:List Bq),vs=[.ref r,.ref l]/\SqT K H r [.ref x,.ref y]/\FQ K H x R.1/\FQ K H y R.2/\FB 1990 R.1/\FB 1990 R.2/\H l=some (.lst xs)/\Al2 (BqH K 1990 H) xs gs/\GdP R gs/\∀ (H1:Hp),Same H H1->Q .non H1
theorem jC:FnScope ["room","boxes","one","other"] ["room","boxes"] (zD (top 61)):=⟨rfl,rfl,rfl,by decide+kernel,rfl,by decide+kernel,by decide+kernel⟩
theorem ok_refuse_boxes (D:Df K mg "refuse_boxes" (top 61) ["room","boxes"]) (T:Tx K mg C) (F_is_room:Fn P w K mg base 4 "is_room" ["thing"] (Ji K)) (F_is_box:Fn P w K mg base 4 "is_box" ["thing"] (J3 K)) (F_is_within:Fn P w K mg base 4 "is_within" ["box","room"] (Ya K)) (F_overlap:Fn P w K mg base 5 "overlap" ["one","other"] (JU K)):Fn P w K mg base 6 "refuse_boxes" ["room","boxes"] (ZK K):=by
 refine D.ok0 jC (fun vs H Q E h=>?_) (fun f cdv A outer s H vs Q E hr h=>?_)
 ·obtain ⟨r,x,y,l,R,xs,gs,rfl,_⟩:=h
  rfl
 obtain ⟨r,x,y,l,R,xs,gs,rfl,hr0,gx,gy,fx,fy,hl,al,gd,k⟩:=h
 refine ⟨_,(zE (ze (z9 (zf (zI F_is_room (by decide) hr (by rfl) zF (zA (pv 0) zC)) (fun _=>rfl))) (zG y7) zS)
   (zE (ze (y9 (z9 (zf (zW jX (by rfl) T.b_isinstance PyProof.Rows.Boot.«isinstance» (zA (pv 1) (zA (Yx (by rfl) T.b_list PyProof.Rows.Boot.«list») zC))) (fun _=>rfl))) (yY (z9 (pt_chain JS JS zB (zW yD (by rfl) T.b_len PyProof.Rows.Boot.«len» (zA (pv 1) zC)) (zX (by rfl) T.k_MOST_BOXES))))).pt (zG y7) zS)
   (zE (ze (z9 (zf (zW (YC (K:=K) rfl rfl) (by rfl) T.b_all PyProof.Rows.Boot.«all» (zA (@Zg _ _ _ _ _ _ _ _ _ _ ["room"] [0] rfl (zw (pv 1)) rfl (by decide) rfl (by decide) rfl (by decide) (je (j:=0) rfl rfl rfl rfl (.inl rfl)) (fun y c h=>h) (ZR rfl) (fun C z Hc fp=>(yZ (zI F_is_box (by decide) hr (by rfl) zF (zA (pv 0) zC)) (yP (zI F_is_within (by decide) hr (by rfl) zF (zA (pv 0) (zA (pv 1) zC)))))) (fun _=>rfl)) zC)) (fun _=>rfl))) (zG y7) zS)
   (zG (zr PassesOwn.never rfl (yh (by rfl) T.b_range (zA (zW yD (by rfl) T.b_len PyProof.Rows.Boot.«len» (zA (pv 1) zC)) zC)) (zd (i:=2) jC.nd rfl (Or.inl rfl)) (zG (zr PassesOwn.never rfl (Ym (by rfl) T.b_range (zA (zN zj (pv 2) zB) (zA (zW yD (by rfl) T.b_len PyProof.Rows.Boot.«len» (zA (pv 1) zC)) zC))) (zd (i:=3) jC.nd rfl (Or.inl rfl)) (zG (ze (zf (zI F_overlap (by decide) hr (by rfl) zF (zA (zH yb (pv 1) (pv 2) (fun _ _=>rfl)) (zA (zH yb (pv 1) (pv 3) (fun _ _=>rfl)) zC))) (fun _=>rfl)) (zG y7) zS))))))))),?_⟩
 have hz:=Al2.len al
 have l1:=gd.l1
 have l6:=gd.l6
 refine ⟨_,rfl,r,x,y,R,rfl,hr0,gx,gy,fx,fy,gd.r1,gd.r2,fun H1 s1=>⟨_,rfl,iteF ?_⟩⟩
 have hl1:=s1 _ _ hl
 refine ⟨_,rfl,_,_,true,rfl,.inl ⟨_,rfl⟩,⟨_,.lst hl1,kit_lst_lst⟩,_,rfl,iteF ?_⟩
 refine ⟨_,rfl,_,_,rfl,.inl ⟨_,SqL.of hl1,rfl⟩,_,_,rfl,rfl,?_⟩
 refine ⟨_,rfl,?_⟩
 refine zc (fun _=>?_) (fun c=>absurd (show (1:Int)<=((xs.length:Nat):Int) by omega) c)
 refine ⟨_,_,rfl,rfl,_,rfl,?_⟩
 refine ZV (fun c=>absurd (show ((xs.length:Nat):Int)<=6 by omega) c) (fun _=>?_)
 refine ⟨_,rfl,l,rfl,⟨_,SqL.of hl1⟩,jH (K:=K) (xs:=xs) (fun i ys H'=>i<=xs.length/\Same H1 H'/\ys=(List.replicate i true).map V.bl) ⟨Nat.zero_le _,Same.refl _,rfl⟩ (by rw [hz]; exact Nat.le_trans l6 (by decide)) (fun i ys H2 z=>by obtain ⟨_,_,e⟩:=z; rw [e]; simp) (fun i ys H2 z=>by obtain ⟨_,g,_⟩:=z; exact SqL.of (g _ _ hl1)) ?_ ?_⟩
 ·rintro i vb ys H2 Q1 hx ⟨hi,s2,rfl⟩ kq
  have hi:i < xs.length:=(List.getElem?_eq_some_iff.mp hx).1
  have s02:=s1.trans s2
  obtain ⟨b,hb,hq⟩:=Al2.get (zQ al s02) hx
  have hm:=List.mem_of_getElem? hb
  have ir:=gd.al b hm
  obtain ⟨m,em,_⟩:=gd.wt b hm
  refine ⟨_,rfl,vb,b,rfl,hq,ir.1,ir.2.1,⟨m,em⟩,fun H3 s3=>⟨_,rfl,iteT ?_⟩⟩
  have s03:=s02.trans s3
  refine ⟨_,rfl,_,rfl,vb,b,r,x,y,R,rfl,hq.same s3,Kw.Same.tup s03 hr0,Kw.Same.tup s03 gx,Kw.Same.tup s03 gy,fx,fy,ir,fun H4 s4=>?_⟩
  refine kq _ _ ⟨hi,s2.trans (s3.trans s4),?_⟩
  rw [List.replicate_succ',List.map_append]
  rfl
 rintro ys H2 ⟨_,s2,rfl⟩ p5 n5
 obtain ⟨H3,q3,s3,e3⟩:=newO n5 (.lst ((List.replicate xs.length true).map V.bl))
 rw [q3]
 clear q3
 have ea:(List.replicate xs.length true).all id=true:=by simp
 refine ⟨p5,List.replicate xs.length true,rfl,SqL.of e3,_,rfl,?_⟩
 rw [ea]
 refine iteF ?_
 have s03:=s1.trans (s2.trans s3)
 have hl3:=s03 _ _ hl
 refine ⟨_,rfl,_,_,rfl,.inl ⟨_,SqL.of hl3,rfl⟩,_,rfl,by omega,by omega,yC (n:=((xs.length:Nat):Int).toNat) (fun i σ1 H'=>∃ (u2 u3:Option V),σ1=[some (.ref r),some (.ref l),u2,u3]/\Same H3 H') ⟨_,_,rfl,Same.refl _⟩ ?_ ?_⟩
 ·rintro i σ1 H4 hi ⟨u2,u3,rfl,s4⟩
  have hl4:=s4 _ _ hl3
  obtain ⟨vi,hvi⟩:∃ y,xs[i]?=some y:=⟨_,List.getElem?_eq_getElem (by omega)⟩
  refine ⟨_,rfl,_,_,rfl,rfl,_,rfl,_,_,rfl,.inl ⟨_,SqL.of hl4,rfl⟩,_,_,rfl,⟨by omega,by omega,by omega,by omega⟩,yC (lo:=0+(i:Int)+1) (n:=(((xs.length:Nat):Int) - (0+(i:Int)+1)).toNat) (fun j σ1 H'=>∃ (u3:Option V),σ1=[some (.ref r),some (.ref l),some (.int (0+(i:Int))),u3]/\Same H3 H') ⟨_,rfl,s4⟩ ?_ ?_⟩
  ·rintro j σ1 H5 hj ⟨u3,rfl,s5⟩
   have hij:i+1+j < xs.length:=by omega
   obtain ⟨vj,hvj⟩:∃ y,xs[i+1+j]?=some y:=⟨_,List.getElem?_eq_getElem hij⟩
   have hl5:=s5 _ _ hl3
   have al5:=zQ al (s03.trans s5)
   obtain ⟨bi,hbi,qi⟩:=Al2.get al5 hvi
   obtain ⟨bj,hbj,qj⟩:=Al2.get al5 hvj
   have atj:atI xs (0+(i:Int)+1+(j:Int))=some vj:=by
    have z:=yB hvj
    rwa [show ((i+1+j:Nat):Int)=0+(i:Int)+1+(j:Int) by omega] at z
   refine ⟨_,rfl,_,rfl,l,_,_,_,rfl,rfl,SqL.of hl5,atI_z hvi,_,rfl,_,rfl,l,_,_,_,rfl,rfl,SqL.of hl5,atj,vi,vj,bi,bj,rfl,qi.mono (by decide),qj.mono (by decide),fun H6 s6=>⟨_,rfl,?_⟩⟩
   have no:=gd.ap i (i+1+j) (by omega) (by omega)
   rw [yX hbi,yX hbj] at no
   rw [no]
   exact iteF ⟨_,rfl,s5.trans s6⟩
  ·rintro σ1 H5 ⟨u3,rfl,s5⟩
   exact ⟨_,_,rfl,s5⟩
 ·rintro σ1 H4 ⟨u2,u3,rfl,s4⟩
  exact k H4 (s03.trans s4)
noncomputable def yL (K:PySem.W.Frag):Sp:=fun vs H Q _=>∃ m:Nat,vs=[.int (m:Int)]/\m<=40/\Q .non H
theorem sc_refuse_number_of_moments:FnScope ["most"] ["most"] (zD (top 23)):=⟨rfl,rfl,rfl,by decide+kernel,rfl,by decide+kernel,by decide+kernel⟩
theorem ok_refuse_number_of_moments (D:Df K mg "refuse_number_of_moments" (top 23) ["most"]) (T:Tx K mg C) (F_is_whole:Fn P w K mg base 1 "is_whole" ["thing"] (Yf K)):Fn P w K mg base 2 "refuse_number_of_moments" ["most"] (yL K):=by
 refine D.ok0 sc_refuse_number_of_moments (fun vs H Q E h=>?_) (fun f cdv A outer s H vs Q E hr h=>?_)
 ·obtain ⟨m,rfl,_⟩:=h
  rfl
 obtain ⟨m,rfl,h40,k⟩:=h
 refine ⟨_,(zG (ze (y9 (z9 (zf (zI F_is_whole (by decide) hr (by rfl) zF (zA (pv 0) zC)) (fun _=>rfl))) (yY (z9 (pt_chain JS JS zB (pv 0) (zX (by rfl) T.k_MOST_MOMENTS))))).pt (zG y7) zS)),?_⟩
 refine ⟨_,rfl,_,_,true,false,rfl,.int _,yf,yR,_,rfl,?_⟩
 refine iteF ?_
 refine ⟨_,rfl,_,_,rfl,rfl,?_⟩
 refine ⟨_,rfl,?_⟩
 refine zc (fun _=>?_) (fun c=>absurd (show (0:Int)<=(m:Int) by omega) c)
 refine ⟨_,_,rfl,rfl,_,rfl,?_⟩
 exact ZV (fun c=>absurd (show (m:Int)<=40 by omega) c) (fun _=>k)
noncomputable def Jz (K:PySem.W.Frag):Sp:=fun vs H Q _=>∃ (r x y l:Addr) (R:Rat × Rat) (xs:List V) (gs:List Bq) (m B:Nat),vs=[.ref r,.ref l,.int (m:Int)]/\SqT K H r [.ref x,.ref y]/\FQ K H x R.1/\FQ K H y R.2/\FB 1990 R.1/\FB 1990 R.2/\H l=some (.lst xs)/\Al2 (BqH K 1990 H) xs gs/\GdP R gs/\CmP B R gs/\B+90 * m<=1900/\m<=40/\∀ (t:Addr) (wd:String) (ms:List (Rat × Pr)) (es:List Bq) (last:Rat) (H1:Hp),Same H H1->RunP R gs 0 m wd ms es last->ToldP K H1 t wd ms es last->Q (.ref t) H1
theorem sc_run_in:FnScope ["room","boxes","most"] ["room","boxes","most"] (zD (top 66)):=⟨rfl,rfl,rfl,by decide+kernel,rfl,by decide+kernel,by decide+kernel⟩
theorem ok_run_in (D:Df K mg "run_in" (top 66) ["room","boxes","most"]) (T:Tx K mg C) (F_refuse_boxes:Fn P w K mg base 6 "refuse_boxes" ["room","boxes"] (ZK K)) (F_refuse_number_of_moments:Fn P w K mg base 2 "refuse_number_of_moments" ["most"] (yL K)) (F_Plane___init__:FnM P w K mg base 7 (C 0) "__init__" ["self","room","boxes"] (spP_init K (C 0))) (F_run_along:Fn P w K mg base 9 "run_along" ["course","most"] (YR K (C 0))):Fn P w K mg base 10 "run_in" ["room","boxes","most"] (Jz K):=by
 refine D.ok0 sc_run_in (fun vs H Q E h=>?_) (fun f cdv A outer s H vs Q E hr h=>?_)
 ·obtain ⟨r,x,y,l,R,xs,gs,m,B,rfl,_⟩:=h
  rfl
 obtain ⟨r,rx,ry,l,R,xs,gs,m,B,rfl,hr0,gx,gy,fx,fy,hl,al,gd,cm,hB,m40,k⟩:=h
 refine ⟨_,(zE (y3 (zI F_refuse_boxes (by decide) hr (by rfl) zF (zA (pv 0) (zA (pv 1) zC))))
   (zE (y3 (zI F_refuse_number_of_moments (by decide) hr (by rfl) zF (zA (pv 2) zC)))
   (zG (zL (zI F_run_along (by decide) hr (by rfl) zF (zA (pe_mko T.mk_Plane T.kp_Plane F_Plane___init__ (by decide) hr (by rfl) T.c_Plane zF (zA (pv 0) (zA (pv 1) zC))) (zA (pv 2) zC))))))),?_⟩
 refine ⟨_,rfl,_,rfl,r,rx,ry,l,R,xs,gs,rfl,hr0,gx,gy,fx,fy,hl,al,gd,fun H0 s0=>?_⟩
 refine ⟨_,rfl,m,rfl,m40,?_⟩
 refine ⟨_,rfl,_,rfl,?_⟩
 intro x dx nx ndx nex
 obtain ⟨H1,q1⟩:∃ H1,upd (upd H0 dx (.own x)) x (.ins (C 0) dx [])=H1:=⟨_,rfl⟩
 have s1:Same H0 H1:=by
  rw [<- q1]
  intro a o ha
  rw [zY (zO ha nx),zY (zO ha ndx)]
  exact ha
 have e1:H1 x=some (.ins (C 0) dx []):=by rw [<- q1]; exact zk
 dsimp only
 rw [q1]
 clear q1
 have s01:=s0.trans s1
 refine ⟨x,dx,r,rx,ry,l,R,xs,gs,B,rfl,e1,Kw.Same.tup s01 hr0,Kw.Same.tup s01 gx,Kw.Same.tup s01 gy,fx,fy,s01 _ _ hl,zQ al s01,gd.l6,cm,by omega,fun wl g j H2 s2 ng nj cr=>⟨rfl,?_⟩⟩
 refine ⟨_,rfl,x,R,gs,wl,g,j,m,B,rfl,cr,gd.l6,gd.wt,cm,hB,m40,fun t wd ms es last H3 s3 rq told=>?_⟩
 refine k t wd ms es last H3 ?_ rq told
 have n1:∀ {a:Addr},H1 a=none->H0 a=none:=fun h=>yz s1 h
 intro a o ha
 have ha:=s0 a o ha
 refine s3 a o ?_ (s2 a o (zO ha nx) (s1 a o ha))
 simp only [List.mem_cons,List.not_mem_nil,or_false,not_or]
 exact ⟨zO ha nx,zO ha (n1 ng),zO ha (n1 nj)⟩
theorem sc_law_cell:FnScope ["script","k"] ["script","k"] (zD (top 68)):=⟨rfl,rfl,rfl,by decide+kernel,rfl,by decide+kernel,by decide+kernel⟩
theorem ok_law_cell (D:Df K mg "_law_cell" (top 68) ["script","k"]) (T:Tx K mg C):Fn P w K mg base 1 "_law_cell" ["script","k"] (spCell K):=by
 refine D.ok0 sc_law_cell (fun vs H Q E h=>?_) (fun f cdv A outer s H vs Q E hr h=>?_)
 ·obtain ⟨a,k,rfl,_⟩:=h
  rfl
 obtain ⟨a,k,rfl,⟨ns,hS,h63,hbd⟩,k0,k1,q⟩:=h
 refine ⟨_,(zE (ze (zR Zy (pv 1) (zW yD (by rfl) T.b_len PyProof.Rows.Boot.«len» (zA (pv 0) zC)) (zT _)) (zG (zL (zH yb (pv 0) (pv 1) (fun _ _=>rfl)))) zS)
   (zG (zL (zN zj (zN zb zB (pv 1)) zB)))),?_⟩
 refine ⟨_,rfl,_,rfl,_,_,rfl,.inl ⟨_,hS,rfl⟩,_,_,rfl,rfl,_,rfl,?_⟩
 refine zc (fun c=>?_) (fun c=>?_)
 ·rw [List.length_map] at c
  have hk:k.toNat < ns.length:=by omega
  have ek:k=((k.toNat:Nat):Int):=by omega
  have z:atI (ns.map V.int) ((k.toNat:Nat):Int)=some (.int ns[k.toNat]):=yB (by rw [List.getElem?_map,List.getElem?_eq_getElem hk]<;>rfl)
  rw [<- ek] at z
  exact ⟨_,rfl,_,rfl,a,_,_,_,rfl,rfl,hS,z,q _ (hbd _ (List.getElem_mem hk))⟩
 ·refine ⟨_,rfl,_,_,rfl,rfl,j5 (by decide) (by decide),_,_,rfl,rfl,q _ ?_⟩
  exact (Bd.small (by omega) (by omega)).mono (by decide)
theorem Z2:FnScope ["cell","k","number"] ["cell","k"] (zD (top 69)):=⟨rfl,rfl,rfl,by decide+kernel,rfl,by decide+kernel,by decide+kernel⟩
theorem ok_law_mix (D:Df K mg "_law_mix" (top 69) ["cell","k"]) (T:Tx K mg C):Fn P w K mg base 1 "_law_mix" ["cell","k"] spMix:=by
 refine D.ok0 Z2 (fun vs H Q E h=>?_) (fun f cdv A outer s H vs Q E hr h=>?_)
 ·obtain ⟨c,k,rfl,_⟩:=h
  rfl
 obtain ⟨c,k,rfl,hc,k0,k1,q⟩:=h
 refine ⟨_,(zE (zM (i:=2) Z2.nd rfl (Or.inl rfl) (zN zj (zN zb (zN zj (pv 0) zB) zB) (zN zb zB (pv 1))))
   (zE (zM (i:=2) Z2.nd rfl (Or.inl rfl) (zN zj (zN Jm (zN zb (pv 2) (pv 2)) zB) (pv 1)))
   (zG (zL (zN Jm (zN zb (pv 2) (zN zj (pv 2) zB)) zB))))),?_⟩
 have s1:∀ i:Int,-(2 ^ 64) < i->i < 2 ^ 64->Bd 1048576 i:=fun i h1 h2=>(Bd.small h1 h2).mono (by decide)
 have b1:Bd 1048641 ((c+1) * 40692):=((hc.add (s1 1 (by decide) (by decide))).mul (Bd.small (i:=40692) (by decide) (by decide))).mono (by decide)
 have b2:Bd 1048642 ((c+1) * 40692+104729 * k):=(b1.add ((Bd.small (by omega) (by omega)).mono (by decide))).mono (by decide)
 refine ⟨_,rfl,_,_,rfl,rfl,_,_,rfl,rfl,Y6 (by decide) (by decide),_,rfl,_,_,rfl,rfl,j5 (by decide) (by decide),_,_,rfl,rfl,?_⟩
 refine ⟨_,rfl,_,rfl,_,_,rfl,rfl,b2.ok b2 (by decide),_,_,rfl,rfl,(by show (0:Int) < 2147483399; decide),_,rfl,_,_,rfl,rfl,?_⟩
 have e0:=Int.emod_nonneg (((c+1) * 40692+104729 * k) * ((c+1) * 40692+104729 * k)) (show (2147483399:Int)≠0 by decide)
 have e1:=Int.emod_lt_of_pos (((c+1) * 40692+104729 * k) * ((c+1) * 40692+104729 * k)) (show (0:Int) < 2147483399 by decide)
 exact ⟨_,rfl,_,rfl,_,_,rfl,rfl,_,_,rfl,rfl,j5 (by omega) (by omega),_,_,rfl,rfl,(by show (0:Int) < 2147483563; decide),q _⟩
theorem jL:FnScope ["script","k","here","number","j"] ["script","k"] (zD (top 70)):=⟨rfl,rfl,rfl,by decide+kernel,rfl,by decide+kernel,by decide+kernel⟩
theorem ok_law_box (D:Df K mg "_law_box" (top 70) ["script","k"]) (T:Tx K mg C) (F_law_cell:Fn P w K mg base 1 "_law_cell" ["script","k"] (spCell K)) (F_law_mix:Fn P w K mg base 1 "_law_mix" ["cell","k"] spMix) :
  Fn P w K mg base 2 "_law_box" ["script","k"] (spBox K):=by
 refine D.ok0 jL (fun vs H Q E h=>?_) (fun f cdv A outer s H vs Q E hr h=>?_)
 ·obtain ⟨a,k,rfl,_⟩:=h
  rfl
 obtain ⟨a,k,rfl,hS,k0,k1,q⟩:=h
 refine ⟨_,(zE (zM (i:=2) jL.nd rfl (Or.inl rfl) (zI F_law_cell (by decide) hr (by rfl) zF (zA (pv 0) (zA (pv 1) zC))))
   (zE (ze (zR Zm (zN Jm (pv 2) zB) zB (zT _)) (zG (zL (yy (zA (zN zx (pv 2) zB) zC)))) zS)
   (zE (zM (i:=3) jL.nd rfl (Or.inl rfl) zB)
   (zE (zr PassesOwn.never rfl (yh (by rfl) T.b_range (zA zB zC)) (zd (i:=4) jL.nd rfl (Or.inl rfl)) (zG (zM (i:=3) jL.nd rfl (Or.inl rfl) (zN zj (zN zb (pv 3) zB) (zI F_law_mix (by decide) hr (by rfl) zF (zA (pv 2) (zA (pv 4) zC)))))))
   (zG (zL (yy (zA (pv 3) zC)))))))),?_⟩
 refine ⟨_,rfl,_,rfl,a,k,rfl,hS,k0,k1,fun c hc=>?_⟩
 refine ⟨_,rfl,_,_,rfl,rfl,(by show (0:Int) < 2; decide),rfl,_,rfl,?_⟩
 refine jK (fun z=>?_) (fun z=>?_)
 ·refine ⟨_,rfl,_,_,rfl,rfl,⟨by decide,by decide+kernel⟩,(by show 1<=sizeLine; decide),fun p hp=>?_⟩
  exact q p _ _ hp (jt hp _) zk
 refine ⟨_,rfl,by decide,by decide,yC (n:=16) (fun i σ' H'=>∃ (n:Int) (r:Option V),σ'=[some (.ref a),some (.int k),some (.int c),some (.int n),r]/\H'=H) ⟨_,_,rfl,rfl⟩ ?_ ?_⟩
 ·rintro i σ' H' hi ⟨n,r,rfl,rfl⟩
  refine ⟨_,rfl,_,_,rfl,rfl,Y6 (by decide) (by decide),_,rfl,_,rfl,c,_,rfl,hc,by omega,by omega,fun m=>?_⟩
  exact ⟨_,_,rfl,rfl,_,_,rfl,rfl⟩
 ·rintro σ' H' ⟨n,r,rfl,rfl⟩
  refine ⟨_,rfl,(by show 1<=sizeLine; decide),fun p hp=>?_⟩
  exact q p _ _ hp (jt hp _) zk
theorem Zc:FnScope ["box","many","left","digit"] ["box","many"] (zD (top 71)):=⟨rfl,rfl,rfl,by decide+kernel,rfl,by decide+kernel,by decide+kernel⟩
theorem ok_law_take (D:Df K mg "_law_take" (top 71) ["box","many"]) (T:Tx K mg C):Fn P w K mg base 1 "_law_take" ["box","many"] spTake:=by
 refine D.ok0 Zc (fun vs H Q E h=>?_) (fun f cdv A outer s H vs Q E hr h=>?_)
 ·obtain ⟨b,m,n,rfl,_⟩:=h
  rfl
 obtain ⟨b,m,n,rfl,hb,m0,hm,q⟩:=h
 refine ⟨_,(zE (Yo (zW call_divmodB (by rfl) T.b_divmod PyProof.Rows.Boot.«divmod» (zA (zH yb (pv 0) zB (fun _ _=>rfl)) (zA (pv 1) zC))) (pg_tup rfl (YK (zd (i:=2) Zc.nd rfl (Or.inl rfl)) (YK (zd (i:=3) Zc.nd rfl (Or.inl rfl)) pgs_nil))))
   (zE (Yo (pv 2) (JV (pv 0) zB Zf))
   (zG (zL (pv 3))))),?_⟩
 refine ⟨_,rfl,b,_,_,_,rfl,rfl,SqL.of hb,rfl,_,rfl,n,m,rfl,⟨m0,hm.log⟩,?_⟩
 intro p hp0
 have sm:=jt hp0 (.tup [.int (n / m),.int (n % m)])
 have hp:upd H p (.tup [.int (n / m),.int (n % m)]) p=some (.tup [.int (n / m),.int (n % m)]):=zk
 refine ⟨p,_,rfl,SqT.of hp,rfl,_,_,rfl,_,_,rfl,rfl,?_⟩
 refine ⟨_,rfl,_,rfl,b,_,_,0,rfl,rfl,sm _ _ hb,rfl,_,rfl,?_⟩
 have d0:=Int.emod_nonneg n (show m≠0 by omega)
 have d1:=Int.emod_lt_of_pos n m0
 exact q (n % m) (n / m) _ d0 d1 ((But.of sm).trans (but_upd _)) zk
theorem j9:FnScope ["top","bottom","one","other"] ["top","bottom"] (zD (top 72)):=⟨rfl,rfl,rfl,by decide+kernel,rfl,by decide+kernel,by decide+kernel⟩
theorem ok_law_fit0 (D:Df K mg "_law_fit" (top 72) ["top","bottom"]) (T:Tx K mg C):Fn P w K mg base 1 "_law_fit" ["top","bottom"] spFit:=by
 refine D.ok0 j9 (fun vs H Q E h=>?_) (fun f cdv A outer s H vs Q E hr h=>?_)
 ·obtain ⟨a,b,rfl,_⟩:=h
  rfl
 obtain ⟨a,b,rfl,c,hb,hq⟩:=h
 refine ⟨_,(zE (ps_par (i:=2) (j:=3) rfl j9.nd rfl rfl (by decide) rfl rfl (zA (zW Yb (by rfl) T.b_abs PyProof.Rows.Boot.«abs» (zA (pv 0) zC)) (zA (zW Yb (by rfl) T.b_abs PyProof.Rows.Boot.«abs» (zA (pv 1) zC)) zC)) rfl)
   (zE (Z8 PassesOwn.never (zR op_gt (pv 3) zB (zT _)) (zG (ps_par (i:=2) (j:=3) rfl j9.nd rfl rfl (by decide) rfl rfl (zA (pv 3) (zA (zN Jm (pv 2) (pv 3)) zC)) rfl)))
   (zE (ze (zR Zy (pv 1) zB (zT _)) (zG (zM (i:=2) j9.nd rfl (Or.inl rfl) (zN ZY zB (pv 2)))) zS)
   (zG (zL (zV (zA (zN zx (pv 0) (pv 2)) (zA (zN zx (pv 1) (pv 2)) zC)))))))),?_⟩
 refine ⟨_,rfl,_,rfl,_,rfl,_,rfl,_,_,rfl,?_⟩
 refine ⟨fun m σ' H'=>∃ g s:Int,σ'=[some (.int a),some (.int b),some (.int g),some (.int s)]/\H'=H/\0<=g/\0<=s/\m=s.toNat/\Int.gcd g s=Int.gcd a b,⟨_,_,_,rfl,rfl,abs_nn a,abs_nn b,rfl,gcd_abs a b⟩,?_⟩
 rintro m σ' H' ⟨g,s,rfl,rfl,hg,hs,rfl,e⟩
 refine ⟨_,rfl,_,_,rfl,rfl,_,rfl,?_⟩
 refine zc (fun c=>?_) (fun z=>?_)
 ·refine ⟨_,fun _ _ n=>n,?_⟩
  refine ⟨_,rfl,_,rfl,_,rfl,_,_,rfl,rfl,c,_,_,rfl,?_⟩
  have l:=Int.emod_lt_of_pos g c
  have l0:=Int.emod_nonneg g (show s≠0 by omega)
  exact ⟨_,by omega,s,g % s,rfl,rfl,by omega,l0,rfl,(gcd_step g s hg c).trans e⟩
 ·have s0:s=0:=by omega
  subst s0
  have z:=gcd_end g hg
  rw [e] at z
  subst z
  have hd:(if b < 0 then -((Int.gcd a b:Nat):Int) else ((Int.gcd a b:Nat):Int))=dv a b:=rfl
  have lg:=(bd_dv (t:=a) c hb).log
  refine ⟨_,rfl,_,_,rfl,rfl,_,rfl,?_⟩
  refine zc (fun n=>?_) (fun n=>?_)
  ·rw [if_pos n] at hd
   refine ⟨_,rfl,_,_,rfl,rfl,?_⟩
   dsimp only
   rw [show (0:Int) - ((Int.gcd a b:Nat):Int)=dv a b by rw [<- hd]; omega]
   refine ⟨_,rfl,_,rfl,_,_,rfl,rfl,⟨ZJ c,lg⟩,_,rfl,_,rfl,_,_,rfl,rfl,⟨ZJ c,lg⟩,by show 2<=sizeLine; decide,?_⟩
   exact Yt fun p H' sm hp=>hq p H' sm hp
  ·rw [if_neg n] at hd
   rw [hd]
   refine ⟨_,rfl,_,rfl,_,_,rfl,rfl,⟨ZJ c,lg⟩,_,rfl,_,rfl,_,_,rfl,rfl,⟨ZJ c,lg⟩,by show 2<=sizeLine; decide,?_⟩
   exact Yt fun p H' sm hp=>hq p H' sm hp
noncomputable def ye (K:PySem.W.Frag):Sp:=fun vs H Q _=>∃ (a:Int) (b:Int),vs=[.int a,.int b]/\Bd 9000 b/\b≠0/\(∀ (p_r:Addr) (H1:Hp),Same H H1->FQ K H1 p_r (Rat.divInt a b)->Q (.ref p_r) H1)
theorem ok_law_fit (D:Df K mg "_law_fit" (top 72) ["top","bottom"]) (T:Tx K mg C):Fn P w K mg base 1 "_law_fit" ["top","bottom"] (ye K):=
 (ok_law_fit0 D T).imp fun vs H Q E h=>by
  obtain ⟨a,b,rfl,hb,b0,k⟩:=h
  exact ⟨a,b,rfl,b0,hb,fun p H' s e=>k p H' s (FQ.fit b0 (SqT.of e))⟩
noncomputable def yg (K:PySem.W.Frag):Sp:=fun vs H Q _=>∃ (p_x:Addr) (x:Rat) (p_y:Addr) (y:Rat),vs=[.ref p_x,.ref p_y]/\FQ K H p_x x/\FB 4400 x/\FQ K H p_y y/\FB 4400 y/\(∀ (p_r:Addr) (H1:Hp),Same H H1->FQ K H1 p_r (x+y)->Q (.ref p_r) H1)
theorem sc_law_plus:FnScope ["one","other"] ["one","other"] (zD (top 73)):=⟨rfl,rfl,rfl,by decide+kernel,rfl,by decide+kernel,by decide+kernel⟩
theorem ok_law_plus (D:Df K mg "_law_plus" (top 73) ["one","other"]) (T:Tx K mg C) (F_law_fit:Fn P w K mg base 1 "_law_fit" ["top","bottom"] (ye K)):Fn P w K mg base 2 "_law_plus" ["one","other"] (yg K):=by
 refine D.ok0 sc_law_plus (fun vs H Q E h=>?_) (fun f cdv A outer s H vs Q E hr h=>?_)
 ·obtain ⟨p_x,x,p_y,y,rfl,_⟩:=h
  rfl
 obtain ⟨p_x,x,p_y,y,rfl,g_x,d_x,g_y,d_y,k0⟩:=h
 refine ⟨_,(zG (zL (zI F_law_fit (by decide) hr (by rfl) zF (zA (zN zj (zN zb (zH ix_tup (pv 0) zB (fun _ _=>rfl)) (zH ix_tup (pv 1) zB (fun _ _=>rfl))) (zN zb (zH ix_tup (pv 1) zB (fun _ _=>rfl)) (zH ix_tup (pv 0) zB (fun _ _=>rfl)))) (zA (zN zb (zH ix_tup (pv 0) zB (fun _ _=>rfl)) (zH ix_tup (pv 1) zB (fun _ _=>rfl))) zC))))),?_⟩
 refine ⟨_,rfl,p_x,_,_,_,rfl,rfl,g_x,rfl,_,rfl,p_y,_,_,_,rfl,rfl,g_y,rfl,_,_,rfl,rfl,(d_x.1.ok d_y.2 (by decide)),_,rfl,p_y,_,_,_,rfl,rfl,g_y,rfl,_,rfl,p_x,_,_,_,rfl,rfl,g_x,rfl,_,_,rfl,rfl,(d_y.1.ok d_x.2 (by decide)),_,_,rfl,rfl,_,rfl,p_x,_,_,_,rfl,rfl,g_x,rfl,_,rfl,p_y,_,_,_,rfl,rfl,g_y,rfl,_,_,rfl,rfl,(d_x.2.ok d_y.2 (by decide)),_,_,rfl,((Bd.mul d_x.2 d_y.2).mono (by decide)),(by exact Int.mul_ne_zero (q_ne _) (q_ne _)),fun p_r13 H13 s13 g_r13=>?_⟩
 have d_r13:FB 8801 (Rat.divInt ((((x).num * (((y).den:Nat):Int))+((y).num * (((x).den:Nat):Int)))) (((((x).den:Nat):Int) * (((y).den:Nat):Int)))):=(FB.mono (FB.fit (by exact Int.mul_ne_zero (q_ne _) (q_ne _)) ((Bd.add ((Bd.mul d_x.1 d_y.2).mono (n:=8800) (by decide)) ((Bd.mul d_y.1 d_x.2).mono (n:=8800) (by decide))).mono (n:=8801) (by decide)) ((Bd.mul d_x.2 d_y.2).mono (n:=8801) (by decide))) (by decide))
 have e14:((Rat.divInt ((((x).num * (((y).den:Nat):Int))+((y).num * (((x).den:Nat):Int)))) (((((x).den:Nat):Int) * (((y).den:Nat):Int)))):Rat)=x+y:=by exact q_add x y
 exact k0 _ _ s13 (FQ.cast g_r13 e14)
noncomputable def YF (K:PySem.W.Frag):Sp:=fun vs H Q _=>∃ (p_x:Addr) (x:Rat) (p_y:Addr) (y:Rat),vs=[.ref p_x,.ref p_y]/\FQ K H p_x x/\FB 4400 x/\FQ K H p_y y/\FB 4400 y/\(∀ (p_r:Addr) (H1:Hp),Same H H1->FQ K H1 p_r (x - y)->Q (.ref p_r) H1)
theorem sc_law_minus:FnScope ["one","other"] ["one","other"] (zD (top 74)):=⟨rfl,rfl,rfl,by decide+kernel,rfl,by decide+kernel,by decide+kernel⟩
theorem ok_law_minus (D:Df K mg "_law_minus" (top 74) ["one","other"]) (T:Tx K mg C) (F_law_fit:Fn P w K mg base 1 "_law_fit" ["top","bottom"] (ye K)):Fn P w K mg base 2 "_law_minus" ["one","other"] (YF K):=by
 refine D.ok0 sc_law_minus (fun vs H Q E h=>?_) (fun f cdv A outer s H vs Q E hr h=>?_)
 ·obtain ⟨p_x,x,p_y,y,rfl,_⟩:=h
  rfl
 obtain ⟨p_x,x,p_y,y,rfl,g_x,d_x,g_y,d_y,k0⟩:=h
 refine ⟨_,(zG (zL (zI F_law_fit (by decide) hr (by rfl) zF (zA (zN ZY (zN zb (zH ix_tup (pv 0) zB (fun _ _=>rfl)) (zH ix_tup (pv 1) zB (fun _ _=>rfl))) (zN zb (zH ix_tup (pv 1) zB (fun _ _=>rfl)) (zH ix_tup (pv 0) zB (fun _ _=>rfl)))) (zA (zN zb (zH ix_tup (pv 0) zB (fun _ _=>rfl)) (zH ix_tup (pv 1) zB (fun _ _=>rfl))) zC))))),?_⟩
 refine ⟨_,rfl,p_x,_,_,_,rfl,rfl,g_x,rfl,_,rfl,p_y,_,_,_,rfl,rfl,g_y,rfl,_,_,rfl,rfl,(d_x.1.ok d_y.2 (by decide)),_,rfl,p_y,_,_,_,rfl,rfl,g_y,rfl,_,rfl,p_x,_,_,_,rfl,rfl,g_x,rfl,_,_,rfl,rfl,(d_y.1.ok d_x.2 (by decide)),_,_,rfl,rfl,_,rfl,p_x,_,_,_,rfl,rfl,g_x,rfl,_,rfl,p_y,_,_,_,rfl,rfl,g_y,rfl,_,_,rfl,rfl,(d_x.2.ok d_y.2 (by decide)),_,_,rfl,((Bd.mul d_x.2 d_y.2).mono (by decide)),(by exact Int.mul_ne_zero (q_ne _) (q_ne _)),fun p_r15 H15 s15 g_r15=>?_⟩
 have d_r15:FB 8801 (Rat.divInt ((((x).num * (((y).den:Nat):Int)) - ((y).num * (((x).den:Nat):Int)))) (((((x).den:Nat):Int) * (((y).den:Nat):Int)))):=(FB.mono (FB.fit (by exact Int.mul_ne_zero (q_ne _) (q_ne _)) ((Bd.sub ((Bd.mul d_x.1 d_y.2).mono (n:=8800) (by decide)) ((Bd.mul d_y.1 d_x.2).mono (n:=8800) (by decide))).mono (n:=8801) (by decide)) ((Bd.mul d_x.2 d_y.2).mono (n:=8801) (by decide))) (by decide))
 have e16:((Rat.divInt ((((x).num * (((y).den:Nat):Int)) - ((y).num * (((x).den:Nat):Int)))) (((((x).den:Nat):Int) * (((y).den:Nat):Int)))):Rat)=x - y:=by exact q_sub x y
 exact k0 _ _ s15 (FQ.cast g_r15 e16)
noncomputable def jz (K:PySem.W.Frag):Sp:=fun vs H Q _=>∃ (p_x:Addr) (x:Rat) (p_y:Addr) (y:Rat),vs=[.ref p_x,.ref p_y]/\FQ K H p_x x/\FB 4400 x/\FQ K H p_y y/\FB 4400 y/\(∀ (p_r:Addr) (H1:Hp),Same H H1->FQ K H1 p_r (x * y)->Q (.ref p_r) H1)
theorem sc_law_times:FnScope ["one","other"] ["one","other"] (zD (top 75)):=⟨rfl,rfl,rfl,by decide+kernel,rfl,by decide+kernel,by decide+kernel⟩
theorem ok_law_times (D:Df K mg "_law_times" (top 75) ["one","other"]) (T:Tx K mg C) (F_law_fit:Fn P w K mg base 1 "_law_fit" ["top","bottom"] (ye K)):Fn P w K mg base 2 "_law_times" ["one","other"] (jz K):=by
 refine D.ok0 sc_law_times (fun vs H Q E h=>?_) (fun f cdv A outer s H vs Q E hr h=>?_)
 ·obtain ⟨p_x,x,p_y,y,rfl,_⟩:=h
  rfl
 obtain ⟨p_x,x,p_y,y,rfl,g_x,d_x,g_y,d_y,k0⟩:=h
 refine ⟨_,(zG (zL (zI F_law_fit (by decide) hr (by rfl) zF (zA (zN zb (zH ix_tup (pv 0) zB (fun _ _=>rfl)) (zH ix_tup (pv 1) zB (fun _ _=>rfl))) (zA (zN zb (zH ix_tup (pv 0) zB (fun _ _=>rfl)) (zH ix_tup (pv 1) zB (fun _ _=>rfl))) zC))))),?_⟩
 refine ⟨_,rfl,p_x,_,_,_,rfl,rfl,g_x,rfl,_,rfl,p_y,_,_,_,rfl,rfl,g_y,rfl,_,_,rfl,rfl,(d_x.1.ok d_y.1 (by decide)),_,rfl,p_x,_,_,_,rfl,rfl,g_x,rfl,_,rfl,p_y,_,_,_,rfl,rfl,g_y,rfl,_,_,rfl,rfl,(d_x.2.ok d_y.2 (by decide)),_,_,rfl,((Bd.mul d_x.2 d_y.2).mono (by decide)),(by exact Int.mul_ne_zero (q_ne _) (q_ne _)),fun p_r17 H17 s17 g_r17=>?_⟩
 have d_r17:FB 8800 (Rat.divInt (((x).num * (y).num)) (((((x).den:Nat):Int) * (((y).den:Nat):Int)))):=(FB.mono (FB.fit (by exact Int.mul_ne_zero (q_ne _) (q_ne _)) ((Bd.mul d_x.1 d_y.1).mono (n:=8800) (by decide)) ((Bd.mul d_x.2 d_y.2).mono (n:=8800) (by decide))) (by decide))
 have e18:((Rat.divInt (((x).num * (y).num)) (((((x).den:Nat):Int) * (((y).den:Nat):Int)))):Rat)=x * y:=by exact q_mul x y
 exact k0 _ _ s17 (FQ.cast g_r17 e18)
noncomputable def Y7 (K:PySem.W.Frag):Sp:=fun vs H Q _=>∃ (p_x:Addr) (x:Rat) (p_y:Addr) (y:Rat),vs=[.ref p_x,.ref p_y]/\FQ K H p_x x/\FB 4400 x/\FQ K H p_y y/\FB 4400 y/\y≠0/\(∀ (p_r:Addr) (H1:Hp),Same H H1->FQ K H1 p_r (x / y)->Q (.ref p_r) H1)
theorem sc_law_over:FnScope ["one","other"] ["one","other"] (zD (top 76)):=⟨rfl,rfl,rfl,by decide+kernel,rfl,by decide+kernel,by decide+kernel⟩
theorem ok_law_over (D:Df K mg "_law_over" (top 76) ["one","other"]) (T:Tx K mg C) (F_law_fit:Fn P w K mg base 1 "_law_fit" ["top","bottom"] (ye K)):Fn P w K mg base 2 "_law_over" ["one","other"] (Y7 K):=by
 refine D.ok0 sc_law_over (fun vs H Q E h=>?_) (fun f cdv A outer s H vs Q E hr h=>?_)
 ·obtain ⟨p_x,x,p_y,y,rfl,_⟩:=h
  rfl
 obtain ⟨p_x,x,p_y,y,rfl,g_x,d_x,g_y,d_y,pr0,k0⟩:=h
 refine ⟨_,(zG (zL (zI F_law_fit (by decide) hr (by rfl) zF (zA (zN zb (zH ix_tup (pv 0) zB (fun _ _=>rfl)) (zH ix_tup (pv 1) zB (fun _ _=>rfl))) (zA (zN zb (zH ix_tup (pv 0) zB (fun _ _=>rfl)) (zH ix_tup (pv 1) zB (fun _ _=>rfl))) zC))))),?_⟩
 refine ⟨_,rfl,p_x,_,_,_,rfl,rfl,g_x,rfl,_,rfl,p_y,_,_,_,rfl,rfl,g_y,rfl,_,_,rfl,rfl,(d_x.1.ok d_y.2 (by decide)),_,rfl,p_x,_,_,_,rfl,rfl,g_x,rfl,_,rfl,p_y,_,_,_,rfl,rfl,g_y,rfl,_,_,rfl,rfl,(d_x.2.ok d_y.1 (by decide)),_,_,rfl,((Bd.mul d_x.2 d_y.1).mono (by decide)),(by exact Int.mul_ne_zero (q_ne _) (Zj pr0)),fun p_r19 H19 s19 g_r19=>?_⟩
 have d_r19:FB 8800 (Rat.divInt (((x).num * (((y).den:Nat):Int))) (((((x).den:Nat):Int) * (y).num))):=(FB.mono (FB.fit (by exact Int.mul_ne_zero (q_ne _) (Zj pr0)) ((Bd.mul d_x.1 d_y.2).mono (n:=8800) (by decide)) ((Bd.mul d_x.2 d_y.1).mono (n:=8800) (by decide))) (by decide))
 have e20:((Rat.divInt (((x).num * (((y).den:Nat):Int))) (((((x).den:Nat):Int) * (y).num))):Rat)=x / y:=by exact q_div x y
 exact k0 _ _ s19 (FQ.cast g_r19 e20)
noncomputable def ja (K:PySem.W.Frag):Sp:=fun vs H Q _=>∃ (p_x:Addr) (x:Rat) (p_y:Addr) (y:Rat),vs=[.ref p_x,.ref p_y]/\FQ K H p_x x/\FB 60000 x/\FQ K H p_y y/\FB 60000 y/\(∀ (H1:Hp),Same H H1->Q (.bl (decide (x < y))) H1)
theorem sc_law_less:FnScope ["one","other"] ["one","other"] (zD (top 77)):=⟨rfl,rfl,rfl,by decide+kernel,rfl,by decide+kernel,by decide+kernel⟩
theorem ok_law_less (D:Df K mg "_law_less" (top 77) ["one","other"]) (T:Tx K mg C):Fn P w K mg base 1 "_law_less" ["one","other"] (ja K):=by
 refine D.ok0 sc_law_less (fun vs H Q E h=>?_) (fun f cdv A outer s H vs Q E hr h=>?_)
 ·obtain ⟨p_x,x,p_y,y,rfl,_⟩:=h
  rfl
 obtain ⟨p_x,x,p_y,y,rfl,g_x,d_x,g_y,d_y,k0⟩:=h
 refine ⟨_,(zG (zL (yv Zy (zN zb (zH ix_tup (pv 0) zB (fun _ _=>rfl)) (zH ix_tup (pv 1) zB (fun _ _=>rfl))) (zN zb (zH ix_tup (pv 1) zB (fun _ _=>rfl)) (zH ix_tup (pv 0) zB (fun _ _=>rfl))) (zT _)))),?_⟩
 refine ⟨_,rfl,p_x,_,_,_,rfl,rfl,g_x,rfl,_,rfl,p_y,_,_,_,rfl,rfl,g_y,rfl,_,_,rfl,rfl,(d_x.1.ok d_y.2 (by decide)),_,rfl,p_y,_,_,_,rfl,rfl,g_y,rfl,_,rfl,p_x,_,_,_,rfl,rfl,g_x,rfl,_,_,rfl,rfl,(d_y.1.ok d_x.2 (by decide)),_,_,rfl,rfl,?_⟩
 try dsimp only
 rw [show decide (((x).num * (((y).den:Nat):Int)) < ((y).num * (((x).den:Nat):Int)))=decide (x < y) from decide_eq_decide.mpr (by exact (q_lt x y).symm)]
 exact k0 _ (Same.refl _)
noncomputable def Y2 (K:PySem.W.Frag):Sp:=fun vs H Q _=>∃ b n,vs=[.ref b]/\H b=some (.lst [.int n])/\∀ (rp r0 r1:Addr) (R:Rat × Rat) (H':Hp) (n':Int),But b H H'->H' b=some (.lst [.int n'])->SqT K H' rp [.ref r0,.ref r1]->FQ K H' r0 R.1->FQ K H' r1 R.2->RmQ R->Q (.ref rp) H'
theorem sc_law_room:FnScope ["box"] ["box"] (zD (top 78)):=⟨rfl,rfl,rfl,by decide+kernel,rfl,by decide+kernel,by decide+kernel⟩
theorem ok_law_room (D:Df K mg "_law_room" (top 78) ["box"]) (T:Tx K mg C) (F_law_take:Fn P w K mg base 1 "_law_take" ["box","many"] spTake) (F_law_fit:Fn P w K mg base 1 "_law_fit" ["top","bottom"] (ye K)):Fn P w K mg base 2 "_law_room" ["box"] (Y2 K):=by
 refine D.ok0 sc_law_room (fun vs H Q E h=>?_) (fun f cdv A outer s H vs Q E hr h=>?_)
 ·obtain ⟨b,n,rfl,_⟩:=h
  rfl
 obtain ⟨b,n,rfl,hb,q⟩:=h
 refine ⟨_,(zE (ze (zR Zm (zI F_law_take (by decide) hr (by rfl) zF (zA (pv 0) (zA zB zC))) zB (zT _)) (zG (zL (zV (zA (zV (zA (zN zj zB (zI F_law_take (by decide) hr (by rfl) zF (zA (pv 0) (zA zB zC)))) (zA zB zC))) (zA (zV (zA (zN zj zB (zI F_law_take (by decide) hr (by rfl) zF (zA (pv 0) (zA zB zC)))) (zA zB zC))) zC))))) zS)
   (zG (zL (zV (zA (zI F_law_fit (by decide) hr (by rfl) zF (zA (zN zj zB (zI F_law_take (by decide) hr (by rfl) zF (zA (pv 0) (zA zB zC)))) (zA zB zC))) (zA (zI F_law_fit (by decide) hr (by rfl) zF (zA (zN zj zB (zI F_law_take (by decide) hr (by rfl) zF (zA (pv 0) (zA zB zC)))) (zA zB zC))) zC)))))),?_⟩
 have sm9:∀ i:Int,-(2 ^ 64) < i->i < 2 ^ 64->Bd 9000 i:=fun i h1 h2=>(Bd.small h1 h2).mono (by decide)
 refine ⟨_,rfl,b,2,n,rfl,hb,by decide,sm9 _ (by decide) (by decide),fun d1 n1 H1 u1 v1 s1 hb1=>⟨rfl,_,rfl,?_⟩⟩
 refine jK (fun c=>?_) (fun c=>?_)
 ·refine ⟨_,rfl,b,7,n1,rfl,hb1,by decide,sm9 _ (by decide) (by decide),fun d2 n2 H2 u2 v2 s2 hb2=>?_⟩
  refine ⟨_,_,rfl,rfl,by show 2<=sizeLine; decide,?_⟩
  intro p3 n3
  obtain ⟨H3,q3,s3,e3⟩:=newO n3 (.tup [.int (6+d2),.int 1])
  rw [q3]
  clear q3
  refine ⟨_,rfl,b,7,n2,rfl,s3 _ _ hb2,by decide,sm9 _ (by decide) (by decide),fun d4 n4 H4 u4 v4 s4 hb4=>?_⟩
  refine ⟨_,_,rfl,rfl,by show 2<=sizeLine; decide,?_⟩
  intro p5 n5
  obtain ⟨H5,q5,s5,e5⟩:=newO n5 (.tup [.int (4+d4),.int 1])
  rw [q5]
  clear q5
  refine ⟨by show 2<=sizeLine; decide,?_⟩
  intro p6 n6
  obtain ⟨H6,q6,s6,e6⟩:=newO n6 (.tup [.ref p3,.ref p5])
  rw [q6]
  clear q6
  have f3:FQ K H3 p3 ((6+d2:Int):Rat):=SqT.of e3
  have f5:FQ K H5 p5 ((4+d4:Int):Rat):=SqT.of e5
  exact q p6 p3 p5 (((6+d2:Int):Rat),((4+d4:Int):Rat)) H6 n4 (s1.trans (s2.trans ((But.of s3).trans (s4.trans (But.of (s5.trans s6)))))) (s6 _ _ (s5 _ _ hb4)) (SqT.of e6) (Kw.Same.tup (s5.trans s6) (s4.tup (s3 _ _ hb2) f3)) (Kw.Same.tup s6 f5) (rm_int (by omega) (by omega) (by omega) (by omega))
 ·refine ⟨_,rfl,b,60,n1,rfl,hb1,by decide,sm9 _ (by decide) (by decide),fun d2 n2 H2 u2 v2 s2 hb2=>?_⟩
  refine ⟨_,_,rfl,rfl,_,_,rfl,sm9 _ (by decide) (by decide),by decide,fun p3 H3 s3 f3=>?_⟩
  refine ⟨_,rfl,b,60,n2,rfl,s3 _ _ hb2,by decide,sm9 _ (by decide) (by decide),fun d4 n4 H4 u4 v4 s4 hb4=>?_⟩
  refine ⟨_,_,rfl,rfl,_,_,rfl,sm9 _ (by decide) (by decide),by decide,fun p5 H5 s5 f5=>?_⟩
  refine ⟨by show 2<=sizeLine; decide,?_⟩
  intro p6 n6
  obtain ⟨H6,q6,s6,e6⟩:=newO n6 (.tup [.ref p3,.ref p5])
  rw [q6]
  clear q6
  exact q p6 p3 p5 (Rat.divInt (40+d2) 7,Rat.divInt (30+d4) 7) H6 n4 (s1.trans (s2.trans ((But.of s3).trans (s4.trans (But.of (s5.trans s6)))))) (s6 _ _ (s5 _ _ hb4)) (SqT.of e6) (Kw.Same.tup (s5.trans s6) (s4.tup (s3 _ _ hb2) f3)) (Kw.Same.tup s6 f5) (rm_sev (by omega) (by omega) (by omega) (by omega))
noncomputable def jy (K:PySem.W.Frag):Sp:=fun vs H Q _=>∃ (z y:V) (k l:Bq) (N:Nat),vs=[z,y]/\BqH K N H z k/\BqH K N H y l/\N<=2390/\∀ H',Same H H'->Q (.bl (!(hicB k l 0 && hicB k l 1))) H'
theorem YD:FnScope ["one","other","way"] ["one","other"] (zD (top 79)):=⟨rfl,rfl,rfl,by decide+kernel,rfl,by decide+kernel,by decide+kernel⟩
theorem ok_law_apart (D:Df K mg "_law_apart" (top 79) ["one","other"]) (T:Tx K mg C) (F_law_less:Fn P w K mg base 1 "_law_less" ["one","other"] (ja K)) (F_law_plus:Fn P w K mg base 2 "_law_plus" ["one","other"] (yg K)):Fn P w K mg base 3 "_law_apart" ["one","other"] (jy K):=by
 refine D.ok0 YD (fun vs H Q E h=>?_) (fun f cdv A outer s H vs Q E hr h=>?_)
 ·obtain ⟨z,y,k,l,N,rfl,_⟩:=h
  rfl
 obtain ⟨z,y,k,l,N,rfl,hz,hy,hN,q⟩:=h
 refine ⟨_,(zE (zr PassesOwn.never rfl (yh (by rfl) T.b_range (zA zB zC)) (zd (i:=2) YD.nd rfl (Or.inl rfl)) (zE (ze (z9 (zf (zI F_law_less (by decide) hr (by rfl) zF (zA (zH ix_tup (pv 1) (pv 2) (fun _ _=>rfl)) (zA (zI F_law_plus (by decide) hr (by rfl) zF (zA (zH ix_tup (pv 0) (pv 2) (fun _ _=>rfl)) (zA (zH ix_tup (pv 0) (zN zj zB (pv 2)) (fun _ _=>rfl)) zC))) zC))) (fun _=>rfl))) (zG (zL yM)) zS)
   (zG (ze (z9 (zf (zI F_law_less (by decide) hr (by rfl) zF (zA (zH ix_tup (pv 0) (pv 2) (fun _ _=>rfl)) (zA (zI F_law_plus (by decide) hr (by rfl) zF (zA (zH ix_tup (pv 1) (pv 2) (fun _ _=>rfl)) (zA (zH ix_tup (pv 1) (zN zj zB (pv 2)) (fun _ _=>rfl)) zC))) zC))) (fun _=>rfl))) (zG (zL yM)) zS))))
   (zG (zL yM))),?_⟩
 obtain ⟨p,a0,a1,a2,a3,a4,a5,rfl,hp,⟨g0,g1,g2,g3,g4,g5⟩,⟨d0,d1,d2,d3,d4,d5⟩,_⟩:=hz
 obtain ⟨r,b0,b1,b2,b3,b4,b5,rfl,hr1,⟨k0,k1,k2,k3,k4,k5⟩,⟨f0,f1,f2,f3,f4,f5⟩,_⟩:=hy
 have me:∀ {x:Rat},FB N x->FB 60000 x:=fun h=>h.mono (by omega)
 have ms:∀ {x y:Rat},FB N x->FB 1990 y->FB 60000 (x+y):=fun h g=>(h.add g).mono (by omega)
 have md:∀ {x:Rat},FB N x->FB 4400 x:=fun h=>h.mono (by omega)
 have mf:∀ {x:Rat},FB 1990 x->FB 4400 x:=fun h=>h.mono (by decide)
 have bad:(hicB k l 0 && hicB k l 1)=false->∀ H',Same H H'->Q (.bl true) H':=fun e H' s'=>by
  have z:=q H' s'
  rw [e] at z
  exact z
 refine ⟨_,rfl,by decide,by decide,yC (n:=2) (fun i σ1 H1=>∃ r3:Option V,σ1=[some (.ref p),some (.ref r),r3]/\Same H H1/\(1<=i->hicB k l 0=true)/\(2<=i->hicB k l 1=true)) ⟨_,rfl,Same.refl H,fun z=>absurd z (by omega),fun z=>absurd z (by omega)⟩ ?_ ?_⟩
 ·rintro i σ1 H1 hi ⟨r3,rfl,sm,i1,i2⟩
  have hp1:=Kw.Same.tup sm hp
  have hq1:=Kw.Same.tup sm hr1
  match i,hi with
  |0,_=>
   refine ⟨_,rfl,_,rfl,r,_,_,_,rfl,rfl,hq1,rfl,_,rfl,_,rfl,p,_,_,_,rfl,rfl,hp1,rfl,_,rfl,_,rfl,_,_,rfl,rfl,p,_,_,_,rfl,rfl,hp1,rfl,?_⟩
   refine ⟨_,_,_,_,rfl,Kw.Same.tup sm g0,md d0,Kw.Same.tup sm g2,mf d2,fun m2 H2 s2 e2=>?_⟩
   have t2:=sm.trans s2
   refine ⟨_,_,_,_,rfl,Kw.Same.tup t2 k0,me f0,e2,ms d0 d2,fun H3 s3=>⟨_,rfl,?_⟩⟩
   have t3:=t2.trans s3
   refine ZV (fun c=>?_) (fun c=>?_)
   ·refine bad ?_ H3 t3
    have e:hicB k l 0=false:=by
     unfold hicB
     rw [show decide (l.pl 0 < k.far 0)=false from decide_eq_false c,Bool.and_false]
    rw [e]
    simp
   refine ⟨_,rfl,_,rfl,p,_,_,_,rfl,rfl,Kw.Same.tup t3 hp,rfl,_,rfl,_,rfl,r,_,_,_,rfl,rfl,Kw.Same.tup t3 hr1,rfl,_,rfl,_,rfl,_,_,rfl,rfl,r,_,_,_,rfl,rfl,Kw.Same.tup t3 hr1,rfl,?_⟩
   refine ⟨_,_,_,_,rfl,Kw.Same.tup t3 k0,md f0,Kw.Same.tup t3 k2,mf f2,fun m4 H4 s4 e4=>?_⟩
   have t4:=t3.trans s4
   refine ⟨_,_,_,_,rfl,Kw.Same.tup t4 g0,me d0,e4,ms f0 f2,fun H5 s5=>⟨_,rfl,?_⟩⟩
   have t5:=t4.trans s5
   refine ZV (fun c2=>?_) (fun c2=>?_)
   ·refine bad ?_ H5 t5
    have e:hicB k l 0=false:=by
     unfold hicB
     rw [show decide (k.pl 0 < l.far 0)=false from decide_eq_false c2,Bool.false_and]
    rw [e]
    simp
   have hh:hicB k l 0=true:=by
    unfold hicB
    rw [show decide (l.pl 0 < k.far 0)=true from decide_eq_true c,show decide (k.pl 0 < l.far 0)=true from decide_eq_true c2]
    rfl
   exact ⟨_,rfl,t5,fun _=>hh,fun z=>absurd z (by omega)⟩
  |1,_=>
   refine ⟨_,rfl,_,rfl,r,_,_,_,rfl,rfl,hq1,rfl,_,rfl,_,rfl,p,_,_,_,rfl,rfl,hp1,rfl,_,rfl,_,rfl,_,_,rfl,rfl,p,_,_,_,rfl,rfl,hp1,rfl,?_⟩
   refine ⟨_,_,_,_,rfl,Kw.Same.tup sm g1,md d1,Kw.Same.tup sm g3,mf d3,fun m2 H2 s2 e2=>?_⟩
   have t2:=sm.trans s2
   refine ⟨_,_,_,_,rfl,Kw.Same.tup t2 k1,me f1,e2,ms d1 d3,fun H3 s3=>⟨_,rfl,?_⟩⟩
   have t3:=t2.trans s3
   refine ZV (fun c=>?_) (fun c=>?_)
   ·refine bad ?_ H3 t3
    have e:hicB k l 1=false:=by
     unfold hicB
     rw [show decide (l.pl 1 < k.far 1)=false from decide_eq_false c,Bool.and_false]
    rw [e]
    simp
   refine ⟨_,rfl,_,rfl,p,_,_,_,rfl,rfl,Kw.Same.tup t3 hp,rfl,_,rfl,_,rfl,r,_,_,_,rfl,rfl,Kw.Same.tup t3 hr1,rfl,_,rfl,_,rfl,_,_,rfl,rfl,r,_,_,_,rfl,rfl,Kw.Same.tup t3 hr1,rfl,?_⟩
   refine ⟨_,_,_,_,rfl,Kw.Same.tup t3 k1,md f1,Kw.Same.tup t3 k3,mf f3,fun m4 H4 s4 e4=>?_⟩
   have t4:=t3.trans s4
   refine ⟨_,_,_,_,rfl,Kw.Same.tup t4 g1,me d1,e4,ms f1 f3,fun H5 s5=>⟨_,rfl,?_⟩⟩
   have t5:=t4.trans s5
   refine ZV (fun c2=>?_) (fun c2=>?_)
   ·refine bad ?_ H5 t5
    have e:hicB k l 1=false:=by
     unfold hicB
     rw [show decide (k.pl 1 < l.far 1)=false from decide_eq_false c2,Bool.false_and]
    rw [e]
    simp
   have hh:hicB k l 1=true:=by
    unfold hicB
    rw [show decide (l.pl 1 < k.far 1)=true from decide_eq_true c,show decide (k.pl 1 < l.far 1)=true from decide_eq_true c2]
    rfl
   exact ⟨_,rfl,t5,fun _=>i1 (by omega),fun _=>hh⟩
 ·rintro σ1 H1 ⟨r3,rfl,sm,i1,i2⟩
  have z:=q H1 sm
  rw [i1 (by decide),i2 (by decide)] at z
  exact z
noncomputable def Yc (K:PySem.W.Frag):Sp:=fun vs H Q _=>∃ (b:Addr) (n:Int) (rp r0 r1:Addr) (R:Rat × Rat),vs=[.ref b,.ref rp]/\H b=some (.lst [.int n])/\SqT K H rp [.ref r0,.ref r1]/\FQ K H r0 R.1/\FQ K H r1 R.2/\RmQ R∧
 ∀ (f:Addr) (xs:List V) (gs:List Bq) (n':Int) (H':Hp),But b H H'->H' b=some (.lst [.int n'])->f≠b->H f=none->H' f=some (.lst xs)->Al2 (BqH K 1990 H') xs gs->1<=gs.length->BxsQ R gs->Q (.ref f) H'
theorem zh:FnScope ["box","room","found","bottom","k","wide","high","left","low","right","up","weight","one"] ["box","room"] (zD (top 80)):=⟨rfl,rfl,rfl,by decide+kernel,rfl,by decide+kernel,by decide+kernel⟩
theorem ok_law_boxes (D:Df K mg "_law_boxes" (top 80) ["box","room"]) (T:Tx K mg C) (F_law_take:Fn P w K mg base 1 "_law_take" ["box","many"] spTake) (F_law_fit:Fn P w K mg base 1 "_law_fit" ["top","bottom"] (ye K)) (F_law_less:Fn P w K mg base 1 "_law_less" ["one","other"] (ja K)) (F_law_plus:Fn P w K mg base 2 "_law_plus" ["one","other"] (yg K)) (F_law_apart:Fn P w K mg base 3 "_law_apart" ["one","other"] (jy K)):Fn P w K mg base 4 "_law_boxes" ["box","room"] (Yc K):=by
 refine D.ok0 zh (fun vs H Q E h=>?_) (fun f cdv A outer s H vs Q E hr h=>?_)
 ·obtain ⟨b,n,rp,r0,r1,R,rfl,_⟩:=h
  rfl
 obtain ⟨b,n,rp,r0,r1,R,rfl,hb,hrm,gr0,gr1,rmq,q⟩:=h
 have dr0:FB 1990 R.1:=rmq.2.2.1.f42
 have dr1:FB 1990 R.2:=rmq.2.2.2.f42
 refine ⟨_,(zE (zM (i:=2) zh.nd rfl (Or.inl rfl) (yy zC))
   (zE (zM (i:=3) zh.nd rfl (Or.inl rfl) (zH yb (yy (zA zB (zA zB (zA zB (zA zB zC))))) (zI F_law_take (by decide) hr (by rfl) zF (zA (pv 0) (zA zB zC))) (fun _ _=>rfl)))
   (zE (zr PassesOwn.never rfl (yh (by rfl) T.b_range (zA (zN zj zB (zI F_law_take (by decide) hr (by rfl) zF (zA (pv 0) (zA zB zC)))) zC)) (zd (i:=4) zh.nd rfl (Or.inl rfl)) (zE (zM (i:=5) zh.nd rfl (Or.inl rfl) (zI F_law_fit (by decide) hr (by rfl) zF (zA (zN zj zB (zI F_law_take (by decide) hr (by rfl) zF (zA (pv 0) (zA (zN zb zB (pv 3)) zC)))) (zA (pv 3) zC))))
   (zE (zM (i:=6) zh.nd rfl (Or.inl rfl) (zI F_law_fit (by decide) hr (by rfl) zF (zA (zN zj zB (zI F_law_take (by decide) hr (by rfl) zF (zA (pv 0) (zA (zN zb zB (pv 3)) zC)))) (zA (pv 3) zC))))
   (zE (zM (i:=7) zh.nd rfl (Or.inl rfl) (zI F_law_fit (by decide) hr (by rfl) zF (zA (zI F_law_take (by decide) hr (by rfl) zF (zA (pv 0) (zA (zN zb zB (pv 3)) zC))) (zA (pv 3) zC))))
   (zE (zM (i:=8) zh.nd rfl (Or.inl rfl) (zI F_law_fit (by decide) hr (by rfl) zF (zA (zI F_law_take (by decide) hr (by rfl) zF (zA (pv 0) (zA (zN zb zB (pv 3)) zC))) (zA (pv 3) zC))))
   (zE (zM (i:=9) zh.nd rfl (Or.inl rfl) (zI F_law_fit (by decide) hr (by rfl) zF (zA (zN ZY (zI F_law_take (by decide) hr (by rfl) zF (zA (pv 0) (zA zB zC))) zB) (zA (zH yb (yy (zA zB (zA zB (zA zB zC)))) (zI F_law_take (by decide) hr (by rfl) zF (zA (pv 0) (zA zB zC))) (fun _ _=>rfl)) zC))))
   (zE (zM (i:=10) zh.nd rfl (Or.inl rfl) (zI F_law_fit (by decide) hr (by rfl) zF (zA (zN ZY (zI F_law_take (by decide) hr (by rfl) zF (zA (pv 0) (zA zB zC))) zB) (zA (zH yb (yy (zA zB (zA zB (zA zB zC)))) (zI F_law_take (by decide) hr (by rfl) zF (zA (pv 0) (zA zB zC))) (fun _ _=>rfl)) zC))))
   (zE (zM (i:=11) zh.nd rfl (Or.inl rfl) (zN zj zB (zI F_law_take (by decide) hr (by rfl) zF (zA (pv 0) (zA (zH yb (yy (zA zB (zA zB (zA zB zC)))) (zI F_law_take (by decide) hr (by rfl) zF (zA (pv 0) (zA zB zC))) (fun _ _=>rfl)) zC)))))
   (zE (zM (i:=12) zh.nd rfl (Or.inr rfl) (zV (zA (pv 7) (zA (pv 8) (zA (pv 5) (zA (pv 6) (zA (pv 9) (zA (pv 10) (zA (pv 11) zC)))))))))
   (zG (ze (j8 (z9 (zf (zI F_law_less (by decide) hr (by rfl) zF (zA (zH ix_tup (pv 1) zB (fun _ _=>rfl)) (zA (zI F_law_plus (by decide) hr (by rfl) zF (zA (pv 7) (zA (pv 5) zC))) zC))) (fun _=>rfl))) (jF (z9 (zf (zI F_law_less (by decide) hr (by rfl) zF (zA (zH ix_tup (pv 1) zB (fun _ _=>rfl)) (zA (zI F_law_plus (by decide) hr (by rfl) zF (zA (pv 8) (zA (pv 6) zC))) zC))) (fun _=>rfl))))).pt (zG (ze (@PW.pt _ _ _ (j8 (zR Zy (zW yD (by rfl) T.b_len PyProof.Rows.Boot.«len» (zA (pv 2) zC)) zB (zT _)) (jF (zf (zW (YC (K:=K) rfl rfl) (by rfl) T.b_all PyProof.Rows.Boot.«all» (zA (@Zg _ _ _ _ _ _ _ _ _ _ ["one"] [12] rfl (zw (pv 2)) rfl (by decide) rfl (by decide) rfl (by decide) (je (j:=12) rfl rfl rfl rfl (.inl rfl)) (fun y c h=>h) (ZR rfl) (fun C z Hc fp=>(zI F_law_apart (by decide) hr (by rfl) zF (zA (pv 1) (zA (pv 0) zC)))) (fun _=>rfl)) zC)) (fun _=>rfl))))) (zG (y3 (pe_bm PySem.F.plainAttrs_list PySem.F.slot_list_append PySem.F.type_list_append Yv (pv 2) (zA (pv 12) zC)))) zS)) zS)))))))))))
   (zE (@ze _ _ _ _ _ _ _ _ (zR (op_eqNil (K:=K) rfl (u100 hr)) (pv 2) (yy zC) (zT _)) (@zG _ _ _ (@zL _ _ _ _ (@pe_lst1 _ _ _ _ _ _ (@pe_tup7 _ _ _ _ _ _ _ _ _ _ _ _ _ _ _ _ _ _ _ _ _ _ _ _ _ _ _ _ _ _ (@Zp _ _ _ _ _ _ _ _ _) (@Zp _ _ _ _ _ _ _ _ _) (@Zp _ _ _ _ _ _ _ _ _) (@Zp _ _ _ _ _ _ _ _ _) (@Zp _ _ _ _ _ _ _ _ _) (@Zp _ _ _ _ _ _ _ _ _))))) zS)
   (zG (zL (pv 2))))))),?_⟩
 have sm9:∀ i:Int,-(2 ^ 64) < i->i < 2 ^ 64->Bd 9000 i:=fun i h1 h2=>(Bd.small h1 h2).mono (by decide)
 refine ⟨by show 0<=sizeLine; decide,?_⟩
 intro p1 n1
 obtain ⟨H1,q1,s1,e1⟩:=newO n1 (.lst [])
 rw [q1]
 clear q1
 have nfb:p1≠b:=Ne.symm (zO hb n1)
 have nf0:=n1
 refine ⟨by show 4<=sizeLine; decide,?_⟩
 intro p2 n2
 obtain ⟨H2,q2,s2,e2⟩:=newO n2 (.lst [.int 1,.int 1,.int 2,.int 3])
 rw [q2]
 clear q2
 have hb2:=s2 _ _ (s1 _ _ hb)
 have nl:p2≠b:=Ne.symm (zO (s1 _ _ hb) n2)
 refine ⟨_,rfl,b,4,n,rfl,hb2,by decide,sm9 _ (by decide) (by decide),fun d3 n3 H3 u3 v3 s3 hb3=>?_⟩
 obtain ⟨bt,ebt,mbt⟩:=JH [1,1,2,3] d3 u3 v3
 have bbt:1<=bt/\bt<=3:=(show ∀ z∈([1,1,2,3]:List Int),1<=z/\z<=3 by decide) bt mbt
 refine ⟨p2,_,_,_,rfl,rfl,SqL.of (s3 _ _ nl e2),ebt,?_⟩
 refine ⟨_,rfl,b,9,n3,rfl,hb3,by decide,sm9 _ (by decide) (by decide),fun d4 n4 H4 u4 v4 s4 hb4=>?_⟩
 have s14:But b H H4:=(But.of (s1.trans s2)).trans (s3.trans s4)
 refine ⟨_,_,rfl,rfl,_,rfl,by omega,by omega,yC (n:=(1+d4).toNat) (fun i σ1 H'=>∃ (r4 r5 r6 r7 r8 r9 r10 r11 r12:Option V) (xs:List V) (gs:List Bq) (nb:Int),σ1=[some (.ref b),some (.ref rp),some (.ref p1),some (.int bt),r4,r5,r6,r7,r8,r9,r10,r11,r12]/\But b H H'/\H' b=some (.lst [.int nb])/\H' p1=some (.lst xs)/\Al2 (BqH K 1990 H') xs gs/\BxsQ R gs)
  ⟨_,_,_,_,_,_,_,_,_,[],[],n4,rfl,s14,hb4,s4 _ _ nfb (s3 _ _ nfb (s2 _ _ e1)),trivial,bxs_nil⟩ ?_ ?_⟩
 ·rintro i σ1 H5 hi5 ⟨r4,r5,r6,r7,r8,r9,r10,r11,r12,xs,gs,nb,rfl,s5,hb5,hf5,al5,bq⟩
  have hrm5:SqT K H5 rp [.ref r0,.ref r1]:=But.tup s5 hb hrm
  have gr05:=But.tup s5 hb gr0
  have gr15:=But.tup s5 hb gr1
  have lxg:=Al2.len al5
  refine ⟨_,rfl,_,rfl,_,_,rfl,rfl,((Bd.small (i:=(3:Int)) (by decide) (by decide)).ok (Bd.small (i:=bt) (by omega) (by omega)) (by decide)),_,_,_,rfl,hb5,(by first|omega|exact Int.mul_pos (by omega) (by omega)),((Bd.mul (Bd.small (i:=(3:Int)) (by decide) (by decide)) (Bd.small (i:=bt) (by omega) (by omega))).mono (by decide)),fun d500 n500 H500 lo500 hi500 s500 hb500=>?_⟩
  refine ⟨_,_,rfl,rfl,_,rfl,_,_,rfl,((Bd.small (i:=bt) (by omega) (by omega)).mono (by decide)),(by omega),fun p_r501 H501 s501 g_r501=>?_⟩
  have hB502:=s501 _ _ hb500
  have d_r501:FB 65 (Rat.divInt (((1:Int)+d500)) bt):=(FB.mono (FB.fit (by omega) ((Bd.add ((Bd.small (i:=(1:Int)) (by decide) (by decide)).mono (n:=64) (by decide)) ((Bd.small (i:=d500) (by omega) (by omega)).mono (n:=64) (by decide))).mono (n:=65) (by decide)) ((Bd.small (i:=bt) (by omega) (by omega)).mono (n:=65) (by decide))) (by decide))
  refine ⟨_,rfl,_,rfl,_,_,rfl,rfl,((Bd.small (i:=(3:Int)) (by decide) (by decide)).ok (Bd.small (i:=bt) (by omega) (by omega)) (by decide)),_,_,_,rfl,hB502,(by first|omega|exact Int.mul_pos (by omega) (by omega)),((Bd.mul (Bd.small (i:=(3:Int)) (by decide) (by decide)) (Bd.small (i:=bt) (by omega) (by omega))).mono (by decide)),fun d503 n503 H503 lo503 hi503 s503 hb503=>?_⟩
  refine ⟨_,_,rfl,rfl,_,rfl,_,_,rfl,((Bd.small (i:=bt) (by omega) (by omega)).mono (by decide)),(by omega),fun p_r504 H504 s504 g_r504=>?_⟩
  have hB505:=s504 _ _ hb503
  have d_r504:FB 65 (Rat.divInt (((1:Int)+d503)) bt):=(FB.mono (FB.fit (by omega) ((Bd.add ((Bd.small (i:=(1:Int)) (by decide) (by decide)).mono (n:=64) (by decide)) ((Bd.small (i:=d503) (by omega) (by omega)).mono (n:=64) (by decide))).mono (n:=65) (by decide)) ((Bd.small (i:=bt) (by omega) (by omega)).mono (n:=65) (by decide))) (by decide))
  refine ⟨_,rfl,_,rfl,_,_,rfl,rfl,((Bd.small (i:=(12:Int)) (by decide) (by decide)).ok (Bd.small (i:=bt) (by omega) (by omega)) (by decide)),_,_,_,rfl,hB505,(by first|omega|exact Int.mul_pos (by omega) (by omega)),((Bd.mul (Bd.small (i:=(12:Int)) (by decide) (by decide)) (Bd.small (i:=bt) (by omega) (by omega))).mono (by decide)),fun d506 n506 H506 lo506 hi506 s506 hb506=>?_⟩
  refine ⟨_,rfl,_,_,rfl,((Bd.small (i:=bt) (by omega) (by omega)).mono (by decide)),(by omega),fun p_r507 H507 s507 g_r507=>?_⟩
  have hB508:=s507 _ _ hb506
  have d_r507:FB 64 (Rat.divInt d506 bt):=(FB.mono (FB.fit (by omega) ((Bd.small (i:=d506) (by omega) (by omega)).mono (n:=64) (by decide)) ((Bd.small (i:=bt) (by omega) (by omega)).mono (n:=64) (by decide))) (by decide))
  refine ⟨_,rfl,_,rfl,_,_,rfl,rfl,((Bd.small (i:=(10:Int)) (by decide) (by decide)).ok (Bd.small (i:=bt) (by omega) (by omega)) (by decide)),_,_,_,rfl,hB508,(by first|omega|exact Int.mul_pos (by omega) (by omega)),((Bd.mul (Bd.small (i:=(10:Int)) (by decide) (by decide)) (Bd.small (i:=bt) (by omega) (by omega))).mono (by decide)),fun d509 n509 H509 lo509 hi509 s509 hb509=>?_⟩
  refine ⟨_,rfl,_,_,rfl,((Bd.small (i:=bt) (by omega) (by omega)).mono (by decide)),(by omega),fun p_r510 H510 s510 g_r510=>?_⟩
  have hB511:=s510 _ _ hb509
  have d_r510:FB 64 (Rat.divInt d509 bt):=(FB.mono (FB.fit (by omega) ((Bd.small (i:=d509) (by omega) (by omega)).mono (n:=64) (by decide)) ((Bd.small (i:=bt) (by omega) (by omega)).mono (n:=64) (by decide))) (by decide))
  refine ⟨_,rfl,_,_,_,rfl,hB511,(by decide+kernel),((Bd.small (i:=(9:Int)) (by decide) (by decide)).mono (by decide)),fun d512 n512 H512 lo512 hi512 s512 hb512=>?_⟩
  refine ⟨_,_,rfl,rfl,by show 3<=sizeLine; decide,?_⟩
  intro p513 n513
  obtain ⟨H513,q513,s513,e513⟩:=newO n513 (.lst [.int ((1:Int)),.int ((1:Int)),.int ((2:Int))])
  rw [q513]
  clear q513
  have hB514:=s513 _ _ hb512
  have h513:=SqL.of (K:=K) e513
  have ap513:p513≠b:=fun z=>by rw [z,hb512] at n513; cases n513
  refine ⟨_,rfl,_,_,_,rfl,hB514,(by decide+kernel),((Bd.small (i:=(3:Int)) (by decide) (by decide)).mono (by decide)),fun d515 n515 H515 lo515 hi515 s515 hb515=>?_⟩
  obtain ⟨v516,ev516,m517⟩:=JH ([(1:Int),(1:Int),(2:Int)]:List Int) d515 (by omega) (by show _ < (3:Int); omega)
  have bv516:1<=v516/\v516<=2:=(show ∀ z∈([(1:Int),(1:Int),(2:Int)]:List Int),1<=z/\z<=2 by decide+kernel) v516 m517
  replace h513:=(But.seq s515 ap513 h513)
  refine ⟨p513,_,_,_,rfl,rfl,h513,ev516,_,_,rfl,((Bd.small (i:=v516) (by omega) (by omega)).mono (by decide)),(by omega),fun p_r518 H518 s518 g_r518=>?_⟩
  have hB519:=s518 _ _ hb515
  have d_r518:FB 65 (Rat.divInt ((d512 - (4:Int))) v516):=(FB.mono (FB.fit (by omega) ((Bd.sub ((Bd.small (i:=d512) (by omega) (by omega)).mono (n:=64) (by decide)) ((Bd.small (i:=(4:Int)) (by decide) (by decide)).mono (n:=64) (by decide))).mono (n:=65) (by decide)) ((Bd.small (i:=v516) (by omega) (by omega)).mono (n:=65) (by decide))) (by decide))
  refine ⟨_,rfl,_,_,_,rfl,hB519,(by decide+kernel),((Bd.small (i:=(9:Int)) (by decide) (by decide)).mono (by decide)),fun d520 n520 H520 lo520 hi520 s520 hb520=>?_⟩
  refine ⟨_,_,rfl,rfl,by show 3<=sizeLine; decide,?_⟩
  intro p521 n521
  obtain ⟨H521,q521,s521,e521⟩:=newO n521 (.lst [.int ((1:Int)),.int ((1:Int)),.int ((2:Int))])
  rw [q521]
  clear q521
  have hB522:=s521 _ _ hb520
  have h521:=SqL.of (K:=K) e521
  have ap521:p521≠b:=fun z=>by rw [z,hb520] at n521; cases n521
  refine ⟨_,rfl,_,_,_,rfl,hB522,(by decide+kernel),((Bd.small (i:=(3:Int)) (by decide) (by decide)).mono (by decide)),fun d523 n523 H523 lo523 hi523 s523 hb523=>?_⟩
  obtain ⟨v524,ev524,m525⟩:=JH ([(1:Int),(1:Int),(2:Int)]:List Int) d523 (by omega) (by show _ < (3:Int); omega)
  have bv524:1<=v524/\v524<=2:=(show ∀ z∈([(1:Int),(1:Int),(2:Int)]:List Int),1<=z/\z<=2 by decide+kernel) v524 m525
  replace h521:=(But.seq s523 ap521 h521)
  refine ⟨p521,_,_,_,rfl,rfl,h521,ev524,_,_,rfl,((Bd.small (i:=v524) (by omega) (by omega)).mono (by decide)),(by omega),fun p_r526 H526 s526 g_r526=>?_⟩
  have hB527:=s526 _ _ hb523
  have d_r526:FB 65 (Rat.divInt ((d520 - (4:Int))) v524):=(FB.mono (FB.fit (by omega) ((Bd.sub ((Bd.small (i:=d520) (by omega) (by omega)).mono (n:=64) (by decide)) ((Bd.small (i:=(4:Int)) (by decide) (by decide)).mono (n:=64) (by decide))).mono (n:=65) (by decide)) ((Bd.small (i:=v524) (by omega) (by omega)).mono (n:=65) (by decide))) (by decide))
  refine ⟨_,rfl,by show 3<=sizeLine; decide,?_⟩
  intro p528 n528
  obtain ⟨H528,q528,s528,e528⟩:=newO n528 (.lst [.int ((4:Int)),.int ((4:Int)),.int ((1000:Int))])
  rw [q528]
  clear q528
  have hB529:=s528 _ _ hB527
  have h528:=SqL.of (K:=K) e528
  have ap528:p528≠b:=fun z=>by rw [z,hB527] at n528; cases n528
  refine ⟨_,rfl,_,_,_,rfl,hB529,(by decide+kernel),((Bd.small (i:=(3:Int)) (by decide) (by decide)).mono (by decide)),fun d530 n530 H530 lo530 hi530 s530 hb530=>?_⟩
  obtain ⟨v531,ev531,m532⟩:=JH ([(4:Int),(4:Int),(1000:Int)]:List Int) d530 (by omega) (by show _ < (3:Int); omega)
  have bv531:4<=v531/\v531<=1000:=(show ∀ z∈([(4:Int),(4:Int),(1000:Int)]:List Int),4<=z/\z<=1000 by decide+kernel) v531 m532
  replace h528:=(But.seq s530 ap528 h528)
  refine ⟨p528,_,_,_,rfl,rfl,h528,ev531,_,_,_,rfl,hb530,(by first|omega|exact Int.mul_pos (by omega) (by omega)),((Bd.small (i:=v531) (by omega) (by omega)).mono (by decide)),fun d533 n533 H533 lo533 hi533 s533 hb533=>?_⟩
  refine ⟨_,_,rfl,rfl,?_⟩
  replace g_r507:=(But.tup s533 hb530 (But.tup s530 hB529 (Kw.Same.tup s528 (Kw.Same.tup s526 (But.tup s523 hB522 (Kw.Same.tup s521 (But.tup s520 hB519 (Kw.Same.tup s518 (But.tup s515 hB514 (Kw.Same.tup s513 (But.tup s512 hB511 (Kw.Same.tup s510 (But.tup s509 hB508 g_r507)))))))))))))
  replace g_r510:=(But.tup s533 hb530 (But.tup s530 hB529 (Kw.Same.tup s528 (Kw.Same.tup s526 (But.tup s523 hB522 (Kw.Same.tup s521 (But.tup s520 hB519 (Kw.Same.tup s518 (But.tup s515 hB514 (Kw.Same.tup s513 (But.tup s512 hB511 g_r510)))))))))))
  replace g_r501:=(But.tup s533 hb530 (But.tup s530 hB529 (Kw.Same.tup s528 (Kw.Same.tup s526 (But.tup s523 hB522 (Kw.Same.tup s521 (But.tup s520 hB519 (Kw.Same.tup s518 (But.tup s515 hB514 (Kw.Same.tup s513 (But.tup s512 hB511 (Kw.Same.tup s510 (But.tup s509 hB508 (Kw.Same.tup s507 (But.tup s506 hB505 (Kw.Same.tup s504 (But.tup s503 hB502 g_r501)))))))))))))))))
  replace g_r504:=(But.tup s533 hb530 (But.tup s530 hB529 (Kw.Same.tup s528 (Kw.Same.tup s526 (But.tup s523 hB522 (Kw.Same.tup s521 (But.tup s520 hB519 (Kw.Same.tup s518 (But.tup s515 hB514 (Kw.Same.tup s513 (But.tup s512 hB511 (Kw.Same.tup s510 (But.tup s509 hB508 (Kw.Same.tup s507 (But.tup s506 hB505 g_r504)))))))))))))))
  replace g_r518:=(But.tup s533 hb530 (But.tup s530 hB529 (Kw.Same.tup s528 (Kw.Same.tup s526 (But.tup s523 hB522 (Kw.Same.tup s521 (But.tup s520 hB519 g_r518)))))))
  replace g_r526:=(But.tup s533 hb530 (But.tup s530 hB529 (Kw.Same.tup s528 g_r526)))
  replace hrm5:=(But.tup s533 hb530 (But.tup s530 hB529 (Kw.Same.tup s528 (Kw.Same.tup s526 (But.tup s523 hB522 (Kw.Same.tup s521 (But.tup s520 hB519 (Kw.Same.tup s518 (But.tup s515 hB514 (Kw.Same.tup s513 (But.tup s512 hB511 (Kw.Same.tup s510 (But.tup s509 hB508 (Kw.Same.tup s507 (But.tup s506 hB505 (Kw.Same.tup s504 (But.tup s503 hB502 (Kw.Same.tup s501 (But.tup s500 hb5 hrm5)))))))))))))))))))
  replace gr05:=(But.tup s533 hb530 (But.tup s530 hB529 (Kw.Same.tup s528 (Kw.Same.tup s526 (But.tup s523 hB522 (Kw.Same.tup s521 (But.tup s520 hB519 (Kw.Same.tup s518 (But.tup s515 hB514 (Kw.Same.tup s513 (But.tup s512 hB511 (Kw.Same.tup s510 (But.tup s509 hB508 (Kw.Same.tup s507 (But.tup s506 hB505 (Kw.Same.tup s504 (But.tup s503 hB502 (Kw.Same.tup s501 (But.tup s500 hb5 gr05)))))))))))))))))))
  replace gr15:=(But.tup s533 hb530 (But.tup s530 hB529 (Kw.Same.tup s528 (Kw.Same.tup s526 (But.tup s523 hB522 (Kw.Same.tup s521 (But.tup s520 hB519 (Kw.Same.tup s518 (But.tup s515 hB514 (Kw.Same.tup s513 (But.tup s512 hB511 (Kw.Same.tup s510 (But.tup s509 hB508 (Kw.Same.tup s507 (But.tup s506 hB505 (Kw.Same.tup s504 (But.tup s503 hB502 (Kw.Same.tup s501 (But.tup s500 hb5 gr15)))))))))))))))))))
  have sC:But b H5 H533:=(s500.trans ((But.of s501).trans (s503.trans ((But.of s504).trans (s506.trans ((But.of s507).trans (s509.trans ((But.of s510).trans (s512.trans ((But.of s513).trans (s515.trans ((But.of s518).trans (s520.trans ((But.of s521).trans (s523.trans ((But.of s526).trans ((But.of s528).trans (s530.trans s533))))))))))))))))))
  have hfC:=sC _ _ nfb hf5
  have alC:Al2 (BqH K 1990 H533) xs gs:=bqs_but al5 sC hb5
  have pw:(0:Rat) < (Rat.divInt (((1:Int)+d500)) bt):=Yh (by omega) (by omega)
  have ph:(0:Rat) < (Rat.divInt (((1:Int)+d503)) bt):=Yh (by omega) (by omega)
  refine ⟨_,rfl,_,rfl,_,rfl,_,rfl,_,rfl,_,rfl,_,rfl,by show 7<=sizeLine; decide,?_⟩
  intro p900 n900
  obtain ⟨H900,q900,s900,e900⟩:=newO n900 (.tup [.ref p_r507,.ref p_r510,.ref p_r501,.ref p_r504,.ref p_r518,.ref p_r526,.int (((1:Int)+d533))])
  rw [q900]
  clear q900
  obtain ⟨nq,enq⟩:∃ nq:Bq,nq=⟨(Rat.divInt d506 bt),(Rat.divInt d509 bt),(Rat.divInt (((1:Int)+d500)) bt),(Rat.divInt (((1:Int)+d503)) bt),(Rat.divInt ((d512 - (4:Int))) v516),(Rat.divInt ((d520 - (4:Int))) v524),some (((1:Int)+d533))⟩:=⟨_,rfl⟩
  have w1:1<=(((1:Int)+d533))/\(((1:Int)+d533))<=1000:=⟨by omega,by omega⟩
  have rtb:RtB 42 20 nq:=by
   rw [enq]
   exact ⟨rt42 (by omega) (by omega) (by omega),rt42 (by omega) (by omega) (by omega),rt42 (by omega) (by omega) (by omega),rt42 (by omega) (by omega) (by omega),rt42 (by omega) (by omega) (by omega),rt42 (by omega) (by omega) (by omega)⟩
  have mq:∃ m:Int,nq.m=some m/\1<=m/\m<=1000:=by
   rw [enq]
   exact ⟨_,rfl,w1⟩
  have one:BqH K 1990 H900 (.ref p900) nq:=by
   have f42:(FB 1990 nq.x/\FB 1990 nq.y/\FB 1990 nq.w/\FB 1990 nq.h/\FB 1990 nq.u/\FB 1990 nq.v):=⟨rtb.1.f42,rtb.2.1.f42,rtb.2.2.1.f42,rtb.2.2.2.1.f42,rtb.2.2.2.2.1.f42,rtb.2.2.2.2.2.f42⟩
   rw [enq] at f42 ⊢
   exact ⟨p900,_,_,_,_,_,_,rfl,SqT.of e900,⟨Kw.Same.tup s900 g_r507,Kw.Same.tup s900 g_r510,Kw.Same.tup s900 g_r501,Kw.Same.tup s900 g_r504,Kw.Same.tup s900 g_r518,Kw.Same.tup s900 g_r526⟩,f42,fun m e=>by cases e; exact w1⟩
  have inv:∀ H',Same H900 H'->∃ m:Int,But b H H'/\H' b=some (.lst [.int m])/\H' p1=some (.lst xs)/\Al2 (BqH K 1990 H') xs gs:=fun H' sm=>by
   have s7:=s900.trans sm
   exact ⟨_,s5.trans (sC.trans (.of s7)),s7 _ _ hb533,s7 _ _ hfC,zQ alC s7⟩
  have hrm7:=Kw.Same.tup s900 hrm5
  refine ⟨_,rfl,rp,_,_,_,rfl,rfl,hrm7,rfl,_,rfl,_,rfl,_,_,_,_,rfl,Kw.Same.tup s900 g_r507,FB.mono d_r507 (by decide),Kw.Same.tup s900 g_r501,FB.mono d_r501 (by decide),fun r71 H71 s71 e71=>?_⟩
  refine ⟨_,_,_,_,rfl,Kw.Same.tup (s900.trans s71) gr05,dr0.mono (by decide),e71,(FB.add d_r507 d_r501).mono (by decide),fun H72 s72=>⟨_,rfl,?_⟩⟩
  have t72:=s71.trans s72
  refine ZV (fun cA=>?_) (fun cA=>?_)
  rotate_left
  ·refine iteF ?_
   obtain ⟨m,z1,z2,z3,z4⟩:=inv _ t72
   exact ⟨_,_,_,_,_,_,_,_,_,xs,gs,m,rfl,z1,z2,z3,z4,bq⟩
  have hrm72:=Kw.Same.tup t72 hrm7
  have u72:=s900.trans t72
  refine ⟨_,rfl,rp,_,_,_,rfl,rfl,hrm72,rfl,_,rfl,_,rfl,_,_,_,_,rfl,Kw.Same.tup u72 g_r510,FB.mono d_r510 (by decide),Kw.Same.tup u72 g_r504,FB.mono d_r504 (by decide),fun r73 H73 s73 e73=>?_⟩
  refine ⟨_,_,_,_,rfl,Kw.Same.tup (u72.trans s73) gr15,dr1.mono (by decide),e73,(FB.add d_r510 d_r504).mono (by decide),fun H74 s74=>⟨_,rfl,?_⟩⟩
  have t74:=t72.trans (s73.trans s74)
  refine ZV (fun cB=>?_) (fun cB=>?_)
  rotate_left
  ·obtain ⟨m,z1,z2,z3,z4⟩:=inv _ t74
   exact ⟨_,_,_,_,_,_,_,_,_,xs,gs,m,rfl,z1,z2,z3,z4,bq⟩
  obtain ⟨m74,b74,hb74,hf74,al74⟩:=inv _ t74
  have l6:=bq.1
  refine ⟨_,rfl,_,_,rfl,.inl ⟨_,SqL.of hf74,rfl⟩,_,_,rfl,rfl,_,rfl,?_⟩
  refine zc (fun c6=>?_) (fun c6=>?_)
  rotate_left
  ·exact iteF ⟨_,_,_,_,_,_,_,_,_,xs,gs,m74,rfl,b74,hb74,hf74,al74,bq⟩
  refine ⟨_,rfl,p1,rfl,⟨_,SqL.of hf74⟩,jH (K:=K) (xs:=xs) (fun i ys H'=>Same H74 H'/\i<=gs.length/\ys=((gs.take i).map fun c=>!(hicB nq c 0 && hicB nq c 1)).map V.bl) ⟨Same.refl _,Nat.zero_le _,rfl⟩ (by rw [sizeLine_eq]; omega) (fun i ys H' ⟨_,l,e⟩=>by rw [e,List.length_map,List.length_map,List.length_take]; omega) (fun i ys H' ⟨g,_⟩=>SqL.of (g _ _ hf74)) ?_ ?_⟩
  ·rintro i y ys H' Q' hy ⟨g,li,rfl⟩ kk
   obtain ⟨kb,hkb,hbx⟩:=Al2.get al74 hy
   have lt:i < gs.length:=(List.getElem?_eq_some_iff.mp hkb).1
   refine ⟨_,rfl,_,rfl,_,_,_,kb,1990,rfl,one.same (t74.trans g),hbx.same g,by decide,fun H2' s2'=>kk _ _ ⟨g.trans s2',lt,by rw [zZ hkb,List.map_append,List.map_append]; rfl⟩⟩
  ·rintro ys H' ⟨g,_,rfl⟩
   rw [lxg,List.take_length]
   intro p75 n75
   obtain ⟨H75,q75,s75,e75⟩:=newO n75 (.lst ((gs.map fun c=>!(hicB nq c 0 && hicB nq c 1)).map V.bl))
   rw [q75]
   clear q75
   have t75:=t74.trans (g.trans s75)
   obtain ⟨m75,b75,hb75,hf75,al75⟩:=inv _ t75
   refine ⟨p75,_,rfl,SqL.of e75,_,rfl,?_⟩
   generalize hca:List.all _ id=ca
   cases ca with
   |false=>exact iteF ⟨_,_,_,_,_,_,_,_,_,xs,gs,m75,rfl,b75,hb75,hf75,al75,bq⟩
   |true=>
    refine iteT ⟨_,rfl,.inl ⟨rfl,_,SqL.of hf75⟩,_,rfl,p1,_,_,rfl,rfl,hf75,by rw [sizeLine_eq]; omega,?_⟩
    obtain ⟨H76,q76,s76,e76⟩:=newB (H:=H75) (p:=p1) (.lst (xs++[.ref p900]))
    dsimp only
    rw [q76]
    clear q76
    have all76:But b H H76:=fun a o na ho=>s76 a o (zO ho nf0) (b75 a o na ho)
    have apt:∀ c∈gs,(!(hicB nq c 0 && hicB nq c 1))=true:=fun c hc=>List.all_eq_true.mp hca _ (List.mem_map.mpr ⟨c,hc,rfl⟩)
    have inr:InR R nq:=by
     rw [enq]
     exact ⟨pw,ph,q_divnn (by omega) (by omega),q_divnn (by omega) (by omega),Rat.not_lt.mp cA,Rat.not_lt.mp cB⟩
    exact ⟨_,_,_,_,_,_,_,_,_,xs++[.ref p900],gs++[nq],m75,rfl,all76,s76 _ _ (Ne.symm nfb) hb75,e76,bqs_but (Al2.snoc al75 (one.same t75)) s76 hf75,bxs_snoc bq (by omega) inr rtb mq apt⟩
 ·rintro σ1 H5 ⟨r4,r5,r6,r7,r8,r9,r10,r11,r12,xs,gs,nb,rfl,s5,hb5,hf5,al5,bq⟩
  refine ⟨_,rfl,by show 0<=sizeLine; decide,?_⟩
  intro p80 n80
  obtain ⟨H80,q80,s80,e80⟩:=newO n80 (.lst [])
  rw [q80]
  clear q80
  refine ⟨p1,p80,xs,rfl,rfl,SqL.of (s80 _ _ hf5),SqL.of e80,_,rfl,?_⟩
  cases xs with
  |nil=>
   refine iteT ?_
   refine ⟨by show 2<=sizeLine; decide,?_⟩
   intro p81 n81
   obtain ⟨H81,q81,s81,e81⟩:=newO n81 (.tup [.int 1,.int 1])
   rw [q81]
   clear q81
   refine ⟨by show 2<=sizeLine; decide,?_⟩
   intro p82 n82
   obtain ⟨H82,q82,s82,e82⟩:=newO n82 (.tup [.int 1,.int 1])
   rw [q82]
   clear q82
   refine ⟨by show 2<=sizeLine; decide,?_⟩
   intro p83 n83
   obtain ⟨H83,q83,s83,e83⟩:=newO n83 (.tup [.int 1,.int 1])
   rw [q83]
   clear q83
   refine ⟨by show 2<=sizeLine; decide,?_⟩
   intro p84 n84
   obtain ⟨H84,q84,s84,e84⟩:=newO n84 (.tup [.int 1,.int 2])
   rw [q84]
   clear q84
   refine ⟨by show 2<=sizeLine; decide,?_⟩
   intro p85 n85
   obtain ⟨H85,q85,s85,e85⟩:=newO n85 (.tup [.int 1,.int 1])
   rw [q85]
   clear q85
   refine ⟨by show 2<=sizeLine; decide,?_⟩
   intro p86 n86
   obtain ⟨H86,q86,s86,e86⟩:=newO n86 (.tup [.int 2,.int 1])
   rw [q86]
   clear q86
   refine ⟨by show 7<=sizeLine; decide,?_⟩
   intro p87 n87
   obtain ⟨H87,q87,s87,e87⟩:=newO n87 (.tup [.ref p81,.ref p82,.ref p83,.ref p84,.ref p85,.ref p86,.int 3])
   rw [q87]
   clear q87
   refine ⟨by show 1<=sizeLine; decide,?_⟩
   intro p88 n88
   obtain ⟨H88,q88,s88,e88⟩:=newO n88 (.lst [.ref p87])
   rw [q88]
   clear q88
   have t87:=s88
   have t86:=s87.trans t87
   have t85:=s86.trans t86
   have t84:=s85.trans t85
   have t83:=s84.trans t84
   have t82:=s83.trans t83
   have t81:=s82.trans t82
   have t80:=s80.trans (s81.trans t81)
   have o88:=(s80.trans (s81.trans (s82.trans (s83.trans (s84.trans (s85.trans (s86.trans s87)))))))
   have nlb:p88≠b:=Ne.symm (zO (o88 _ _ hb5) n88)
   have n0:H p88=none:=Zk s5 (yz o88 n88) nlb
   have b1:=bxs_one rmq
   obtain ⟨_,⟨r0',r1',r2',r3',r4',r5'⟩,_⟩:=b1.2.1 bx0 (by simp)
   have bx:BqH K 1990 H88 (.ref p87) bx0:=⟨p87,_,_,_,_,_,_,rfl,SqT.of (t87 _ _ e87),⟨SqT.of (t81 _ _ e81),SqT.of (t82 _ _ e82),SqT.of (t83 _ _ e83),FH.fq (FH.lit (t84 _ _ e84) (by decide) (by decide)),SqT.of (t85 _ _ e85),SqT.of (t86 _ _ e86)⟩,⟨r0'.f42,r1'.f42,r2'.f42,r3'.f42,r4'.f42,r5'.f42⟩,fun m e=>by cases e; decide⟩
   exact q p88 [.ref p87] [bx0] nb H88 (s5.trans (.of t80)) (t80 _ _ hb5) nlb n0 e88 ⟨bx,trivial⟩ (by simp) b1
  |cons x xr=>
   refine iteF ⟨_,rfl,?_⟩
   have lx:=Al2.len al5
   exact q p1 _ gs nb H80 (s5.trans (.of s80)) (s80 _ _ hb5) nfb nf0 (s80 _ _ hf5) (zQ al5 s80) (by rw [<- lx]; simp) bq
noncomputable def Jg (K:PySem.W.Frag):Sp:=fun vs H Q _=>∃ (z:V) (b:Bq) (N d:Nat),vs=[z,.int (d:Int)]/\BqH K N H z b/\N<=2390/\d<=1/\∀ (r:Addr) (H1:Hp),Same H H1->FQ K H1 r (b.far d)->Q (.ref r) H1
theorem sc_law_end:FnScope ["one","way"] ["one","way"] (zD (top 81)):=⟨rfl,rfl,rfl,by decide+kernel,rfl,by decide+kernel,by decide+kernel⟩
theorem ok_law_end (D:Df K mg "_law_end" (top 81) ["one","way"]) (T:Tx K mg C) (F_law_plus:Fn P w K mg base 2 "_law_plus" ["one","other"] (yg K)):Fn P w K mg base 3 "_law_end" ["one","way"] (Jg K):=by
 refine D.ok0 sc_law_end (fun vs H Q E h=>?_) (fun f cdv A outer s H vs Q E hr h=>?_)
 ·obtain ⟨z,b,N,d,rfl,_⟩:=h
  rfl
 obtain ⟨z,b,N,d,rfl,hz,hN,hd,k⟩:=h
 refine ⟨_,(zG (zL (zI F_law_plus (by decide) hr (by rfl) zF (zA (zH ix_tup (pv 0) (pv 1) (fun _ _=>rfl)) (zA (zH ix_tup (pv 0) (zN zj zB (pv 1)) (fun _ _=>rfl)) zC))))),?_⟩
 obtain ⟨p,a0,a1,a2,a3,a4,a5,rfl,hp,⟨g0,g1,g2,g3,g4,g5⟩,⟨d0,d1,d2,d3,d4,d5⟩,_⟩:=hz
 rcases d01 hd with rfl|rfl
 ·refine ⟨_,rfl,_,rfl,p,_,_,_,rfl,rfl,hp,rfl,_,rfl,_,rfl,_,_,rfl,rfl,p,_,_,_,rfl,rfl,hp,rfl,?_⟩
  exact ⟨_,_,_,_,rfl,g0,d0.mono (by omega),g2,d2.mono (by decide),fun r H1 s1 e1=>k r H1 s1 e1⟩
 ·refine ⟨_,rfl,_,rfl,p,_,_,_,rfl,rfl,hp,rfl,_,rfl,_,rfl,_,_,rfl,rfl,p,_,_,_,rfl,rfl,hp,rfl,?_⟩
  exact ⟨_,_,_,_,rfl,g1,d1.mono (by omega),g3,d3.mono (by decide),fun r H1 s1 e1=>k r H1 s1 e1⟩
noncomputable def Jr (K:PySem.W.Frag):Sp:=fun vs H Q _=>∃ (l p:Addr) (xs:List V) (bs:List Bq) (N M:Nat) (t:Rat),vs=[.ref l,.ref p]/\H l=some (.lst xs)/\Al2 (BqH K N H) xs bs/\bs.length<=6/\FQ K H p t/\FB 2400 t/\N<=4400/\(∀ b∈bs,FB M (atB t b).x/\FB M (atB t b).y)/\∀ (l2:Addr) (ys:List V) (H1:Hp),Same H H1->H1 l2=some (.lst ys)->Al2 (BqH K M H1) ys (bs.map (atB t))->Q (.ref l2) H1
theorem j2:FnScope ["boxes","time","found","one","place"] ["boxes","time"] (zD (top 82)):=⟨rfl,rfl,rfl,by decide+kernel,rfl,by decide+kernel,by decide+kernel⟩
theorem ok_law_led (D:Df K mg "_law_led" (top 82) ["boxes","time"]) (T:Tx K mg C) (F_law_plus:Fn P w K mg base 2 "_law_plus" ["one","other"] (yg K)) (F_law_times:Fn P w K mg base 2 "_law_times" ["one","other"] (jz K)):Fn P w K mg base 3 "_law_led" ["boxes","time"] (Jr K):=by
 refine D.ok0 j2 (fun vs H Q E h=>?_) (fun f cdv A outer s H vs Q E hr h=>?_)
 ·obtain ⟨l,p,xs,bs,N,M,t,rfl,_⟩:=h
  rfl
 obtain ⟨l,p,xs,bs,N,M,t,rfl,hl,al,l6,gt,dt,hN,fM,k⟩:=h
 refine ⟨_,(zE (zM (i:=2) j2.nd rfl (Or.inl rfl) (yy zC))
   (zE (zr PassesOwn.never rfl (zw (pv 0)) (zd (i:=3) j2.nd rfl (Or.inl rfl)) (zE (zM (i:=4) j2.nd rfl (Or.inl rfl) (zV (zA (zI F_law_plus (by decide) hr (by rfl) zF (zA (zH ix_tup (pv 3) zB (fun _ _=>rfl)) (zA (zI F_law_times (by decide) hr (by rfl) zF (zA (zH ix_tup (pv 3) zB (fun _ _=>rfl)) (zA (pv 1) zC))) zC))) (zA (zI F_law_plus (by decide) hr (by rfl) zF (zA (zH ix_tup (pv 3) zB (fun _ _=>rfl)) (zA (zI F_law_times (by decide) hr (by rfl) zF (zA (zH ix_tup (pv 3) zB (fun _ _=>rfl)) (zA (pv 1) zC))) zC))) zC))))
   (zG (y3 (pe_bm PySem.F.plainAttrs_list PySem.F.slot_list_append PySem.F.type_list_append Yv (pv 2) (zA (zN (YV (K:=K) rfl) (pv 4) (yN (ZE (K:=K) rfl) (pv 3) (yQ zB) jG)) zC))))))
   (zG (zL (pv 2))))),?_⟩
 have hz:=Al2.len al
 refine ⟨by show 0<=sizeLine; decide,?_⟩
 intro p1 n1
 obtain ⟨H1,q1,s1,e1⟩:=newO n1 (.lst [])
 rw [q1]
 clear q1
 have hl1:=s1 _ _ hl
 have nl1:l≠p1:=zO hl n1
 have nt1:NoT [p1] H1:=NoT.lst e1 NoT.nil
 refine ⟨_,rfl,l,rfl,⟨_,SqL.of hl1⟩,jW (K:=K) (xs:=xs) (fun i σ' H'=>∃ (u3 u4:Option V) (ys:List V),σ'=[some (.ref l),some (.ref p),some (.ref p1),u3,u4]/\But p1 H1 H'/\H' p1=some (.lst ys)/\Al2 (BqH K M H') ys ((bs.take i).map (atB t))) ⟨_,_,[],rfl,But.refl _,e1,trivial⟩ (by rintro _ _ _ _ ⟨_,_,_,_,g,_⟩; exact SqL.of (g _ _ nl1 hl1)) ?_ ?_⟩
 ·rintro i v σ' H2 hv ⟨u3,u4,ys,rfl,b2,hp2,al2⟩
  have bs2:Buts [p1] H1 H2:=Buts.one b2 (by simp)
  have gt2:=bs2.tup nt1 (Kw.Same.tup s1 gt)
  obtain ⟨b,hb,pv,a0,a1,a2,a3,a4,a5,rfl,h0,⟨g0,g1,g2,g3,g4,g5⟩,⟨d0,d1,d2,d3,d4,d5⟩,hm⟩:=Al2.get (yF (zQ al s1) bs2 nt1) hv
  have ft:FB 4400 t:=dt.mono (by decide)
  refine ⟨_,rfl,pv,_,_,_,rfl,rfl,h0,rfl,_,rfl,pv,_,_,_,rfl,rfl,h0,rfl,_,rfl,_,_,_,_,rfl,g4,d4.mono (by decide),gt2,ft,fun r3 H3 s3 e3=>?_⟩
  refine ⟨_,_,_,_,rfl,Kw.Same.tup s3 g0,d0.mono (by omega),e3,(d4.mul dt).mono (by decide),fun r4 H4 s4 e4=>?_⟩
  have s24:=s3.trans s4
  have h04:=Kw.Same.tup s24 h0
  refine ⟨_,rfl,pv,_,_,_,rfl,rfl,h04,rfl,_,rfl,pv,_,_,_,rfl,rfl,h04,rfl,_,rfl,_,_,_,_,rfl,Kw.Same.tup s24 g5,d5.mono (by decide),Kw.Same.tup s24 gt2,ft,fun r5 H5 s5 e5=>?_⟩
  refine ⟨_,_,_,_,rfl,Kw.Same.tup (s24.trans s5) g1,d1.mono (by omega),e5,(d5.mul dt).mono (by decide),fun r6 H6 s6 e6=>?_⟩
  refine ⟨by show 2<=sizeLine; decide,?_⟩
  intro p7 n7
  obtain ⟨H7,q7,s7,e7⟩:=newO n7 (.tup [.ref r4,.ref r6])
  rw [q7]
  clear q7
  have s27:=s24.trans (s5.trans (s6.trans s7))
  have hp7:=s27 _ _ hp2
  have h07:=Kw.Same.tup s27 h0
  refine ⟨_,rfl,.inl ⟨rfl,_,SqL.of hp7⟩,_,rfl,_,rfl,_,rfl,pv,_,rfl,h07,Z5 (n:=7) (by decide) (by decide),?_⟩
  intro p8 n8
  obtain ⟨H8,q8,s8,e8⟩:=newO n8 (.tup (cutV [.ref a0,.ref a1,.ref a2,.ref a3,.ref a4,.ref a5,wV b.m] (some 2) none))
  rw [q8]
  clear q8
  have e8':H8 p8=some (.tup [.ref a2,.ref a3,.ref a4,.ref a5,wV b.m]):=e8
  refine ⟨p7,p8,_,_,rfl,rfl,SqT.of (s8 _ _ e7),SqT.of e8',by show 7<=sizeLine; decide,fun z=>(nomatch z),fun _ z=>(nomatch z),fun _ _=>?_⟩
  intro p9 n9
  obtain ⟨H9,q9,s9,e9⟩:=newO n9 (.tup ([.ref r4,.ref r6]++[.ref a2,.ref a3,.ref a4,.ref a5,wV b.m]))
  rw [q9]
  clear q9
  have s29:=s27.trans (s8.trans s9)
  have lys:ys.length<=6:=by rw [Al2.len al2]; simp; omega
  have hp9:=s29 _ _ hp2
  refine ⟨p1,ys,_,rfl,rfl,hp9,by rw [sizeLine_eq]; omega,?_⟩
  obtain ⟨H10,q10,b10,e10⟩:=newB (H:=H9) (p:=p1) (.lst (ys++[.ref p9]))
  dsimp only
  rw [q10]
  have nt9:NoT [p1] H9:=NoT.lst hp9 NoT.nil
  have bs10:Buts [p1] H9 H10:=Buts.one b10 (by simp)
  refine ⟨_,_,_,rfl,b2.trans ((But.of s29).trans b10),e10,?_⟩
  rw [zZ hb,List.map_append]
  have f:=fM b (List.mem_of_getElem? hb)
  have nw:BqH K M H9 (.ref p9) (atB t b):=⟨p9,r4,r6,a2,a3,a4,a5,rfl,SqT.of e9,⟨Kw.Same.tup (s5.trans (s6.trans (s7.trans (s8.trans s9)))) e4,Kw.Same.tup (s7.trans (s8.trans s9)) e6,Kw.Same.tup s29 g2,Kw.Same.tup s29 g3,Kw.Same.tup s29 g4,Kw.Same.tup s29 g5⟩,⟨f.1,f.2,d2,d3,d4,d5⟩,hm⟩
  exact Al2.snoc (yF (zQ al2 s29) bs10 nt9) (nw.buts bs10 nt9)
 rintro σ' H2 ⟨u3,u4,ys,rfl,b2,hp2,al2⟩
 rw [hz,List.take_length] at al2
 have s02:Same H H2:=fun a' o ha=>b2 _ _ (zO ha n1) (s1 _ _ ha)
 exact ⟨_,rfl,k p1 ys H2 s02 hp2 al2⟩
noncomputable def YM (K:PySem.W.Frag):Sp:=fun vs H Q _=>∃ (l:Addr) (xs:List V) (bs:List Bq) (N:Nat),vs=[.ref l]/\H l=some (.lst xs)/\Al2 (BqH K N H) xs bs/\bs.length<=6/\WtB bs/\(∀ b∈bs,FB 1000 b.u/\FB 1000 b.v)/\(∀ i,i<=bs.length->FB 4000 (mgt (bs.take i)))/\∀ (r:Addr) (H1:Hp),Same H H1->FQ K H1 r (mgt bs)->Q (.ref r) H1
theorem yq:FnScope ["boxes","total","one","both"] ["boxes"] (zD (top 83)):=⟨rfl,rfl,rfl,by decide+kernel,rfl,by decide+kernel,by decide+kernel⟩
theorem ok_law_might (D:Df K mg "_law_might" (top 83) ["boxes"]) (T:Tx K mg C) (F_law_plus:Fn P w K mg base 2 "_law_plus" ["one","other"] (yg K)) (F_law_times:Fn P w K mg base 2 "_law_times" ["one","other"] (jz K)):Fn P w K mg base 3 "_law_might" ["boxes"] (YM K):=by
 refine D.ok0 yq (fun vs H Q E h=>?_) (fun f cdv A outer s H vs Q E hr h=>?_)
 ·obtain ⟨l,xs,bs,N,rfl,_⟩:=h
  rfl
 obtain ⟨l,xs,bs,N,rfl,hl,al,l6,wt,fu,fm,k⟩:=h
 refine ⟨_,(zE (zM (i:=1) yq.nd rfl (Or.inl rfl) (zV (zA zB (zA zB zC))))
   (zE (zr PassesOwn.never rfl (zw (pv 0)) (zd (i:=2) yq.nd rfl (Or.inl rfl)) (zE (zM (i:=3) yq.nd rfl (Or.inl rfl) (zI F_law_plus (by decide) hr (by rfl) zF (zA (zI F_law_times (by decide) hr (by rfl) zF (zA (zH ix_tup (pv 2) zB (fun _ _=>rfl)) (zA (zH ix_tup (pv 2) zB (fun _ _=>rfl)) zC))) (zA (zI F_law_times (by decide) hr (by rfl) zF (zA (zH ix_tup (pv 2) zB (fun _ _=>rfl)) (zA (zH ix_tup (pv 2) zB (fun _ _=>rfl)) zC))) zC))))
   (zG (zM (i:=1) yq.nd rfl (Or.inl rfl) (zI F_law_plus (by decide) hr (by rfl) zF (zA (pv 1) (zA (zI F_law_times (by decide) hr (by rfl) zF (zA (zV (zA (zH ix_tup (pv 2) zB (fun _ _=>rfl)) (zA zB zC))) (zA (pv 3) zC))) zC)))))))
   (zG (zL (pv 1))))),?_⟩
 have hz:=Al2.len al
 refine ⟨by show 2<=sizeLine; decide,?_⟩
 intro p1 n1
 obtain ⟨H1,q1,s1,e1⟩:=newO n1 (.tup [.int 0,.int 1])
 rw [q1]
 clear q1
 refine ⟨_,rfl,l,rfl,⟨_,SqL.of (s1 _ _ hl)⟩,jW (K:=K) (xs:=xs) (fun i σ' H'=>∃ (r:Addr) (u2 u3:Option V),σ'=[some (.ref l),some (.ref r),u2,u3]/\Same H H'/\FQ K H' r (mgt (bs.take i))/\i<=bs.length) ⟨p1,_,_,rfl,s1,SqT.of e1,Nat.zero_le _⟩ (by rintro _ _ _ _ ⟨_,_,_,_,g,_⟩; exact SqL.of (g _ _ hl)) ?_ ?_⟩
 ·rintro i v σ' H2 hv ⟨r,u2,u3,rfl,s2,gr,il⟩
  obtain ⟨b,hb,pv,a0,a1,a2,a3,a4,a5,rfl,h0,⟨g0,g1,g2,g3,g4,g5⟩,_,_⟩:=Al2.get (zQ al s2) hv
  have mem:=List.mem_of_getElem? hb
  obtain ⟨m,em,m1,m2⟩:=wt b mem
  obtain ⟨f4,f5⟩:=fu b mem
  have ib:i < bs.length:=(List.getElem?_eq_some_iff.mp hb).1
  rw [em] at h0
  replace h0:SqT K H2 pv [.ref a0,.ref a1,.ref a2,.ref a3,.ref a4,.ref a5,.int m]:=h0
  refine ⟨_,rfl,pv,_,_,_,rfl,rfl,h0,rfl,_,rfl,pv,_,_,_,rfl,rfl,h0,rfl,_,_,_,_,rfl,g4,f4.mono (by decide),g4,f4.mono (by decide),fun r3 H3 s3 e3=>?_⟩
  have h03:=Kw.Same.tup s3 h0
  refine ⟨_,rfl,pv,_,_,_,rfl,rfl,h03,rfl,_,rfl,pv,_,_,_,rfl,rfl,h03,rfl,_,_,_,_,rfl,Kw.Same.tup s3 g5,f5.mono (by decide),Kw.Same.tup s3 g5,f5.mono (by decide),fun r4 H4 s4 e4=>?_⟩
  refine ⟨_,_,_,_,rfl,Kw.Same.tup s4 e3,(f4.mul f4).mono (by decide),e4,(f5.mul f5).mono (by decide),fun r5 H5 s5 e5=>?_⟩
  have s25:=s3.trans (s4.trans s5)
  have h05:=Kw.Same.tup s25 h0
  refine ⟨_,rfl,_,rfl,pv,_,_,_,rfl,rfl,h05,rfl,by show 2<=sizeLine; decide,?_⟩
  intro p6 n6
  obtain ⟨H6,q6,s6,e6⟩:=newO n6 (.tup [.int m,.int 1])
  rw [q6]
  clear q6
  have fm6:FB 64 ((m:Int):Rat):=FB.ofInt (Bd.small (by omega) (by omega)) (by decide)
  have f55:FB 4001 (b.u * b.u+b.v * b.v):=((f4.mul f4).add (f5.mul f5)).mono (by decide)
  refine ⟨_,rfl,_,((m:Int):Rat),_,_,rfl,SqT.of e6,fm6.mono (by decide),Kw.Same.tup s6 e5,f55.mono (by decide),fun r7 H7 s7 e7=>?_⟩
  have s27:=s25.trans (s6.trans s7)
  refine ⟨_,_,_,_,rfl,Kw.Same.tup s27 gr,(fm i il).mono (by decide),e7,(fm6.mul f55).mono (by decide),fun r8 H8 s8 e8=>?_⟩
  refine ⟨r8,_,_,rfl,s2.trans (s27.trans s8),?_,ib⟩
  rw [mgt_snoc hb]
  have eb:mgB b=((m:Int):Rat) * (b.u * b.u+b.v * b.v):=by
   unfold mgB
   rw [em]
   rfl
  rw [eb]
  exact e8
 ·rintro σ' H2 ⟨r,u2,u3,rfl,s2,gr,_⟩
  rw [hz,List.take_length] at gr
  exact ⟨_,rfl,k r H2 s2 gr⟩
noncomputable def Y1 (K:PySem.W.Frag):Sp:=fun vs H Q _=>∃ (rp r0 r1 l:Addr) (R:Rat × Rat) (xs:List V) (bs:List Bq) (N:Nat),vs=[.ref rp,.ref l]/\SqT K H rp [.ref r0,.ref r1]/\FQ K H r0 R.1/\FQ K H r1 R.2/\FB 1990 R.1/\FB 1990 R.2/\H l=some (.lst xs)/\Al2 (BqH K N H) xs bs/\N<=2390/\bs.length<=6/\(∀ b∈bs,InR R b)/\App bs/\∀ H1:Hp,Same H H1->Q (.bl true) H1
theorem jf:FnScope ["room","boxes","k","one","way"] ["room","boxes"] (zD (top 84)):=⟨rfl,rfl,rfl,by decide+kernel,rfl,by decide+kernel,by decide+kernel⟩
theorem ok_law_fits (D:Df K mg "_law_fits" (top 84) ["room","boxes"]) (T:Tx K mg C) (F_law_less:Fn P w K mg base 1 "_law_less" ["one","other"] (ja K)) (F_law_end:Fn P w K mg base 3 "_law_end" ["one","way"] (Jg K)) (F_law_apart:Fn P w K mg base 3 "_law_apart" ["one","other"] (jy K)):Fn P w K mg base 4 "_law_fits" ["room","boxes"] (Y1 K):=by
 refine D.ok0 jf (fun vs H Q E h=>?_) (fun f cdv A outer s H vs Q E hr h=>?_)
 ·obtain ⟨rp,r0,r1,l,R,xs,bs,N,rfl,_⟩:=h
  rfl
 obtain ⟨rp,r0,r1,l,R,xs,bs,N,rfl,hrm,gr0,gr1,dr0,dr1,hl,al,hN,l6,inr,app,k⟩:=h
 refine ⟨_,(zE (zr PassesOwn.never rfl (pi_enum (by rfl) T.b_enumerate (zA (pv 1) zC)) (pg_tup rfl (YK (zd (i:=2) jf.nd rfl (Or.inl rfl)) (YK (zd (i:=3) jf.nd rfl (Or.inr rfl)) pgs_nil))) (zE (zr PassesOwn.never rfl (yh (by rfl) T.b_range (zA zB zC)) (zd (i:=4) jf.nd rfl (Or.inl rfl)) (zG (ze (y9 (zR Zy (zH ix_tup (zH ix_tup (pv 3) (pv 4) (fun _ _=>rfl)) zB (fun _ _=>rfl)) zB (zT _)) (yY (zf (zI F_law_less (by decide) hr (by rfl) zF (zA (zH ix_tup (pv 0) (pv 4) (fun _ _=>rfl)) (zA (zI F_law_end (by decide) hr (by rfl) zF (zA (pv 3) (zA (pv 4) zC))) zC))) (fun _=>rfl)))).pt (zG (zL yM)) zS)))
   (zG (ze (z9 (zf (zW (YC (K:=K) rfl rfl) (by rfl) T.b_all PyProof.Rows.Boot.«all» (zA (@Zg _ _ _ _ _ _ _ _ _ _ ["one"] [3] rfl (zw (yN sl_list (pv 1) jG (yQ (pv 2)))) rfl (by decide) rfl (by decide) rfl (by decide) (je (j:=3) rfl rfl rfl rfl (.inl rfl)) (fun y c h=>h) (ZR rfl) (fun C z Hc fp=>(zI F_law_apart (by decide) hr (by rfl) zF (zA (pv 1) (zA (pv 0) zC)))) (fun _=>rfl)) zC)) (fun _=>rfl))) (zG (zL yM)) zS))))
   (zG (zL yM))),?_⟩
 have hz:=Al2.len al
 refine ⟨_,rfl,l,xs,rfl,SqL.of hl,for_enum (K:=K) (a:=l) (xs:=xs) (fun i σ' H'=>∃ u2 u3 u4:Option V,σ'=[some (.ref rp),some (.ref l),u2,u3,u4]/\Same H H') ⟨_,_,_,rfl,Same.refl _⟩ (fun _ _ _ ⟨_,_,_,_,g⟩=>SqL.of (g _ _ hl)) ?_ ?_⟩
 ·rintro i v σ' H2 hv ⟨u2,u3,u4,rfl,s2⟩ pp H3 s3 npp epp
  have s03:=s2.trans s3
  obtain ⟨b,hb,hbq⟩:=Al2.get (zQ al s03) hv
  obtain ⟨pv,a0,a1,a2,a3,a4,a5,rfl,h0,⟨g0,g1,g2,g3,g4,g5⟩,⟨d0,d1,d2,d3,d4,d5⟩,hm⟩:=id hbq
  have mem:=List.mem_of_getElem? hb
  obtain ⟨i1,i2,i3,i4,i5,i6⟩:=inr b mem
  have ib:i < xs.length:=(List.getElem?_eq_some_iff.mp hv).1
  refine ⟨pp,_,rfl,SqT.of epp,rfl,_,_,rfl,_,_,rfl,rfl,?_⟩
  refine ⟨_,rfl,by decide,by decide,yC (n:=2) (fun j σ1 H1=>∃ r:Option V,σ1=[some (.ref rp),some (.ref l),some (.int (i:Int)),some (.ref pv),r]/\Same H3 H1) ⟨_,rfl,Same.refl _⟩ ?_ ?_⟩
  ·rintro j σ1 H4 hj ⟨r,rfl,s4⟩
   have s04:=s03.trans s4
   have h04:=Kw.Same.tup s4 h0
   have hrm4:=Kw.Same.tup s04 hrm
   match j,hj with
   |0,_=>
    refine ⟨_,rfl,_,rfl,pv,_,_,_,rfl,rfl,h04,rfl,a0,_,_,_,rfl,rfl,Kw.Same.tup s4 g0,rfl,_,_,rfl,rfl,_,rfl,?_⟩
    refine zc (fun c=>absurd c (num_ge i3)) (fun _=>?_)
    refine ⟨_,rfl,_,rfl,rp,_,_,_,rfl,rfl,hrm4,rfl,_,rfl,_,rfl,.ref pv,b,N,0,rfl,hbq.same s4,hN,by decide,fun r5 H5 s5 e5=>?_⟩
    have s05:=s04.trans s5
    refine ⟨_,_,_,_,rfl,Kw.Same.tup s05 gr0,dr0.mono (by decide),e5,(d0.add d2).mono (by omega),fun H6 s6=>⟨_,rfl,?_⟩⟩
    refine zc (fun c=>absurd c (Rat.not_lt.mpr i5)) (fun _=>?_)
    exact ⟨_,rfl,s4.trans (s5.trans s6)⟩
   |1,_=>
    refine ⟨_,rfl,_,rfl,pv,_,_,_,rfl,rfl,h04,rfl,a1,_,_,_,rfl,rfl,Kw.Same.tup s4 g1,rfl,_,_,rfl,rfl,_,rfl,?_⟩
    refine zc (fun c=>absurd c (num_ge i4)) (fun _=>?_)
    refine ⟨_,rfl,_,rfl,rp,_,_,_,rfl,rfl,hrm4,rfl,_,rfl,_,rfl,.ref pv,b,N,1,rfl,hbq.same s4,hN,by decide,fun r5 H5 s5 e5=>?_⟩
    have s05:=s04.trans s5
    refine ⟨_,_,_,_,rfl,Kw.Same.tup s05 gr1,dr1.mono (by decide),e5,(d1.add d3).mono (by omega),fun H6 s6=>⟨_,rfl,?_⟩⟩
    refine zc (fun c=>absurd c (Rat.not_lt.mpr i6)) (fun _=>?_)
    exact ⟨_,rfl,s4.trans (s5.trans s6)⟩
  ·rintro σ1 H4 ⟨r,rfl,s4⟩
   have s04:=s03.trans s4
   refine ⟨_,rfl,_,rfl,_,rfl,l,_,rfl,SqL.of (s04 _ _ hl),?_⟩
   intro p5 n5
   obtain ⟨H5,q5,s5,e5⟩:=newO n5 (.lst (cutV xs none (some (i:Int))))
   rw [q5]
   clear q5
   rw [J9 (by omega)] at e5
   have s35:=s4.trans s5
   have al5:=Al2.takeR i (zQ al (s04.trans s5))
   have lt:(xs.take i).length=i:=by rw [List.length_take]; omega
   refine ⟨p5,rfl,⟨_,SqL.of e5⟩,jH (K:=K) (xs:=xs.take i) (fun j ys H'=>Same H5 H'/\ys=(List.replicate j true).map V.bl) ⟨Same.refl _,rfl⟩ (by rw [lt,sizeLine_eq]; omega) (fun j ys H' ⟨_,e⟩=>by rw [e,List.length_map,List.length_replicate]) (fun j ys H' ⟨g,_⟩=>SqL.of (g _ _ e5)) ?_ ?_⟩
   ·rintro j y ys H' Q' hy ⟨g,rfl⟩ kk
    obtain ⟨c,hc,hcq⟩:=Al2.get (zQ al5 g) hy
    have jl:j < i:=by rw [<- lt]; exact (List.getElem?_eq_some_iff.mp hy).1
    rw [List.getElem?_take_of_lt jl] at hc
    have ap:=app_at app hb hc jl
    refine ⟨_,rfl,_,rfl,_,_,b,c,N,rfl,hbq.same (s35.trans g),hcq,hN,fun H6 s6=>kk _ _ ⟨g.trans s6,?_⟩⟩
    rw [ap,List.replicate_succ',List.map_append]
    rfl
   ·rintro ys H' ⟨g,rfl⟩
    intro p7 n7
    obtain ⟨H7,q7,s7,e7⟩:=newO n7 (.lst ((List.replicate (xs.take i).length true).map V.bl))
    rw [q7]
    clear q7
    refine ⟨p7,_,rfl,SqL.of e7,_,rfl,iteFz (by simp) ?_⟩
    exact ⟨_,_,_,rfl,s03.trans (s35.trans (g.trans s7))⟩
 ·rintro σ' H2 ⟨u2,u3,u4,rfl,s2⟩
  exact k H2 s2
theorem Js {K:PySem.W.Frag} {H:Hp}:∀ {vs:List V} {ms:List (Rat × Pr)},Al2 (MtP K H) vs ms->Dps K H vs (ms.map mpD)
 |[],[],_=>.nil
 |_::_,_::_,z=>by
  obtain ⟨⟨p,a,rfl,h1,h2,_⟩,r⟩:=z
  exact .cons (.tup h1 (.cons h2.dp (.cons (.str _) (.cons (.int _) (.cons (.int _) .nil))))) (Js r)
 |[],_::_,z=>z.elim
 |_::_,[],z=>z.elim
theorem Jo {K:PySem.W.Frag} {H H':Hp} {r:Addr} {wd:String} {ms:List (Rat × Pr)} {es:List Bq} {last:Rat} (h:ToldP K H r wd ms es last) (s:Same H H'):ToldP K H' r wd ms es last:=by
 obtain ⟨rr,rb,rn,zs,ws,h1,h2,h3,h4,h5,h6,h7⟩:=h
 exact ⟨rr,rb,rn,zs,ws,Kw.Same.tup s h1,s _ _ h2,ya h3 s,s _ _ h4,zQ h5 s,Kw.Same.tup s h6,h7⟩
noncomputable def jc (K:PySem.W.Frag):Sp:=fun vs H Q _=>∃ (rp r0 r1 l:Addr) (R:Rat × Rat) (xs:List V) (gs:List Bq) (m:Nat),vs=[.ref rp,.ref l,.int (m:Int)]/\m<=4/\SqT K H rp [.ref r0,.ref r1]/\FQ K H r0 R.1/\FQ K H r1 R.2/\RmQ R/\H l=some (.lst xs)/\Al2 (BqH K 1990 H) xs gs/\1<=gs.length/\BxsQ R gs/\∀ H1:Hp,Same H H1->Q (.bl true) H1
theorem zi:FnScope ["room","boxes","most","due","last","k","found","half"] ["room","boxes","most"] (zD (top 85)):=⟨rfl,rfl,rfl,by decide+kernel,rfl,by decide+kernel,by decide+kernel⟩
theorem ok_law_runs_right (D:Df K mg "_law_runs_right" (top 85) ["room","boxes","most"]) (T:Tx K mg C) (F_law_might:Fn P w K mg base 3 "_law_might" ["boxes"] (YM K)) (F_run_in:Fn P w K mg base 10 "run_in" ["room","boxes","most"] (Jz K)) (F_law_fits:Fn P w K mg base 4 "_law_fits" ["room","boxes"] (Y1 K)) (F_law_over:Fn P w K mg base 2 "_law_over" ["one","other"] (Y7 K)) (F_law_minus:Fn P w K mg base 2 "_law_minus" ["one","other"] (YF K)) (F_law_led:Fn P w K mg base 3 "_law_led" ["boxes","time"] (Jr K)):Fn P w K mg base 11 "_law_runs_right" ["room","boxes","most"] (jc K):=by
 refine D.ok0 zi (fun vs H Q E h=>?_) (fun f cdv A outer s H vs Q E hr h=>?_)
 ·obtain ⟨rp,r0,r1,l,R,xs,gs,m,rfl,_⟩:=h
  rfl
 obtain ⟨rp,r0,r1,l,R,xs,gs,m,rfl,m4,hrm,gr0,gr1,rmq,hl,al,l1,bq,k⟩:=h
 refine ⟨_,(zE (zM (i:=3) zi.nd rfl (Or.inl rfl) (zI F_law_might (by decide) hr (by rfl) zF (zA (pv 1) zC)))
   (zE (zM (i:=4) zi.nd rfl (Or.inl rfl) (zI F_run_in (by decide) hr (by rfl) zF (zA (pv 0) (zA (pv 1) (zA zB zC)))))
   (zE (zr PassesOwn.never rfl (Ym (by rfl) T.b_range (zA zB (zA (zN zj (pv 2) zB) zC))) (zd (i:=5) zi.nd rfl (Or.inl rfl)) (zE (zM (i:=6) zi.nd rfl (Or.inl rfl) (zI F_run_in (by decide) hr (by rfl) zF (zA (pv 0) (zA (pv 1) (zA (pv 5) zC)))))
   (zE (ze (y9 (zR (op_neA (K:=K) rfl (u100 hr)) (yN sl_list (zH ix_tup (pv 6) zB (fun _ _=>rfl)) jG (yQ (zW yD (by rfl) T.b_len PyProof.Rows.Boot.«len» (zA (zH ix_tup (pv 4) zB (fun _ _=>rfl)) zC)))) (zH ix_tup (pv 4) zB (fun _ _=>rfl)) (zT _)) (y9 (zR (op_neA (K:=K) rfl (u100 hr)) (zI F_law_might (by decide) hr (by rfl) zF (zA (zH ix_tup (pv 6) zB (fun _ _=>rfl)) zC)) (pv 3) (zT _)) (yY (z9 (zf (zI F_law_fits (by decide) hr (by rfl) zF (zA (pv 0) (zA (zH ix_tup (pv 6) zB (fun _ _=>rfl)) zC))) (fun _=>rfl)))))).pt (zG (zL yM)) zS)
   (zE (ze (zR (op_neA (K:=K) rfl (u100 hr)) (@Zg _ _ _ _ _ _ _ _ _ _ [] [] rfl (zw (zH ix_tup (pv 6) zB (fun _ _=>rfl))) rfl (by decide) rfl (by decide) rfl (by decide) jr (fun _ _ h=>nomatch h) (Zr rfl) (fun C z Hc fp=>(zN (YV (K:=K) rfl) (yN (ZE (K:=K) rfl) (pv 0) (yQ zB) (yQ zB)) (yN (ZE (K:=K) rfl) (pv 0) (yQ zB) jG))) (fun _=>rfl)) (@Zg _ _ _ _ _ _ _ _ _ _ [] [] rfl (zw (pv 1)) rfl (by decide) rfl (by decide) rfl (by decide) jr (fun _ _ h=>nomatch h) (Zr rfl) (fun C z Hc fp=>(zN (YV (K:=K) rfl) (yN (ZE (K:=K) rfl) (pv 0) (yQ zB) (yQ zB)) (yN (ZE (K:=K) rfl) (pv 0) (yQ zB) jG))) (fun _=>rfl)) (zT _)) (zG (zL yM)) zS)
   (zE (ze (j8 (zR (op_eqD (K:=K) rfl (u100 hr)) (zH ix_tup (pv 6) zB (fun _ _=>rfl)) (zH ix_tup (pv 4) zB (fun _ _=>rfl)) (zT _)) (jF (zR (op_neA (K:=K) rfl (u100 hr)) (yN sl_tup (pv 6) (yQ zB) jG) (yN sl_tup (pv 4) (yQ zB) jG) (zT _)))).pt (zG (zL yM)) zS)
   (zE (zM (i:=7) zi.nd rfl (Or.inl rfl) (zI F_law_over (by decide) hr (by rfl) zF (zA (zI F_law_minus (by decide) hr (by rfl) zF (zA (zH ix_tup (pv 6) zB (fun _ _=>rfl)) (zA (zH ix_tup (pv 4) zB (fun _ _=>rfl)) zC))) (zA (zV (zA zB (zA zB zC))) zC))))
   (zE (ze (z9 (zf (zI F_law_fits (by decide) hr (by rfl) zF (zA (pv 0) (zA (zI F_law_led (by decide) hr (by rfl) zF (zA (zH ix_tup (pv 4) zB (fun _ _=>rfl)) (zA (pv 7) zC))) zC))) (fun _=>rfl))) (zG (zL yM)) zS)
   (zG (zM (i:=4) zi.nd rfl (Or.inl rfl) (pv 6))))))))))
   (zG (zL yM))))),?_⟩
 have gd:=bq.gd rmq l1
 have cm:=bq.cm rmq
 have l6:=bq.1
 have dr0:FB 1990 R.1:=rmq.2.2.1.f42
 have dr1:FB 1990 R.2:=rmq.2.2.2.f42
 have fg:∀ b∈gs,FB 1000 b.u/\FB 1000 b.v:=fun b hb=>⟨(cm_fb cm hb).2.2.2.2.1.mono (by decide),(cm_fb cm hb).2.2.2.2.2.mono (by decide)⟩
 refine ⟨_,rfl,l,xs,gs,1990,rfl,hl,al,l6,gd.wt,fg,fun i hi=>(mgt_fb cm gd.wt l6 i hi).mono (by decide),fun pd H1 s1 gdu=>?_⟩
 refine ⟨_,rfl,_,rfl,rp,r0,r1,l,R,xs,gs,0,20,rfl,Kw.Same.tup s1 hrm,Kw.Same.tup s1 gr0,Kw.Same.tup s1 gr1,dr0,dr1,s1 _ _ hl,zQ al s1,gd,cm,by decide,by decide,fun t0 wd0 ms0 es0 last0 H2 s2 rq0 told0=>?_⟩
 refine ⟨_,rfl,_,_,rfl,rfl,_,_,rfl,⟨by decide,by decide,by omega,by omega⟩,?_⟩
 rw [show ((m:Int)+1 - 1).toNat=m by omega]
 refine yC (n:=m) (fun i σ' H'=>∃ (tl:Addr) (u5 u6 u7:Option V) (wd:String) (ms:List (Rat × Pr)) (es:List Bq) (last:Rat),σ'=[some (.ref rp),some (.ref l),some (.int (m:Int)),some (.ref pd),some (.ref tl),u5,u6,u7]/\Same H2 H'/\RunP R gs 0 i wd ms es last/\ToldP K H' tl wd ms es last) ⟨t0,_,_,_,wd0,ms0,es0,last0,rfl,Same.refl _,rq0,told0⟩ ?_ ?_
 ·rintro i σ' H3 hi ⟨tl,u5,u6,u7,wd,ms,es,last,rfl,s3,rq,told⟩
  have s03:=s1.trans (s2.trans s3)
  refine ⟨_,rfl,_,rfl,_,rfl,rp,r0,r1,l,R,xs,gs,1+i,20,rfl,Kw.Same.tup s03 hrm,Kw.Same.tup s03 gr0,Kw.Same.tup s03 gr1,dr0,dr1,s03 _ _ hl,zQ al s03,gd,cm,by omega,by omega,fun tf wd' ms' es' last' H4 s4 rq' told'=>?_⟩
  have A1:=run_all rq gd.r1 gd.r2 (B:=20) l6 gd.wt cm (gd_start gd)
  have A2:=run_all rq' gd.r1 gd.r2 (B:=20) l6 gd.wt cm (gd_start gd)
  have rq1:RunP R gs 0 (i+1) wd' ms' es' last':=by rw [Nat.add_comm i 1]; exact rq'
  have dich:=run_more rq rq1
  obtain ⟨rr,rb,rn,zs,ws,t1,t2,t3,t4,t5,t6,t7⟩:=Jo told s4
  obtain ⟨rr',rb',rn',zs',ws',t1',t2',t3',t4',t5',t6',t7'⟩:=id told'
  have lz:=Al2.len t3
  have lz':=Al2.len t3'
  have pre:ms'.take ms.length=ms/\ms.length<=ms'.length:=by
   rcases dich with ⟨e,_,_⟩|⟨_,_,e,_⟩
   ·rw [e,List.take_length]
    exact ⟨rfl,Nat.le_refl _⟩
   ·rw [e,List.take_left,List.length_append]
    exact ⟨rfl,by omega⟩
  have f2:=A2.at
  have B2:3 * (20+90 * (1+i))+3<=1143:=by omega
  have al2':Al2 (BqH K 1143 H4) ws' (es'.map (atB last')):=bqs_fb t5' fun b hb=>⟨(f2 b hb).1.mono B2,(f2 b hb).2.1.mono B2⟩
  have le':(es'.map (atB last')).length<=6:=by rw [List.length_map,A2.ln]; exact l6
  have s04:=s03.trans s4
  refine g_go ?_
  dsimp only
  refine cut1 (fun σ' H'=>σ'=[some (.ref rp),some (.ref l),some (.int (m:Int)),some (.ref pd),some (.ref tl),some (.int (1+(i:Int))),some (.ref tf),u7]/\Same H4 H') (fun N hN=>?_) ?_
  ·refine ⟨_,rfl,tf,_,_,_,rfl,rfl,t1',rfl,_,rfl,tl,_,_,_,rfl,rfl,t1,rfl,_,_,rfl,.inl ⟨_,SqL.of t2,rfl⟩,_,rfl,rr',_,rfl,SqL.of t2',?_⟩
   intro p5 n5
   obtain ⟨H5,q5,s5,e5⟩:=newO n5 (.lst (cutV zs' none (some ((zs.length:Nat):Int))))
   rw [q5]
   clear q5
   rw [J9 (by omega)] at e5
   have al5:=Al2.takeR zs.length (ya t3' s5)
   rw [lz,pre.1] at al5
   rw [lz] at e5
   have t15:=Kw.Same.tup s5 t1
   refine ⟨_,rfl,tl,_,_,_,rfl,rfl,t15,rfl,_,.lst (SqL.of e5) (Js al5),.lst (SqL.of (s5 _ _ t2)) (Js (ya t3 s5)),(Yn _).1,(Yn _).2,_,rfl,iteF ?_⟩
   have t15':=Kw.Same.tup s5 t1'
   refine ⟨_,rfl,tf,_,_,_,rfl,rfl,t15',rfl,rb',ws',_,1143,rfl,s5 _ _ t4',zQ al2' s5,le',A2.wtA,fun b hb=>⟨(f2 b hb).2.2.1.mono (by omega),(f2 b hb).2.2.2.mono (by omega)⟩,fun j hj=>?_,fun r6 H6 s6 g6=>?_⟩
   ·rw [mgt_take]
    rw [List.length_map] at hj
    exact (mgt_fb A2.cm A2.wt (by rw [A2.ln]; exact l6) j hj).mono (by omega)
   rw [mgt_at,A2.mg] at g6
   have s46:=s5.trans s6
   have g16:FQ K H6 pd (mgt gs):=Kw.Same.tup (s2.trans (s3.trans (s4.trans s46))) gdu
   refine ⟨_,rfl,_,g6.dp,g16.dp,rfl,rfl,_,rfl,iteF ?_⟩
   have s06:=s04.trans s46
   have t16':=Kw.Same.tup s46 t1'
   refine ⟨_,rfl,_,rfl,tf,_,_,_,rfl,rfl,t16',rfl,rp,r0,r1,rb',R,ws',_,1143,rfl,Kw.Same.tup s06 hrm,Kw.Same.tup s06 gr0,Kw.Same.tup s06 gr1,dr0,dr1,s46 _ _ t4',zQ al2' s46,by decide,le',fun b hb=>?_,A2.gd.2,fun H7 s7=>⟨_,rfl,iteF ?_⟩⟩
   ·obtain ⟨c,hc,rfl⟩:=List.mem_map.mp hb
    exact A2.gd.1 c hc
   exact hN _ _ ⟨rfl,s46.trans s7⟩
  rintro σ1 H7 ⟨rfl,s47⟩
  refine cut1 (fun σ' H'=>σ'=[some (.ref rp),some (.ref l),some (.int (m:Int)),some (.ref pd),some (.ref tl),some (.int (1+(i:Int))),some (.ref tf),u7]/\Same H4 H') (fun N hN=>?_) ?_
  ·have t17':=Kw.Same.tup s47 t1'
   refine ⟨_,rfl,tf,_,_,_,rfl,rfl,t17',rfl,rb',rfl,⟨_,SqL.of (s47 _ _ t4')⟩,jH (K:=K) (xs:=ws') (fun j ys H'=>j<=ws'.length/\Same H7 H'/\Al2 (SzH K H') ys ((es'.map (atB last')).take j)) ⟨Nat.zero_le _,Same.refl _,trivial⟩ (by rw [Al2.len (zQ al2' s47),sizeLine_eq]; have:=le'; omega) (fun j ys H' z=>by obtain ⟨lj,_,e⟩:=z; have:=Al2.len e; have:=Al2.len (zQ al2' s47); rw [List.length_take] at *; omega) (fun j ys H' z=>by obtain ⟨_,g,_⟩:=z; exact SqL.of (g _ _ (s47 _ _ t4'))) ?_ ?_⟩
   ·rintro j y ys Hc Q' hy ⟨lj,g,ay⟩ kk
    have jl:=(List.getElem?_eq_some_iff.mp hy).1
    obtain ⟨b,hb,pv,a0,a1,a2,a3,a4,a5,rfl,h0,⟨g0,g1,g2,g3,g4,g5⟩,_,_⟩:=Al2.get (zQ (zQ al2' s47) g) hy
    refine ⟨_,rfl,_,rfl,_,rfl,pv,_,rfl,h0,(fun z=>absurd z.1 (by show ¬ HT.sIx 7 0 (some 2)=0; decide)),?_⟩
    intro p20 n20
    obtain ⟨H20,q20,s20,e20⟩:=newO n20 (.tup (cutV [.ref a0,.ref a1,.ref a2,.ref a3,.ref a4,.ref a5,wV b.m] (some 2) (some 4)))
    rw [q20]
    clear q20
    have e20':H20 p20=some (.tup [.ref a2,.ref a3]):=e20
    refine ⟨_,rfl,_,rfl,pv,_,rfl,Kw.Same.tup s20 h0,Z5 (n:=7) (by decide) (by decide),?_⟩
    intro p21 n21
    obtain ⟨H21,q21,s21,e21⟩:=newO n21 (.tup (cutV [.ref a0,.ref a1,.ref a2,.ref a3,.ref a4,.ref a5,wV b.m] (some 6) none))
    rw [q21]
    clear q21
    have e21':H21 p21=some (.tup [wV b.m]):=e21
    refine ⟨p20,p21,_,_,rfl,rfl,SqT.of (s21 _ _ e20'),SqT.of e21',by show 3<=sizeLine; decide,fun z=>(nomatch z),fun _ z=>(nomatch z),fun _ _=>?_⟩
    intro p22 n22
    obtain ⟨H22,q22,s22,e22⟩:=newO n22 (.tup ([.ref a2,.ref a3]++[wV b.m]))
    rw [q22]
    clear q22
    have sc:=s20.trans (s21.trans s22)
    refine kk _ _ ⟨jl,g.trans sc,?_⟩
    rw [zZ hb]
    exact Al2.snoc (ZX ay sc) ⟨p22,a2,a3,rfl,SqT.of e22,Kw.Same.tup sc g2,Kw.Same.tup sc g3⟩
   rintro ys9 H8 ⟨_,s8,ay8⟩ l9 nl9
   rw [Al2.len (zQ al2' s47),List.take_length] at ay8
   obtain ⟨H9,q9,s9,e9⟩:=newO nl9 (.lst ys9)
   rw [q9]
   clear q9
   have al9:=ZX ay8 s9
   have s09:=s04.trans (s47.trans (s8.trans s9))
   refine ⟨_,rfl,l,rfl,⟨_,SqL.of (s09 _ _ hl)⟩,jH (K:=K) (xs:=xs) (fun j ys H'=>j<=xs.length/\Same H9 H'/\Al2 (SzH K H') ys ((gs).take j)) ⟨Nat.zero_le _,Same.refl _,trivial⟩ (by rw [Al2.len (zQ al s09),sizeLine_eq]; have:=l6; omega) (fun j ys H' z=>by obtain ⟨lj,_,e⟩:=z; have:=Al2.len e; have:=Al2.len (zQ al s09); rw [List.length_take] at *; omega) (fun j ys H' z=>by obtain ⟨_,g,_⟩:=z; exact SqL.of (g _ _ (s09 _ _ hl))) ?_ ?_⟩
   ·rintro j y ys Hc Q' hy ⟨lj,g,ay⟩ kk
    have jl:=(List.getElem?_eq_some_iff.mp hy).1
    obtain ⟨b,hb,pv,a0,a1,a2,a3,a4,a5,rfl,h0,⟨g0,g1,g2,g3,g4,g5⟩,_,_⟩:=Al2.get (zQ (zQ al s09) g) hy
    refine ⟨_,rfl,_,rfl,_,rfl,pv,_,rfl,h0,(fun z=>absurd z.1 (by show ¬ HT.sIx 7 0 (some 2)=0; decide)),?_⟩
    intro p20 n20
    obtain ⟨H20,q20,s20,e20⟩:=newO n20 (.tup (cutV [.ref a0,.ref a1,.ref a2,.ref a3,.ref a4,.ref a5,wV b.m] (some 2) (some 4)))
    rw [q20]
    clear q20
    have e20':H20 p20=some (.tup [.ref a2,.ref a3]):=e20
    refine ⟨_,rfl,_,rfl,pv,_,rfl,Kw.Same.tup s20 h0,Z5 (n:=7) (by decide) (by decide),?_⟩
    intro p21 n21
    obtain ⟨H21,q21,s21,e21⟩:=newO n21 (.tup (cutV [.ref a0,.ref a1,.ref a2,.ref a3,.ref a4,.ref a5,wV b.m] (some 6) none))
    rw [q21]
    clear q21
    have e21':H21 p21=some (.tup [wV b.m]):=e21
    refine ⟨p20,p21,_,_,rfl,rfl,SqT.of (s21 _ _ e20'),SqT.of e21',by show 3<=sizeLine; decide,fun z=>(nomatch z),fun _ z=>(nomatch z),fun _ _=>?_⟩
    intro p22 n22
    obtain ⟨H22,q22,s22,e22⟩:=newO n22 (.tup ([.ref a2,.ref a3]++[wV b.m]))
    rw [q22]
    clear q22
    have sc:=s20.trans (s21.trans s22)
    refine kk _ _ ⟨jl,g.trans sc,?_⟩
    rw [zZ hb]
    exact Al2.snoc (ZX ay sc) ⟨p22,a2,a3,rfl,SqT.of e22,Kw.Same.tup sc g2,Kw.Same.tup sc g3⟩
   rintro ys11 H10 ⟨_,s10,ay10⟩ l11 nl11
   rw [Al2.len (zQ al s09),List.take_length] at ay10
   obtain ⟨H11,q11,s11,e11⟩:=newO nl11 (.lst ys11)
   rw [q11]
   clear q11
   have al11:=ZX ay10 s11
   have dA:Dp K H11 (.ref l9) (.list (gs.map szD)):=by
    rw [<- A2.szs]
    exact .lst (SqL.of ((s10.trans s11) _ _ e9)) (szs_dp (ZX al9 (s10.trans s11)))
   refine ⟨_,dA,.lst (SqL.of e11) (szs_dp al11),(szs_ok _).1,(szs_ok _).2,_,rfl,iteF ?_⟩
   exact hN _ _ ⟨rfl,s47.trans (s8.trans (s9.trans (s10.trans s11)))⟩
  rintro σ1 H7 ⟨rfl,s47⟩
  refine cut1 (fun σ' H'=>σ'=[some (.ref rp),some (.ref l),some (.int (m:Int)),some (.ref pd),some (.ref tl),some (.int (1+(i:Int))),some (.ref tf),u7]/\Same H4 H') (fun N hN=>?_) ?_
  ·have u1:=Kw.Same.tup s47 t1
   have u1':=Kw.Same.tup s47 t1'
   have dz:Dp K H7 (.ref rr) (.list (ms.map mpD)):=.lst (SqL.of (s47 _ _ t2)) (Js (ya t3 s47))
   have dz':Dp K H7 (.ref rr') (.list (ms'.map mpD)):=.lst (SqL.of (s47 _ _ t2')) (Js (ya t3' s47))
   have deep:min (PyData.list (ms'.map mpD)).depth (PyData.list (ms.map mpD)).depth<=60:=Nat.le_trans (Nat.min_le_right _ _) (Nat.le_of_ble_eq_true (Yn ms).2)
   refine ⟨_,rfl,tf,_,_,_,rfl,rfl,u1',rfl,_,rfl,tl,_,_,_,rfl,rfl,u1,rfl,_,_,dz',dz,(Yn _).1,(Yn _).1,deep,_,rfl,?_⟩
   rcases dich with ⟨e1,e2,e3⟩|⟨e1,e2,e3,e4⟩
   ·subst e1
    subst e2
    subst e3
    refine iteTz (SeqAt.eqv_refl _ (Yn _).1) ?_
    refine ⟨_,rfl,_,rfl,tf,_,rfl,u1',Z5 (n:=4) (by decide) (by decide),?_⟩
    intro p8 n8
    obtain ⟨H8,q8,s8,e8⟩:=newO n8 (.tup (cutV [.str wd',.ref rr',.ref rb',.ref rn'] (some 2) none))
    rw [q8]
    clear q8
    have u18:=Kw.Same.tup s8 u1
    refine ⟨_,rfl,_,rfl,tl,_,rfl,u18,Z5 (n:=4) (by decide) (by decide),?_⟩
    intro p9 n9
    obtain ⟨H9,q9,s9,e9⟩:=newO n9 (.tup (cutV [.str wd,.ref rr,.ref rb,.ref rn] (some 2) none))
    rw [q9]
    clear q9
    have s49:=s47.trans (s8.trans s9)
    have q8:SqT K H9 p8 [.ref rb',.ref rn']:=SqT.of (s9 _ _ e8)
    have q9:SqT K H9 p9 [.ref rb,.ref rn]:=SqT.of e9
    refine ⟨_,.tup q8 (.cons (.lst (SqL.of (s49 _ _ t4')) (bqs_dp (zQ t5' s49))) (.cons (FQ.dp (Kw.Same.tup s49 t6')) .nil)),.tup q9 (.cons (.lst (SqL.of (s49 _ _ t4)) (bqs_dp (zQ t5 s49))) (.cons (FQ.dp (Kw.Same.tup s49 t6)) .nil)),(tel_ok _ _).1,(tel_ok _ _).2,_,rfl,iteF ?_⟩
    exact hN _ _ ⟨rfl,s49⟩
   ·have ne:=due_ne e1 e2
    have ll:(ms'.map mpD).length≠(ms.map mpD).length:=by
     rw [List.length_map,List.length_map,e3,List.length_append]
     unfold mtsP
     rw [List.length_map]
     have:=List.length_pos_iff.mpr ne
     omega
    exact iteFz (eqv_len _ _ ll) (hN _ _ ⟨rfl,s47⟩)
  rintro σ1 H7 ⟨rfl,s47⟩
  have u1:=Kw.Same.tup s47 t1
  have u1':=Kw.Same.tup s47 t1'
  have hhalf:GdT R es (last+(last' - last) / ((2:Int):Rat)):=by
   rcases dich with ⟨_,_,e⟩|⟨e,_,_,_⟩
   ·rw [e,show last+(last - last) / ((2:Int):Rat)=last by show last+(last - last) / 2=last; grind]
    exact A1.gd
   ·exact next_all gd.r1 gd.r2 A1.gd e
  have B1:3 * (20+90 * i)+3<=1143:=by omega
  have f1:=A1.at
  have lastB:FB (380+2) last:=A1.last.mono (by omega)
  have lastB':FB (380+2) last':=A2.last.mono (by omega)
  have al1:Al2 (BqH K 1143 H4) ws (es.map (atB last)):=bqs_fb t5 fun b hb=>⟨(f1 b hb).1.mono B1,(f1 b hb).2.1.mono B1⟩
  have le1:(es.map (atB last)).length<=6:=by rw [List.length_map,A1.ln]; exact l6
  have fh:FB 767 ((last' - last) / ((2:Int):Rat)):=fb_half (B:=380) lastB' lastB
  have fM:∀ b∈es.map (atB last),FB 2390 (atB ((last' - last) / ((2:Int):Rat)) b).x/\FB 2390 (atB ((last' - last) / ((2:Int):Rat)) b).y:=fun b hb=>by
   obtain ⟨x1,x2,x3,x4⟩:=f1 b hb
   exact ⟨(((x1.mono B1).add ((x3.mono (show 20+90 * i<=380 by omega)).mul fh))).mono (by decide),(((x2.mono B1).add ((x4.mono (show 20+90 * i<=380 by omega)).mul fh))).mono (by decide)⟩
  refine ⟨_,rfl,tf,_,_,_,rfl,rfl,u1',rfl,_,rfl,tl,_,_,_,rfl,rfl,u1,rfl,_,_,_,_,rfl,Kw.Same.tup s47 t6',lastB'.mono (by decide),Kw.Same.tup s47 t6,lastB.mono (by decide),fun r8 H8 s8 g8=>?_⟩
  refine ⟨by show 2<=sizeLine; decide,?_⟩
  intro p9 n9
  obtain ⟨H9,q9,s9,e9⟩:=newO n9 (.tup [.int 2,.int 1])
  rw [q9]
  clear q9
  have two:FQ K H9 p9 ((2:Int):Rat):=SqT.of e9
  refine ⟨_,_,_,_,rfl,Kw.Same.tup s9 g8,(lastB'.sub lastB).mono (by decide),two,(FB.ofInt (n:=64) (Bd.small (by decide) (by decide)) (by decide)).mono (by decide),by decide,fun r10 H10 s10 g10=>?_⟩
  have s410:=s47.trans (s8.trans (s9.trans s10))
  have s010:=s04.trans s410
  have u110:=Kw.Same.tup s410 t1
  refine ⟨_,rfl,_,rfl,tl,_,_,_,rfl,rfl,u110,rfl,_,rfl,rb,r10,ws,_,1143,2390,_,rfl,s410 _ _ t4,zQ al1 s410,le1,g10,fh.mono (by decide),by decide,fM,fun l11 ys11 H11 s11 e11 al11=>?_⟩
  rw [ats_at] at al11
  have s011:=s010.trans s11
  refine ⟨rp,r0,r1,l11,R,ys11,_,2390,rfl,Kw.Same.tup s011 hrm,Kw.Same.tup s011 gr0,Kw.Same.tup s011 gr1,dr0,dr1,e11,al11,by decide,by rw [List.length_map,A1.ln]; exact l6,fun b hb=>?_,hhalf.2,fun H12 s12=>⟨_,rfl,iteF ?_⟩⟩
  ·obtain ⟨c,hc,rfl⟩:=List.mem_map.mp hb
   exact hhalf.1 c hc
  have s412:=s410.trans (s11.trans s12)
  exact ⟨_,rfl,tf,_,_,_,wd',ms',es',last',rfl,s3.trans (s4.trans s412),rq1,Jo told' s412⟩
 ·rintro σ' H3 ⟨tl,u5,u6,u7,wd,ms,es,last,rfl,s3,rq,told⟩
  exact k H3 (s1.trans (s2.trans s3))
theorem JQ:FnScope ["script","k","box","room","boxes"] ["script"] (zD (top 86)):=⟨rfl,rfl,rfl,by decide+kernel,rfl,by decide+kernel,by decide+kernel⟩
theorem ok_law (D:Df K mg "law" (top 86) ["script"]) (T:Tx K mg C) (F_law_box:Fn P w K mg base 2 "_law_box" ["script","k"] (spBox K)) (F_law_room:Fn P w K mg base 2 "_law_room" ["box"] (Y2 K)) (F_law_boxes:Fn P w K mg base 4 "_law_boxes" ["box","room"] (Yc K)) (F_law_runs_right:Fn P w K mg base 11 "_law_runs_right" ["room","boxes","most"] (jc K)) (F_law_take:Fn P w K mg base 1 "_law_take" ["box","many"] spTake):Fn P w K mg base 12 "law" ["script"] (Jv K):=by
 refine D.ok0 JQ (fun vs H Q E h=>?_) (fun f cdv A outer s H vs Q E hr h=>?_)
 ·obtain ⟨a,rfl,_⟩:=h
  rfl
 obtain ⟨a,rfl,hS,fin⟩:=h
 refine ⟨_,(zE (zr PassesOwn.never rfl (yh (by rfl) T.b_range (zA (zW (call_max2 rfl) (by rfl) T.b_max PyProof.Rows.Boot.«max» (zA zB (zA (zW (call_min2 rfl) (by rfl) T.b_min PyProof.Rows.Boot.«min» (zA (zW yD (by rfl) T.b_len PyProof.Rows.Boot.«len» (zA (pv 0) zC)) (zA zB zC))) zC))) zC)) (zd (i:=1) JQ.nd rfl (Or.inl rfl)) (zE (zM (i:=2) JQ.nd rfl (Or.inl rfl) (zI F_law_box (by decide) hr (by rfl) zF (zA (pv 0) (zA (pv 1) zC))))
   (zE (zM (i:=3) JQ.nd rfl (Or.inl rfl) (zI F_law_room (by decide) hr (by rfl) zF (zA (pv 2) zC)))
   (zE (zM (i:=4) JQ.nd rfl (Or.inl rfl) (zI F_law_boxes (by decide) hr (by rfl) zF (zA (pv 2) (zA (pv 3) zC))))
   (zG (ze (z9 (zf (zI F_law_runs_right (by decide) hr (by rfl) zF (zA (pv 3) (zA (pv 4) (zA (zN zj zB (zI F_law_take (by decide) hr (by rfl) zF (zA (pv 2) (zA zB zC)))) zC)))) (fun _=>rfl))) (zG (zL yM)) zS))))))
   (zG (zL yM))),?_⟩
 obtain ⟨ns,hL,h63,_⟩:=id hS
 refine ⟨_,rfl,_,_,rfl,.inl ⟨_,hL,rfl⟩,_,_,rfl,_,_,rfl,_,rfl,?_⟩
 obtain ⟨m,hme,m1,m8⟩:=most_of ns 3 (by decide)
 rw [hme]
 have sm9:∀ i:Int,-(2 ^ 64) < i->i < 2 ^ 64->Bd 9000 i:=fun i h1 h2=>(Bd.small h1 h2).mono (by decide)
 refine ⟨by omega,by omega,yC (n:=m.toNat) (fun i σ' H'=>∃ r1 r2 r3 r4:Option V,σ'=[some (.ref a),r1,r2,r3,r4]/\Same H H') ⟨_,_,_,_,rfl,Same.refl _⟩ ?_ ?_⟩
 ·rintro i σ0 H0 hi ⟨r1,r2,r3,r4,rfl,sm⟩
  refine ⟨_,rfl,_,rfl,a,_,rfl,Scr.same hS sm,by omega,by omega,fun b nb Hb hb0 sb hb=>?_⟩
  refine ⟨_,rfl,b,_,rfl,hb,fun rp r0 r1 R H1 n1 s1 hb1 hrm gr0 gr1 rmq=>?_⟩
  refine ⟨_,rfl,_,rfl,b,_,rp,r0,r1,R,rfl,hb1,hrm,gr0,gr1,rmq,fun f xs gs n2 H2 s2 hb2 fb nf hf2 al2 l1 bq=>?_⟩
  refine ⟨_,rfl,_,rfl,_,rfl,b,4,_,rfl,hb2,by decide,sm9 _ (by decide) (by decide),fun d3 n3 H3 lo3 hi3 s3 hb3=>?_⟩
  obtain ⟨mo,emo⟩:∃ mo:Nat,1+d3=(mo:Int):=⟨(1+d3).toNat,by omega⟩
  have hrm3:=s3.tup hb2 (s2.tup hb1 hrm)
  have gr03:=s3.tup hb2 (s2.tup hb1 gr0)
  have gr13:=s3.tup hb2 (s2.tup hb1 gr1)
  refine ⟨_,_,rfl,rfl,rp,r0,r1,f,R,xs,gs,mo,by show [V.ref rp,V.ref f,V.int (1+d3)]=_; rw [emo],by omega,hrm3,gr03,gr13,rmq,s3 _ _ fb hf2,bqs_but al2 s3 hb2,l1,bq,fun H4 s4=>⟨_,rfl,iteF ?_⟩⟩
  exact ⟨_,_,_,_,rfl,sm.trans (But.fresh hb0 ((But.of sb).trans (s1.trans (s2.trans (s3.trans (But.of s4))))))⟩
 ·rintro σ0 H0 ⟨r1,r2,r3,r4,rfl,sm⟩
  exact fin _
end
theorem len1 {p:List Value->Prop} (h:∀ x0,p [x0]):∀ us:List Value,us.length=1->p us:=by
 intro us e
 cases us with
 |nil=>exact absurd e (by show ¬ 0=1; decide)
 |cons x0 us=>
  cases us with
  |nil=>exact h x0
  |cons y us=>exact absurd e (by show ¬ us.length+2=1; omega)
theorem len2 {p:List Value->Prop} (h:∀ x0 x1,p [x0,x1]):∀ us:List Value,us.length=2->p us:=by
 intro us e
 cases us with
 |nil=>exact absurd e (by show ¬ 0=2; decide)
 |cons x0 us=>
  cases us with
  |nil=>exact absurd e (by show ¬ 1=2; decide)
  |cons x1 us=>
   cases us with
   |nil=>exact h x0 x1
   |cons y us=>exact absurd e (by show ¬ us.length+3=2; omega)
theorem len3 {p:List Value->Prop} (h:∀ x0 x1 x2,p [x0,x1,x2]):∀ us:List Value,us.length=3->p us:=by
 intro us e
 cases us with
 |nil=>exact absurd e (by show ¬ 0=3; decide)
 |cons x0 us=>
  cases us with
  |nil=>exact absurd e (by show ¬ 1=3; decide)
  |cons x1 us=>
   cases us with
   |nil=>exact absurd e (by show ¬ 2=3; decide)
   |cons x2 us=>
    cases us with
    |nil=>exact h x0 x1 x2
    |cons y us=>exact absurd e (by show ¬ us.length+4=3; omega)
theorem len5 {p:List Value->Prop} (h:∀ x0 x1 x2 x3 x4,p [x0,x1,x2,x3,x4]):∀ us:List Value,us.length=5->p us:=by
 intro us e
 cases us with
 |nil=>exact absurd e (by show ¬ 0=5; decide)
 |cons x0 us=>
  cases us with
  |nil=>exact absurd e (by show ¬ 1=5; decide)
  |cons x1 us=>
   cases us with
   |nil=>exact absurd e (by show ¬ 2=5; decide)
   |cons x2 us=>
    cases us with
    |nil=>exact absurd e (by show ¬ 3=5; decide)
    |cons x3 us=>
     cases us with
     |nil=>exact absurd e (by show ¬ 4=5; decide)
     |cons x4 us=>
      cases us with
      |nil=>exact h x0 x1 x2 x3 x4
      |cons y us=>exact absurd e (by show ¬ us.length+6=5; omega)
set_option maxHeartbeats 0 in
theorem all_mk {P:Program} {w:World} {K:PySem.W.Frag} {h:Heap} {mg:Str->Option Value} (X:K.In h) (G:h.Ns mainGlobals mg)
  {C_Plane f0 f1 f2 f3 f4 f5 f6 f7 f8 f9 f10 f11 f12 f13 f14 f15 f16 f17 f18 f19 f20 f21 f22 f23 f24 f25 f26 f27 f28 f29 f30 f31 f32 f33 f34 f35 f36 f37 f38 f39 f40 f41 f42 f43 f44 f45 f46 f47 f48 f49 f50 f51 f52 f53 f54 f55 f56 f57 f58 f59 f60 f61 f62 f63 f64 f65 f66 f67 f68 f69 f70 f71 f72 f73 f74 d2:Addr}
  {oc0 kV0 dc0 pm0 cd0 ct0 oc1 kV1 dc1 pm1 cd1 ct1 oc2 kV2 dc2 pm2 cd2 ct2 oc3 kV3 dc3 pm3 cd3 ct3 oc4 kV4 dc4 pm4 cd4 ct4 oc5 kV5 dc5 pm5 cd5 ct5 oc6 kV6 dc6 pm6 cd6 ct6 oc7 kV7 dc7 pm7 cd7 ct7 oc8 kV8 dc8 pm8 cd8 ct8 oc9 kV9 dc9 pm9 cd9 ct9 oc10 kV10 dc10 pm10 cd10 ct10 oc11 kV11 dc11 pm11 cd11 ct11 oc12 kV12 dc12 pm12 cd12 ct12 oc13 kV13 dc13 pm13 cd13 ct13 oc14 kV14 dc14 pm14 cd14 ct14 oc15 kV15 dc15 pm15 cd15 ct15 oc16 kV16 dc16 pm16 cd16 ct16 oc17 kV17 dc17 pm17 cd17 ct17 oc18 kV18 dc18 pm18 cd18 ct18 oc19 kV19 dc19 pm19 cd19 ct19 oc20 kV20 dc20 pm20 cd20 ct20 oc21 kV21 dc21 pm21 cd21 ct21 oc22 kV22 dc22 pm22 cd22 ct22 oc23 kV23 dc23 pm23 cd23 ct23 oc24 kV24 dc24 pm24 cd24 ct24 oc25 kV25 dc25 pm25 cd25 ct25 oc26 kV26 dc26 pm26 cd26 ct26 oc27 kV27 dc27 pm27 cd27 ct27 oc28 kV28 dc28 pm28 cd28 ct28 oc29 kV29 dc29 pm29 cd29 ct29 oc30 kV30 dc30 pm30 cd30 ct30 oc31 kV31 dc31 pm31 cd31 ct31 oc32 kV32 dc32 pm32 cd32 ct32 oc33 kV33 dc33 pm33 cd33 ct33 oc34 kV34 dc34 pm34 cd34 ct34 oc35 kV35 dc35 pm35 cd35 ct35 oc36 kV36 dc36 pm36 cd36 ct36 oc37 kV37 dc37 pm37 cd37 ct37 oc38 kV38 dc38 pm38 cd38 ct38 oc39 kV39 dc39 pm39 cd39 ct39 oc40 kV40 dc40 pm40 cd40 ct40 oc41 kV41 dc41 pm41 cd41 ct41 oc42 kV42 dc42 pm42 cd42 ct42 oc43 kV43 dc43 pm43 cd43 ct43 oc44 kV44 dc44 pm44 cd44 ct44 oc45 kV45 dc45 pm45 cd45 ct45 oc46 kV46 dc46 pm46 cd46 ct46 oc47 kV47 dc47 pm47 cd47 ct47 oc48 kV48 dc48 pm48 cd48 ct48 oc49 kV49 dc49 pm49 cd49 ct49 oc50 kV50 dc50 pm50 cd50 ct50 oc51 kV51 dc51 pm51 cd51 ct51 oc52 kV52 dc52 pm52 cd52 ct52 oc53 kV53 dc53 pm53 cd53 ct53 oc54 kV54 dc54 pm54 cd54 ct54 oc55 kV55 dc55 pm55 cd55 ct55 oc56 kV56 dc56 pm56 cd56 ct56 oc57 kV57 dc57 pm57 cd57 ct57 oc58 kV58 dc58 pm58 cd58 ct58 oc59 kV59 dc59 pm59 cd59 ct59 oc60 kV60 dc60 pm60 cd60 ct60 oc61 kV61 dc61 pm61 cd61 ct61 oc62 kV62 dc62 pm62 cd62 ct62 oc63 kV63 dc63 pm63 cd63 ct63 oc64 kV64 dc64 pm64 cd64 ct64 oc65 kV65 dc65 pm65 cd65 ct65 oc66 kV66 dc66 pm66 cd66 ct66 oc67 kV67 dc67 pm67 cd67 ct67 oc68 kV68 dc68 pm68 cd68 ct68 oc69 kV69 dc69 pm69 cd69 ct69 oc70 kV70 dc70 pm70 cd70 ct70 oc71 kV71 dc71 pm71 cd71 ct71 oc72 kV72 dc72 pm72 cd72 ct72 oc73 kV73 dc73 pm73 cd73 ct73 oc74 kV74 dc74 pm74 cd74 ct74:Value}
  {od0 an0 od1 an1 od2 an2 od3 an3 od4 an4 od5 an5 od6 an6 od7 an7 od8 an8 od9 an9 od10 an10 od11 an11 od12 an12 od13 an13 od14 an14 od15 an15 od16 an16 od17 an17 od18 an18 od19 an19 od20 an20 od21 an21 od22 an22 od23 an23 od24 an24 od25 an25 od26 an26 od27 an27 od28 an28 od29 an29 od30 an30 od31 an31 od32 an32 od33 an33 od34 an34 od35 an35 od36 an36 od37 an37 od38 an38 od39 an39 od40 an40 od41 an41 od42 an42 od43 an43 od44 an44 od45 an45 od46 an46 od47 an47 od48 an48 od49 an49 od50 an50 od51 an51 od52 an52 od53 an53 od54 an54 od55 an55 od56 an56 od57 an57 od58 an58 od59 an59 od60 an60 od61 an61 od62 an62 od63 an63 od64 an64 od65 an65 od66 an66 od67 an67 od68 an68 od69 an69 od70 an70 od71 an71 od72 an72 od73 an73 od74 an74:Option Addr}
  {sl0 sl1 sl2 sl3 sl4 sl5 sl6 sl7 sl8 sl9 sl10 sl11 sl12 sl13 sl14 sl15 sl16 sl17 sl18 sl19 sl20 sl21 sl22 sl23 sl24 sl25 sl26 sl27 sl28 sl29 sl30 sl31 sl32 sl33 sl34 sl35 sl36 sl37 sl38 sl39 sl40 sl41 sl42 sl43 sl44 sl45 sl46 sl47 sl48 sl49 sl50 sl51 sl52 sl53 sl54 sl55 sl56 sl57 sl58 sl59 sl60 sl61 sl62 sl63 sl64 sl65 sl66 sl67 sl68 sl69 sl70 sl71 sl72 sl73 sl74:Array (Option Value)}
  {cD2:Value} {oD2:Option Addr} {tD2:Tok} {nD2:Nat} {slD2:Array (Option Value)}
  {tk_LONG_BITS:Tok}
  {A_NOUGHT:Addr} {oG_NOUGHT:Option Addr} {k1_NOUGHT k2_NOUGHT:Tok} {nG_NOUGHT:Nat} {slG_NOUGHT:Array (Option Value)}
  {tk_ACROSS:Tok}
  {tk_ALONG:Tok}
  {tk_SIZES:Tok}
  {tk_SPEEDS:Tok}
  {A_ALL:Addr} {oG_ALL:Option Addr} {k1_ALL k2_ALL:Tok} {nG_ALL:Nat} {slG_ALL:Array (Option Value)}
  {A_WORDS:Addr} {oG_WORDS:Option Addr} {k1_WORDS k2_WORDS:Tok} {nG_WORDS:Nat} {slG_WORDS:Array (Option Value)}
  {tk_NEAR_WALL:Tok}
  {tk_FAR_WALL:Tok}
  {tk_MOST_WEIGHT:Tok}
  {tk_MOST_BOXES:Tok}
  {tk_MOST_MOMENTS:Tok}
  (c_Plane:PySem.W.nsIn K mainGlobals "Plane"=some (some (.ref C_Plane)))
  (b_isinstance:PySem.W.nsIn K mainGlobals "isinstance"=some none)
  (b_int:PySem.W.nsIn K mainGlobals "int"=some none)
  (b_bool:PySem.W.nsIn K mainGlobals "bool"=some none)
  (b_tuple:PySem.W.nsIn K mainGlobals "tuple"=some none)
  (b_list:PySem.W.nsIn K mainGlobals "list"=some none)
  (b_abs:PySem.W.nsIn K mainGlobals "abs"=some none)
  (b_len:PySem.W.nsIn K mainGlobals "len"=some none)
  (b_divmod:PySem.W.nsIn K mainGlobals "divmod"=some none)
  (b_range:PySem.W.nsIn K mainGlobals "range"=some none)
  (b_max:PySem.W.nsIn K mainGlobals "max"=some none)
  (b_min:PySem.W.nsIn K mainGlobals "min"=some none)
  (b_all:PySem.W.nsIn K mainGlobals "all"=some none)
  (b_any:PySem.W.nsIn K mainGlobals "any"=some none)
  (b_enumerate:PySem.W.nsIn K mainGlobals "enumerate"=some none)
  (b_set:PySem.W.nsIn K mainGlobals "set"=some none)
  (pg_Plane:PySem.W.plainGet K C_Plane Str.empty=true)
  (hd_Plane:PySem.W.hasDictIn K C_Plane=true)
  (po_Plane:PySem.W.plainOver K C_Plane=true)
  (sa_Plane:PySem.W.findIn K (.ref C_Plane) "__setattr__"=some (some (.builtin "object.__setattr__")))
  (mk_Plane:PySem.W.makesIn K C_Plane=true)
  (kp_Plane:PySem.W.keepIn K (.ref C_Plane)=true)
  (n_Plane_walls:PySem.W.findIn K (.ref C_Plane) "walls"=some none)
  (n_Plane_goings:PySem.W.findIn K (.ref C_Plane) "goings"=some none)
  (n_Plane_now:PySem.W.findIn K (.ref C_Plane) "now"=some none)
  (n_Plane_gone_through:PySem.W.findIn K (.ref C_Plane) "gone_through"=some none)
  (n_Plane_joints:PySem.W.findIn K (.ref C_Plane) "joints"=some none)
  (n_Plane_coming:PySem.W.findIn K (.ref C_Plane) "coming"=some none)
  (n_Plane_due:PySem.W.findIn K (.ref C_Plane) "due"=some none)
  (i_LONG_BITS:PySem.W.nsIn K mainGlobals "LONG_BITS"=some (some (.int 4000 tk_LONG_BITS)))
  (c_NOUGHT:PySem.W.nsIn K mainGlobals "NOUGHT"=some (some (.ref A_NOUGHT)))
  (z_NOUGHT:K.lookup A_NOUGHT=some ⟨.type "tuple",oG_NOUGHT,.seq #[.int 0 k1_NOUGHT,.int 1 k2_NOUGHT] nG_NOUGHT,slG_NOUGHT⟩)
  (i_ACROSS:PySem.W.nsIn K mainGlobals "ACROSS"=some (some (.int 0 tk_ACROSS)))
  (i_ALONG:PySem.W.nsIn K mainGlobals "ALONG"=some (some (.int 1 tk_ALONG)))
  (i_SIZES:PySem.W.nsIn K mainGlobals "SIZES"=some (some (.int 2 tk_SIZES)))
  (i_SPEEDS:PySem.W.nsIn K mainGlobals "SPEEDS"=some (some (.int 4 tk_SPEEDS)))
  (c_ALL:PySem.W.nsIn K mainGlobals "ALL"=some (some (.ref A_ALL)))
  (z_ALL:K.lookup A_ALL=some ⟨.type "tuple",oG_ALL,.seq #[.int 1 k1_ALL,.int 1 k2_ALL] nG_ALL,slG_ALL⟩)
  (c_WORDS:PySem.W.nsIn K mainGlobals "WORDS"=some (some (.ref A_WORDS)))
  (z_WORDS:K.lookup A_WORDS=some ⟨.type "tuple",oG_WORDS,.seq #[.str "across" k1_WORDS,.str "along" k2_WORDS] nG_WORDS,slG_WORDS⟩)
  (i_NEAR_WALL:PySem.W.nsIn K mainGlobals "NEAR_WALL"=some (some (.int (-1) tk_NEAR_WALL)))
  (i_FAR_WALL:PySem.W.nsIn K mainGlobals "FAR_WALL"=some (some (.int (-2) tk_FAR_WALL)))
  (i_MOST_WEIGHT:PySem.W.nsIn K mainGlobals "MOST_WEIGHT"=some (some (.int 1000 tk_MOST_WEIGHT)))
  (i_MOST_BOXES:PySem.W.nsIn K mainGlobals "MOST_BOXES"=some (some (.int 6 tk_MOST_BOXES)))
  (i_MOST_MOMENTS:PySem.W.nsIn K mainGlobals "MOST_MOMENTS"=some (some (.int 40 tk_MOST_MOMENTS)))
  (a0:PySem.W.nsIn K mainGlobals "is_whole"=some (some (.ref f0)))
  (l0:K.lookup f0=some ⟨oc0,od0,.func (PySem.W.fnOf "is_whole" "is_whole" (zK (top 9)) (zJ (top 9)) (zD (top 9)) .none kV0 dc0 pm0 an0 cd0 ct0),sl0⟩)
  (q0:PySem.W.codeIn K cd0 "is_whole"=true)
  (k0:PySem.W.keepIn K (.ref f0)=true)
  (a1:PySem.W.nsIn K mainGlobals "common_divisor"=some (some (.ref f1)))
  (l1:K.lookup f1=some ⟨oc1,od1,.func (PySem.W.fnOf "common_divisor" "common_divisor" (zK (top 11)) (zJ (top 11)) (zD (top 11)) .none kV1 dc1 pm1 an1 cd1 ct1),sl1⟩)
  (q1:PySem.W.codeIn K cd1 "common_divisor"=true)
  (k1:PySem.W.keepIn K (.ref f1)=true)
  (a2:PySem.W.nsIn K mainGlobals "fraction"=some (some (.ref f2)))
  (l2:K.lookup f2=some ⟨oc2,od2,.func (PySem.W.fnOf "fraction" "fraction" (zK (top 13)) (zJ (top 13)) (zD (top 13)) (.ref d2) kV2 dc2 pm2 an2 cd2 ct2),sl2⟩)
  (q2:PySem.W.codeIn K cd2 "fraction"=true)
  (k2:PySem.W.keepIn K (.ref f2)=true)
  (g2:K.lookup d2=some ⟨cD2,oD2,.seq #[.int 1 tD2] nD2,slD2⟩)
  (a3:PySem.W.nsIn K mainGlobals "plus"=some (some (.ref f3)))
  (l3:K.lookup f3=some ⟨oc3,od3,.func (PySem.W.fnOf "plus" "plus" (zK (top 14)) (zJ (top 14)) (zD (top 14)) .none kV3 dc3 pm3 an3 cd3 ct3),sl3⟩)
  (q3:PySem.W.codeIn K cd3 "plus"=true)
  (k3:PySem.W.keepIn K (.ref f3)=true)
  (a4:PySem.W.nsIn K mainGlobals "minus"=some (some (.ref f4)))
  (l4:K.lookup f4=some ⟨oc4,od4,.func (PySem.W.fnOf "minus" "minus" (zK (top 15)) (zJ (top 15)) (zD (top 15)) .none kV4 dc4 pm4 an4 cd4 ct4),sl4⟩)
  (q4:PySem.W.codeIn K cd4 "minus"=true)
  (k4:PySem.W.keepIn K (.ref f4)=true)
  (a5:PySem.W.nsIn K mainGlobals "times"=some (some (.ref f5)))
  (l5:K.lookup f5=some ⟨oc5,od5,.func (PySem.W.fnOf "times" "times" (zK (top 16)) (zJ (top 16)) (zD (top 16)) .none kV5 dc5 pm5 an5 cd5 ct5),sl5⟩)
  (q5:PySem.W.codeIn K cd5 "times"=true)
  (k5:PySem.W.keepIn K (.ref f5)=true)
  (a6:PySem.W.nsIn K mainGlobals "over"=some (some (.ref f6)))
  (l6:K.lookup f6=some ⟨oc6,od6,.func (PySem.W.fnOf "over" "over" (zK (top 17)) (zJ (top 17)) (zD (top 17)) .none kV6 dc6 pm6 an6 cd6 ct6),sl6⟩)
  (q6:PySem.W.codeIn K cd6 "over"=true)
  (k6:PySem.W.keepIn K (.ref f6)=true)
  (a7:PySem.W.nsIn K mainGlobals "under"=some (some (.ref f7)))
  (l7:K.lookup f7=some ⟨oc7,od7,.func (PySem.W.fnOf "under" "under" (zK (top 18)) (zJ (top 18)) (zD (top 18)) .none kV7 dc7 pm7 an7 cd7 ct7),sl7⟩)
  (q7:PySem.W.codeIn K cd7 "under"=true)
  (k7:PySem.W.keepIn K (.ref f7)=true)
  (a8:PySem.W.nsIn K mainGlobals "far_side"=some (some (.ref f8)))
  (l8:K.lookup f8=some ⟨oc8,od8,.func (PySem.W.fnOf "far_side" "far_side" (zK (top 39)) (zJ (top 39)) (zD (top 39)) .none kV8 dc8 pm8 an8 cd8 ct8),sl8⟩)
  (q8:PySem.W.codeIn K cd8 "far_side"=true)
  (k8:PySem.W.keepIn K (.ref f8)=true)
  (a9:PySem.W.nsIn K mainGlobals "have_in_common"=some (some (.ref f9)))
  (l9:K.lookup f9=some ⟨oc9,od9,.func (PySem.W.fnOf "have_in_common" "have_in_common" (zK (top 41)) (zJ (top 41)) (zD (top 41)) .none kV9 dc9 pm9 an9 cd9 ct9),sl9⟩)
  (q9:PySem.W.codeIn K cd9 "have_in_common"=true)
  (k9:PySem.W.keepIn K (.ref f9)=true)
  (a10:PySem.W.nsIn K mainGlobals "touches"=some (some (.ref f10)))
  (l10:K.lookup f10=some ⟨oc10,od10,.func (PySem.W.fnOf "touches" "touches" (zK (top 43)) (zJ (top 43)) (zD (top 43)) .none kV10 dc10 pm10 an10 cd10 ct10),sl10⟩)
  (q10:PySem.W.codeIn K cd10 "touches"=true)
  (k10:PySem.W.keepIn K (.ref f10)=true)
  (a11:PySem.W.nsIn K mainGlobals "are_beside"=some (some (.ref f11)))
  (l11:K.lookup f11=some ⟨oc11,od11,.func (PySem.W.fnOf "are_beside" "are_beside" (zK (top 44)) (zJ (top 44)) (zD (top 44)) .none kV11 dc11 pm11 an11 cd11 ct11),sl11⟩)
  (q11:PySem.W.codeIn K cd11 "are_beside"=true)
  (k11:PySem.W.keepIn K (.ref f11)=true)
  (a12:PySem.W.nsIn K mainGlobals "are_at_a_corner"=some (some (.ref f12)))
  (l12:K.lookup f12=some ⟨oc12,od12,.func (PySem.W.fnOf "are_at_a_corner" "are_at_a_corner" (zK (top 45)) (zJ (top 45)) (zD (top 45)) .none kV12 dc12 pm12 an12 cd12 ct12),sl12⟩)
  (q12:PySem.W.codeIn K cd12 "are_at_a_corner"=true)
  (k12:PySem.W.keepIn K (.ref f12)=true)
  (a13:PySem.W.nsIn K mainGlobals "place_at"=some (some (.ref f13)))
  (l13:K.lookup f13=some ⟨oc13,od13,.func (PySem.W.fnOf "place_at" "place_at" (zK (top 24)) (zJ (top 24)) (zD (top 24)) .none kV13 dc13 pm13 an13 cd13 ct13),sl13⟩)
  (q13:PySem.W.codeIn K cd13 "place_at"=true)
  (k13:PySem.W.keepIn K (.ref f13)=true)
  (a14:PySem.W.nsIn K mainGlobals "box_at"=some (some (.ref f14)))
  (l14:K.lookup f14=some ⟨oc14,od14,.func (PySem.W.fnOf "box_at" "box_at" (zK (top 46)) (zJ (top 46)) (zD (top 46)) .none kV14 dc14 pm14 an14 cd14 ct14),sl14⟩)
  (q14:PySem.W.codeIn K cd14 "box_at"=true)
  (k14:PySem.W.keepIn K (.ref f14)=true)
  (a15:PySem.W.nsIn K mainGlobals "near_going"=some (some (.ref f15)))
  (l15:K.lookup f15=some ⟨oc15,od15,.func (PySem.W.fnOf "near_going" "near_going" (zK (top 47)) (zJ (top 47)) (zD (top 47)) .none kV15 dc15 pm15 an15 cd15 ct15),sl15⟩)
  (q15:PySem.W.codeIn K cd15 "near_going"=true)
  (k15:PySem.W.keepIn K (.ref f15)=true)
  (a16:PySem.W.nsIn K mainGlobals "far_going"=some (some (.ref f16)))
  (l16:K.lookup f16=some ⟨oc16,od16,.func (PySem.W.fnOf "far_going" "far_going" (zK (top 48)) (zJ (top 48)) (zD (top 48)) .none kV16 dc16 pm16 an16 cd16 ct16),sl16⟩)
  (q16:PySem.W.codeIn K cd16 "far_going"=true)
  (k16:PySem.W.keepIn K (.ref f16)=true)
  (a17:PySem.W.nsIn K mainGlobals "with_near_going"=some (some (.ref f17)))
  (l17:K.lookup f17=some ⟨oc17,od17,.func (PySem.W.fnOf "with_near_going" "with_near_going" (zK (top 49)) (zJ (top 49)) (zD (top 49)) .none kV17 dc17 pm17 an17 cd17 ct17),sl17⟩)
  (q17:PySem.W.codeIn K cd17 "with_near_going"=true)
  (k17:PySem.W.keepIn K (.ref f17)=true)
  (a18:PySem.W.nsIn K mainGlobals "with_far_going"=some (some (.ref f18)))
  (l18:K.lookup f18=some ⟨oc18,od18,.func (PySem.W.fnOf "with_far_going" "with_far_going" (zK (top 50)) (zJ (top 50)) (zD (top 50)) .none kV18 dc18 pm18 an18 cd18 ct18),sl18⟩)
  (q18:PySem.W.codeIn K cd18 "with_far_going"=true)
  (k18:PySem.W.keepIn K (.ref f18)=true)
  (a19:PySem.W.nsIn K mainGlobals "mixed"=some (some (.ref f19)))
  (l19:K.lookup f19=some ⟨oc19,od19,.func (PySem.W.fnOf "mixed" "mixed" (zK (top 26)) (zJ (top 26)) (zD (top 26)) .none kV19 dc19 pm19 an19 cd19 ct19),sl19⟩)
  (q19:PySem.W.codeIn K cd19 "mixed"=true)
  (k19:PySem.W.keepIn K (.ref f19)=true)
  (a20:PySem.W.nsIn K mainGlobals "behind"=some (some (.ref f20)))
  (l20:K.lookup f20=some ⟨oc20,od20,.func (PySem.W.fnOf "behind" "behind" (zK (top 27)) (zJ (top 27)) (zD (top 27)) .none kV20 dc20 pm20 an20 cd20 ct20),sl20⟩)
  (q20:PySem.W.codeIn K cd20 "behind"=true)
  (k20:PySem.W.keepIn K (.ref f20)=true)
  (a21:PySem.W.nsIn K mainGlobals "turned_about"=some (some (.ref f21)))
  (l21:K.lookup f21=some ⟨oc21,od21,.func (PySem.W.fnOf "turned_about" "turned_about" (zK (top 52)) (zJ (top 52)) (zD (top 52)) .none kV21 dc21 pm21 an21 cd21 ct21),sl21⟩)
  (q21:PySem.W.codeIn K cd21 "turned_about"=true)
  (k21:PySem.W.keepIn K (.ref f21)=true)
  (a22:PySem.W.nsIn K mainGlobals "parted"=some (some (.ref f22)))
  (l22:K.lookup f22=some ⟨oc22,od22,.func (PySem.W.fnOf "parted" "parted" (zK (top 63)) (zJ (top 63)) (zD (top 63)) .none kV22 dc22 pm22 an22 cd22 ct22),sl22⟩)
  (q22:PySem.W.codeIn K cd22 "parted"=true)
  (k22:PySem.W.keepIn K (.ref f22)=true)
  (a23:PySem.W.nsIn K mainGlobals "joint_moment"=some (some (.ref f23)))
  (l23:K.lookup f23=some ⟨oc23,od23,.func (PySem.W.fnOf "joint_moment" "joint_moment" (zK (top 25)) (zJ (top 25)) (zD (top 25)) .none kV23 dc23 pm23 an23 cd23 ct23),sl23⟩)
  (q23:PySem.W.codeIn K cd23 "joint_moment"=true)
  (k23:PySem.W.keepIn K (.ref f23)=true)
  (a24:PySem.W.findIn K (.ref C_Plane) "one_of"=some (some (.ref f24)))
  (t24:PySem.W.isFn K (.ref f24)=true)
  (l24:K.lookup f24=some ⟨oc24,od24,.func (PySem.W.fnOf "one_of" "Plane.one_of" (zK (zP (top 65) 1)) (zJ (zP (top 65) 1)) (zD (zP (top 65) 1)) .none kV24 dc24 pm24 an24 cd24 ct24),sl24⟩)
  (q24:PySem.W.codeIn K cd24 "Plane.one_of"=true)
  (k24:PySem.W.keepIn K (.ref f24)=true)
  (a25:PySem.W.findIn K (.ref C_Plane) "other_of"=some (some (.ref f25)))
  (t25:PySem.W.isFn K (.ref f25)=true)
  (l25:K.lookup f25=some ⟨oc25,od25,.func (PySem.W.fnOf "other_of" "Plane.other_of" (zK (zP (top 65) 2)) (zJ (zP (top 65) 2)) (zD (zP (top 65) 2)) .none kV25 dc25 pm25 an25 cd25 ct25),sl25⟩)
  (q25:PySem.W.codeIn K cd25 "Plane.other_of"=true)
  (k25:PySem.W.keepIn K (.ref f25)=true)
  (a26:PySem.W.findIn K (.ref C_Plane) "joint_of"=some (some (.ref f26)))
  (t26:PySem.W.isFn K (.ref f26)=true)
  (l26:K.lookup f26=some ⟨oc26,od26,.func (PySem.W.fnOf "joint_of" "Plane.joint_of" (zK (zP (top 65) 3)) (zJ (zP (top 65) 3)) (zD (zP (top 65) 3)) .none kV26 dc26 pm26 an26 cd26 ct26),sl26⟩)
  (q26:PySem.W.codeIn K cd26 "Plane.joint_of"=true)
  (k26:PySem.W.keepIn K (.ref f26)=true)
  (a27:PySem.W.findIn K (.ref C_Plane) "meet_at"=some (some (.ref f27)))
  (t27:PySem.W.isFn K (.ref f27)=true)
  (l27:K.lookup f27=some ⟨oc27,od27,.func (PySem.W.fnOf "meet_at" "Plane.meet_at" (zK (zP (top 65) 8)) (zJ (zP (top 65) 8)) (zD (zP (top 65) 8)) .none kV27 dc27 pm27 an27 cd27 ct27),sl27⟩)
  (q27:PySem.W.codeIn K cd27 "Plane.meet_at"=true)
  (k27:PySem.W.keepIn K (.ref f27)=true)
  (a28:PySem.W.findIn K (.ref C_Plane) "close_at_a_corner"=some (some (.ref f28)))
  (t28:PySem.W.isFn K (.ref f28)=true)
  (l28:K.lookup f28=some ⟨oc28,od28,.func (PySem.W.fnOf "close_at_a_corner" "Plane.close_at_a_corner" (zK (zP (top 65) 9)) (zJ (zP (top 65) 9)) (zD (zP (top 65) 9)) .none kV28 dc28 pm28 an28 cd28 ct28),sl28⟩)
  (q28:PySem.W.codeIn K cd28 "Plane.close_at_a_corner"=true)
  (k28:PySem.W.keepIn K (.ref f28)=true)
  (a29:PySem.W.findIn K (.ref C_Plane) "is_sooner"=some (some (.ref f29)))
  (t29:PySem.W.isFn K (.ref f29)=true)
  (l29:K.lookup f29=some ⟨oc29,od29,.func (PySem.W.fnOf "is_sooner" "Plane.is_sooner" (zK (zP (top 65) 6)) (zJ (zP (top 65) 6)) (zD (zP (top 65) 6)) .none kV29 dc29 pm29 an29 cd29 ct29),sl29⟩)
  (q29:PySem.W.codeIn K cd29 "Plane.is_sooner"=true)
  (k29:PySem.W.keepIn K (.ref f29)=true)
  (a30:PySem.W.findIn K (.ref C_Plane) "is_coming"=some (some (.ref f30)))
  (t30:PySem.W.isFn K (.ref f30)=true)
  (l30:K.lookup f30=some ⟨oc30,od30,.func (PySem.W.fnOf "is_coming" "Plane.is_coming" (zK (zP (top 65) 7)) (zJ (zP (top 65) 7)) (zD (zP (top 65) 7)) .none kV30 dc30 pm30 an30 cd30 ct30),sl30⟩)
  (q30:PySem.W.codeIn K cd30 "Plane.is_coming"=true)
  (k30:PySem.W.keepIn K (.ref f30)=true)
  (a31:PySem.W.findIn K (.ref C_Plane) "look_ahead"=some (some (.ref f31)))
  (t31:PySem.W.isFn K (.ref f31)=true)
  (l31:K.lookup f31=some ⟨oc31,od31,.func (PySem.W.fnOf "look_ahead" "Plane.look_ahead" (zK (zP (top 65) 5)) (zJ (zP (top 65) 5)) (zD (zP (top 65) 5)) .none kV31 dc31 pm31 an31 cd31 ct31),sl31⟩)
  (q31:PySem.W.codeIn K cd31 "Plane.look_ahead"=true)
  (k31:PySem.W.keepIn K (.ref f31)=true)
  (a32:PySem.W.findIn K (.ref C_Plane) "bodies_at"=some (some (.ref f32)))
  (t32:PySem.W.isFn K (.ref f32)=true)
  (l32:K.lookup f32=some ⟨oc32,od32,.func (PySem.W.fnOf "bodies_at" "Plane.bodies_at" (zK (zP (top 65) 4)) (zJ (zP (top 65) 4)) (zD (zP (top 65) 4)) .none kV32 dc32 pm32 an32 cd32 ct32),sl32⟩)
  (q32:PySem.W.codeIn K cd32 "Plane.bodies_at"=true)
  (k32:PySem.W.keepIn K (.ref f32)=true)
  (a33:PySem.W.findIn K (.ref C_Plane) "meetings"=some (some (.ref f33)))
  (t33:PySem.W.isFn K (.ref f33)=true)
  (l33:K.lookup f33=some ⟨oc33,od33,.func (PySem.W.fnOf "meetings" "Plane.meetings" (zK (zP (top 65) 10)) (zJ (zP (top 65) 10)) (zD (zP (top 65) 10)) .none kV33 dc33 pm33 an33 cd33 ct33),sl33⟩)
  (q33:PySem.W.codeIn K cd33 "Plane.meetings"=true)
  (k33:PySem.W.keepIn K (.ref f33)=true)
  (a34:PySem.W.findIn K (.ref C_Plane) "boxes_met"=some (some (.ref f34)))
  (t34:PySem.W.isFn K (.ref f34)=true)
  (l34:K.lookup f34=some ⟨oc34,od34,.func (PySem.W.fnOf "boxes_met" "Plane.boxes_met" (zK (zP (top 65) 11)) (zJ (zP (top 65) 11)) (zD (zP (top 65) 11)) .none kV34 dc34 pm34 an34 cd34 ct34),sl34⟩)
  (q34:PySem.W.codeIn K cd34 "Plane.boxes_met"=true)
  (k34:PySem.W.keepIn K (.ref f34)=true)
  (a35:PySem.W.findIn K (.ref C_Plane) "has_two_meetings"=some (some (.ref f35)))
  (t35:PySem.W.isFn K (.ref f35)=true)
  (l35:K.lookup f35=some ⟨oc35,od35,.func (PySem.W.fnOf "has_two_meetings" "Plane.has_two_meetings" (zK (zP (top 65) 13)) (zJ (zP (top 65) 13)) (zD (zP (top 65) 13)) .none kV35 dc35 pm35 an35 cd35 ct35),sl35⟩)
  (q35:PySem.W.codeIn K cd35 "Plane.has_two_meetings"=true)
  (k35:PySem.W.keepIn K (.ref f35)=true)
  (a36:PySem.W.findIn K (.ref C_Plane) "is_hemmed_in"=some (some (.ref f36)))
  (t36:PySem.W.isFn K (.ref f36)=true)
  (l36:K.lookup f36=some ⟨oc36,od36,.func (PySem.W.fnOf "is_hemmed_in" "Plane.is_hemmed_in" (zK (zP (top 65) 14)) (zJ (zP (top 65) 14)) (zD (zP (top 65) 14)) .none kV36 dc36 pm36 an36 cd36 ct36),sl36⟩)
  (q36:PySem.W.codeIn K cd36 "Plane.is_hemmed_in"=true)
  (k36:PySem.W.keepIn K (.ref f36)=true)
  (a37:PySem.W.findIn K (.ref C_Plane) "has_a_corner"=some (some (.ref f37)))
  (t37:PySem.W.isFn K (.ref f37)=true)
  (l37:K.lookup f37=some ⟨oc37,od37,.func (PySem.W.fnOf "has_a_corner" "Plane.has_a_corner" (zK (zP (top 65) 15)) (zJ (zP (top 65) 15)) (zD (zP (top 65) 15)) .none kV37 dc37 pm37 an37 cd37 ct37),sl37⟩)
  (q37:PySem.W.codeIn K cd37 "Plane.has_a_corner"=true)
  (k37:PySem.W.keepIn K (.ref f37)=true)
  (a38:PySem.W.findIn K (.ref C_Plane) "is_crowded"=some (some (.ref f38)))
  (t38:PySem.W.isFn K (.ref f38)=true)
  (l38:K.lookup f38=some ⟨oc38,od38,.func (PySem.W.fnOf "is_crowded" "Plane.is_crowded" (zK (zP (top 65) 12)) (zJ (zP (top 65) 12)) (zD (zP (top 65) 12)) .none kV38 dc38 pm38 an38 cd38 ct38),sl38⟩)
  (q38:PySem.W.codeIn K cd38 "Plane.is_crowded"=true)
  (k38:PySem.W.keepIn K (.ref f38)=true)
  (a39:PySem.W.findIn K (.ref C_Plane) "part"=some (some (.ref f39)))
  (t39:PySem.W.isFn K (.ref f39)=true)
  (l39:K.lookup f39=some ⟨oc39,od39,.func (PySem.W.fnOf "part" "Plane.part" (zK (zP (top 65) 17)) (zJ (zP (top 65) 17)) (zD (zP (top 65) 17)) .none kV39 dc39 pm39 an39 cd39 ct39),sl39⟩)
  (q39:PySem.W.codeIn K cd39 "Plane.part"=true)
  (k39:PySem.W.keepIn K (.ref f39)=true)
  (a40:PySem.W.findIn K (.ref C_Plane) "go_on"=some (some (.ref f40)))
  (t40:PySem.W.isFn K (.ref f40)=true)
  (l40:K.lookup f40=some ⟨oc40,od40,.func (PySem.W.fnOf "go_on" "Plane.go_on" (zK (zP (top 65) 16)) (zJ (zP (top 65) 16)) (zD (zP (top 65) 16)) .none kV40 dc40 pm40 an40 cd40 ct40),sl40⟩)
  (q40:PySem.W.codeIn K cd40 "Plane.go_on"=true)
  (k40:PySem.W.keepIn K (.ref f40)=true)
  (a41:PySem.W.nsIn K mainGlobals "walls_of"=some (some (.ref f41)))
  (l41:K.lookup f41=some ⟨oc41,od41,.func (PySem.W.fnOf "walls_of" "walls_of" (zK (top 62)) (zJ (top 62)) (zD (top 62)) .none kV41 dc41 pm41 an41 cd41 ct41),sl41⟩)
  (q41:PySem.W.codeIn K cd41 "walls_of"=true)
  (k41:PySem.W.keepIn K (.ref f41)=true)
  (a42:PySem.W.nsIn K mainGlobals "all_pairs"=some (some (.ref f42)))
  (l42:K.lookup f42=some ⟨oc42,od42,.func (PySem.W.fnOf "all_pairs" "all_pairs" (zK (top 64)) (zJ (top 64)) (zD (top 64)) .none kV42 dc42 pm42 an42 cd42 ct42),sl42⟩)
  (q42:PySem.W.codeIn K cd42 "all_pairs"=true)
  (k42:PySem.W.keepIn K (.ref f42)=true)
  (a43:PySem.W.findIn K (.ref C_Plane) "__init__"=some (some (.ref f43)))
  (t43:PySem.W.isFn K (.ref f43)=true)
  (l43:K.lookup f43=some ⟨oc43,od43,.func (PySem.W.fnOf "__init__" "Plane.__init__" (zK (zP (top 65) 0)) (zJ (zP (top 65) 0)) (zD (zP (top 65) 0)) .none kV43 dc43 pm43 an43 cd43 ct43),sl43⟩)
  (q43:PySem.W.codeIn K cd43 "Plane.__init__"=true)
  (k43:PySem.W.keepIn K (.ref f43)=true)
  (a44:PySem.W.nsIn K mainGlobals "end_word"=some (some (.ref f44)))
  (l44:K.lookup f44=some ⟨oc44,od44,.func (PySem.W.fnOf "end_word" "end_word" (zK (top 54)) (zJ (top 54)) (zD (top 54)) .none kV44 dc44 pm44 an44 cd44 ct44),sl44⟩)
  (q44:PySem.W.codeIn K cd44 "end_word"=true)
  (k44:PySem.W.keepIn K (.ref f44)=true)
  (a45:PySem.W.nsIn K mainGlobals "run_along"=some (some (.ref f45)))
  (l45:K.lookup f45=some ⟨oc45,od45,.func (PySem.W.fnOf "run_along" "run_along" (zK (top 55)) (zJ (top 55)) (zD (top 55)) .none kV45 dc45 pm45 an45 cd45 ct45),sl45⟩)
  (q45:PySem.W.codeIn K cd45 "run_along"=true)
  (k45:PySem.W.keepIn K (.ref f45)=true)
  (a46:PySem.W.nsIn K mainGlobals "is_fraction"=some (some (.ref f46)))
  (l46:K.lookup f46=some ⟨oc46,od46,.func (PySem.W.fnOf "is_fraction" "is_fraction" (zK (top 12)) (zJ (top 12)) (zD (top 12)) .none kV46 dc46 pm46 an46 cd46 ct46),sl46⟩)
  (q46:PySem.W.codeIn K cd46 "is_fraction"=true)
  (k46:PySem.W.keepIn K (.ref f46)=true)
  (a47:PySem.W.nsIn K mainGlobals "is_breadth"=some (some (.ref f47)))
  (l47:K.lookup f47=some ⟨oc47,od47,.func (PySem.W.fnOf "is_breadth" "is_breadth" (zK (top 36)) (zJ (top 36)) (zD (top 36)) .none kV47 dc47 pm47 an47 cd47 ct47),sl47⟩)
  (q47:PySem.W.codeIn K cd47 "is_breadth"=true)
  (k47:PySem.W.keepIn K (.ref f47)=true)
  (a48:PySem.W.nsIn K mainGlobals "is_weight"=some (some (.ref f48)))
  (l48:K.lookup f48=some ⟨oc48,od48,.func (PySem.W.fnOf "is_weight" "is_weight" (zK (top 30)) (zJ (top 30)) (zD (top 30)) .none kV48 dc48 pm48 an48 cd48 ct48),sl48⟩)
  (q48:PySem.W.codeIn K cd48 "is_weight"=true)
  (k48:PySem.W.keepIn K (.ref f48)=true)
  (a49:PySem.W.nsIn K mainGlobals "is_box"=some (some (.ref f49)))
  (l49:K.lookup f49=some ⟨oc49,od49,.func (PySem.W.fnOf "is_box" "is_box" (zK (top 37)) (zJ (top 37)) (zD (top 37)) .none kV49 dc49 pm49 an49 cd49 ct49),sl49⟩)
  (q49:PySem.W.codeIn K cd49 "is_box"=true)
  (k49:PySem.W.keepIn K (.ref f49)=true)
  (a50:PySem.W.nsIn K mainGlobals "is_room"=some (some (.ref f50)))
  (l50:K.lookup f50=some ⟨oc50,od50,.func (PySem.W.fnOf "is_room" "is_room" (zK (top 38)) (zJ (top 38)) (zD (top 38)) .none kV50 dc50 pm50 an50 cd50 ct50),sl50⟩)
  (q50:PySem.W.codeIn K cd50 "is_room"=true)
  (k50:PySem.W.keepIn K (.ref f50)=true)
  (a51:PySem.W.nsIn K mainGlobals "is_within"=some (some (.ref f51)))
  (l51:K.lookup f51=some ⟨oc51,od51,.func (PySem.W.fnOf "is_within" "is_within" (zK (top 40)) (zJ (top 40)) (zD (top 40)) .none kV51 dc51 pm51 an51 cd51 ct51),sl51⟩)
  (q51:PySem.W.codeIn K cd51 "is_within"=true)
  (k51:PySem.W.keepIn K (.ref f51)=true)
  (a52:PySem.W.nsIn K mainGlobals "overlap"=some (some (.ref f52)))
  (l52:K.lookup f52=some ⟨oc52,od52,.func (PySem.W.fnOf "overlap" "overlap" (zK (top 42)) (zJ (top 42)) (zD (top 42)) .none kV52 dc52 pm52 an52 cd52 ct52),sl52⟩)
  (q52:PySem.W.codeIn K cd52 "overlap"=true)
  (k52:PySem.W.keepIn K (.ref f52)=true)
  (a53:PySem.W.nsIn K mainGlobals "refuse_boxes"=some (some (.ref f53)))
  (l53:K.lookup f53=some ⟨oc53,od53,.func (PySem.W.fnOf "refuse_boxes" "refuse_boxes" (zK (top 61)) (zJ (top 61)) (zD (top 61)) .none kV53 dc53 pm53 an53 cd53 ct53),sl53⟩)
  (q53:PySem.W.codeIn K cd53 "refuse_boxes"=true)
  (k53:PySem.W.keepIn K (.ref f53)=true)
  (a54:PySem.W.nsIn K mainGlobals "refuse_number_of_moments"=some (some (.ref f54)))
  (l54:K.lookup f54=some ⟨oc54,od54,.func (PySem.W.fnOf "refuse_number_of_moments" "refuse_number_of_moments" (zK (top 23)) (zJ (top 23)) (zD (top 23)) .none kV54 dc54 pm54 an54 cd54 ct54),sl54⟩)
  (q54:PySem.W.codeIn K cd54 "refuse_number_of_moments"=true)
  (k54:PySem.W.keepIn K (.ref f54)=true)
  (a55:PySem.W.nsIn K mainGlobals "run_in"=some (some (.ref f55)))
  (l55:K.lookup f55=some ⟨oc55,od55,.func (PySem.W.fnOf "run_in" "run_in" (zK (top 66)) (zJ (top 66)) (zD (top 66)) .none kV55 dc55 pm55 an55 cd55 ct55),sl55⟩)
  (q55:PySem.W.codeIn K cd55 "run_in"=true)
  (k55:PySem.W.keepIn K (.ref f55)=true)
  (a56:PySem.W.nsIn K mainGlobals "_law_cell"=some (some (.ref f56)))
  (l56:K.lookup f56=some ⟨oc56,od56,.func (PySem.W.fnOf "_law_cell" "_law_cell" (zK (top 68)) (zJ (top 68)) (zD (top 68)) .none kV56 dc56 pm56 an56 cd56 ct56),sl56⟩)
  (q56:PySem.W.codeIn K cd56 "_law_cell"=true)
  (k56:PySem.W.keepIn K (.ref f56)=true)
  (a57:PySem.W.nsIn K mainGlobals "_law_mix"=some (some (.ref f57)))
  (l57:K.lookup f57=some ⟨oc57,od57,.func (PySem.W.fnOf "_law_mix" "_law_mix" (zK (top 69)) (zJ (top 69)) (zD (top 69)) .none kV57 dc57 pm57 an57 cd57 ct57),sl57⟩)
  (q57:PySem.W.codeIn K cd57 "_law_mix"=true)
  (k57:PySem.W.keepIn K (.ref f57)=true)
  (a58:PySem.W.nsIn K mainGlobals "_law_box"=some (some (.ref f58)))
  (l58:K.lookup f58=some ⟨oc58,od58,.func (PySem.W.fnOf "_law_box" "_law_box" (zK (top 70)) (zJ (top 70)) (zD (top 70)) .none kV58 dc58 pm58 an58 cd58 ct58),sl58⟩)
  (q58:PySem.W.codeIn K cd58 "_law_box"=true)
  (k58:PySem.W.keepIn K (.ref f58)=true)
  (a59:PySem.W.nsIn K mainGlobals "_law_take"=some (some (.ref f59)))
  (l59:K.lookup f59=some ⟨oc59,od59,.func (PySem.W.fnOf "_law_take" "_law_take" (zK (top 71)) (zJ (top 71)) (zD (top 71)) .none kV59 dc59 pm59 an59 cd59 ct59),sl59⟩)
  (q59:PySem.W.codeIn K cd59 "_law_take"=true)
  (k59:PySem.W.keepIn K (.ref f59)=true)
  (a60:PySem.W.nsIn K mainGlobals "_law_fit"=some (some (.ref f60)))
  (l60:K.lookup f60=some ⟨oc60,od60,.func (PySem.W.fnOf "_law_fit" "_law_fit" (zK (top 72)) (zJ (top 72)) (zD (top 72)) .none kV60 dc60 pm60 an60 cd60 ct60),sl60⟩)
  (q60:PySem.W.codeIn K cd60 "_law_fit"=true)
  (k60:PySem.W.keepIn K (.ref f60)=true)
  (a61:PySem.W.nsIn K mainGlobals "_law_plus"=some (some (.ref f61)))
  (l61:K.lookup f61=some ⟨oc61,od61,.func (PySem.W.fnOf "_law_plus" "_law_plus" (zK (top 73)) (zJ (top 73)) (zD (top 73)) .none kV61 dc61 pm61 an61 cd61 ct61),sl61⟩)
  (q61:PySem.W.codeIn K cd61 "_law_plus"=true)
  (k61:PySem.W.keepIn K (.ref f61)=true)
  (a62:PySem.W.nsIn K mainGlobals "_law_minus"=some (some (.ref f62)))
  (l62:K.lookup f62=some ⟨oc62,od62,.func (PySem.W.fnOf "_law_minus" "_law_minus" (zK (top 74)) (zJ (top 74)) (zD (top 74)) .none kV62 dc62 pm62 an62 cd62 ct62),sl62⟩)
  (q62:PySem.W.codeIn K cd62 "_law_minus"=true)
  (k62:PySem.W.keepIn K (.ref f62)=true)
  (a63:PySem.W.nsIn K mainGlobals "_law_times"=some (some (.ref f63)))
  (l63:K.lookup f63=some ⟨oc63,od63,.func (PySem.W.fnOf "_law_times" "_law_times" (zK (top 75)) (zJ (top 75)) (zD (top 75)) .none kV63 dc63 pm63 an63 cd63 ct63),sl63⟩)
  (q63:PySem.W.codeIn K cd63 "_law_times"=true)
  (k63:PySem.W.keepIn K (.ref f63)=true)
  (a64:PySem.W.nsIn K mainGlobals "_law_over"=some (some (.ref f64)))
  (l64:K.lookup f64=some ⟨oc64,od64,.func (PySem.W.fnOf "_law_over" "_law_over" (zK (top 76)) (zJ (top 76)) (zD (top 76)) .none kV64 dc64 pm64 an64 cd64 ct64),sl64⟩)
  (q64:PySem.W.codeIn K cd64 "_law_over"=true)
  (k64:PySem.W.keepIn K (.ref f64)=true)
  (a65:PySem.W.nsIn K mainGlobals "_law_less"=some (some (.ref f65)))
  (l65:K.lookup f65=some ⟨oc65,od65,.func (PySem.W.fnOf "_law_less" "_law_less" (zK (top 77)) (zJ (top 77)) (zD (top 77)) .none kV65 dc65 pm65 an65 cd65 ct65),sl65⟩)
  (q65:PySem.W.codeIn K cd65 "_law_less"=true)
  (k65:PySem.W.keepIn K (.ref f65)=true)
  (a66:PySem.W.nsIn K mainGlobals "_law_room"=some (some (.ref f66)))
  (l66:K.lookup f66=some ⟨oc66,od66,.func (PySem.W.fnOf "_law_room" "_law_room" (zK (top 78)) (zJ (top 78)) (zD (top 78)) .none kV66 dc66 pm66 an66 cd66 ct66),sl66⟩)
  (q66:PySem.W.codeIn K cd66 "_law_room"=true)
  (k66:PySem.W.keepIn K (.ref f66)=true)
  (a67:PySem.W.nsIn K mainGlobals "_law_apart"=some (some (.ref f67)))
  (l67:K.lookup f67=some ⟨oc67,od67,.func (PySem.W.fnOf "_law_apart" "_law_apart" (zK (top 79)) (zJ (top 79)) (zD (top 79)) .none kV67 dc67 pm67 an67 cd67 ct67),sl67⟩)
  (q67:PySem.W.codeIn K cd67 "_law_apart"=true)
  (k67:PySem.W.keepIn K (.ref f67)=true)
  (a68:PySem.W.nsIn K mainGlobals "_law_boxes"=some (some (.ref f68)))
  (l68:K.lookup f68=some ⟨oc68,od68,.func (PySem.W.fnOf "_law_boxes" "_law_boxes" (zK (top 80)) (zJ (top 80)) (zD (top 80)) .none kV68 dc68 pm68 an68 cd68 ct68),sl68⟩)
  (q68:PySem.W.codeIn K cd68 "_law_boxes"=true)
  (k68:PySem.W.keepIn K (.ref f68)=true)
  (a69:PySem.W.nsIn K mainGlobals "_law_end"=some (some (.ref f69)))
  (l69:K.lookup f69=some ⟨oc69,od69,.func (PySem.W.fnOf "_law_end" "_law_end" (zK (top 81)) (zJ (top 81)) (zD (top 81)) .none kV69 dc69 pm69 an69 cd69 ct69),sl69⟩)
  (q69:PySem.W.codeIn K cd69 "_law_end"=true)
  (k69:PySem.W.keepIn K (.ref f69)=true)
  (a70:PySem.W.nsIn K mainGlobals "_law_led"=some (some (.ref f70)))
  (l70:K.lookup f70=some ⟨oc70,od70,.func (PySem.W.fnOf "_law_led" "_law_led" (zK (top 82)) (zJ (top 82)) (zD (top 82)) .none kV70 dc70 pm70 an70 cd70 ct70),sl70⟩)
  (q70:PySem.W.codeIn K cd70 "_law_led"=true)
  (k70:PySem.W.keepIn K (.ref f70)=true)
  (a71:PySem.W.nsIn K mainGlobals "_law_might"=some (some (.ref f71)))
  (l71:K.lookup f71=some ⟨oc71,od71,.func (PySem.W.fnOf "_law_might" "_law_might" (zK (top 83)) (zJ (top 83)) (zD (top 83)) .none kV71 dc71 pm71 an71 cd71 ct71),sl71⟩)
  (q71:PySem.W.codeIn K cd71 "_law_might"=true)
  (k71:PySem.W.keepIn K (.ref f71)=true)
  (a72:PySem.W.nsIn K mainGlobals "_law_fits"=some (some (.ref f72)))
  (l72:K.lookup f72=some ⟨oc72,od72,.func (PySem.W.fnOf "_law_fits" "_law_fits" (zK (top 84)) (zJ (top 84)) (zD (top 84)) .none kV72 dc72 pm72 an72 cd72 ct72),sl72⟩)
  (q72:PySem.W.codeIn K cd72 "_law_fits"=true)
  (k72:PySem.W.keepIn K (.ref f72)=true)
  (a73:PySem.W.nsIn K mainGlobals "_law_runs_right"=some (some (.ref f73)))
  (l73:K.lookup f73=some ⟨oc73,od73,.func (PySem.W.fnOf "_law_runs_right" "_law_runs_right" (zK (top 85)) (zJ (top 85)) (zD (top 85)) .none kV73 dc73 pm73 an73 cd73 ct73),sl73⟩)
  (q73:PySem.W.codeIn K cd73 "_law_runs_right"=true)
  (k73:PySem.W.keepIn K (.ref f73)=true)
  (a74:PySem.W.nsIn K mainGlobals "law"=some (some (.ref f74)))
  (l74:K.lookup f74=some ⟨oc74,od74,.func (PySem.W.fnOf "law" "law" (zK (top 86)) (zJ (top 86)) (zD (top 86)) .none kV74 dc74 pm74 an74 cd74 ct74),sl74⟩)
  (q74:PySem.W.codeIn K cd74 "law"=true)
  (k74:PySem.W.keepIn K (.ref f74)=true) :
  ∃ fa,mg "law"=some (.ref fa)∧∃ fd:FuncData,(∀ (s:Shared) (u:Value),BindsTo s fd ⟨[u],[]⟩ [("script",u)])∧∀ base:Heap,K.In base→base.Ns mainGlobals mg→FnOk P w K mg base (CXE P w) 12 fa fd ["script"] (Jv K):=by
 have T:Tx K mg (clsAt [C_Plane]):=⟨PySem.W.mg_none_of X G b_isinstance,PySem.W.mg_none_of X G b_int,PySem.W.mg_none_of X G b_bool,PySem.W.mg_none_of X G b_tuple,PySem.W.mg_none_of X G b_list,PySem.W.mg_none_of X G b_abs,PySem.W.mg_none_of X G b_len,PySem.W.mg_none_of X G b_divmod,PySem.W.mg_none_of X G b_range,PySem.W.mg_none_of X G b_max,PySem.W.mg_none_of X G b_min,PySem.W.mg_none_of X G b_all,PySem.W.mg_none_of X G b_any,PySem.W.mg_none_of X G b_enumerate,PySem.W.mg_none_of X G b_set,PySem.W.mg_of X G c_Plane,⟨pg_Plane,hd_Plane,po_Plane,sa_Plane⟩,mk_Plane,kp_Plane,n_Plane_walls,n_Plane_goings,n_Plane_now,n_Plane_gone_through,n_Plane_joints,n_Plane_coming,n_Plane_due,⟨_,PySem.W.mg_of X G i_LONG_BITS⟩,⟨_,PySem.W.mg_of X G c_NOUGHT,Jw z_NOUGHT⟩,⟨_,PySem.W.mg_of X G i_ACROSS⟩,⟨_,PySem.W.mg_of X G i_ALONG⟩,⟨_,PySem.W.mg_of X G i_SIZES⟩,⟨_,PySem.W.mg_of X G i_SPEEDS⟩,⟨_,PySem.W.mg_of X G c_ALL,Jw z_ALL⟩,⟨_,PySem.W.mg_of X G c_WORDS,sqt2 z_WORDS⟩,⟨_,PySem.W.mg_of X G i_NEAR_WALL⟩,⟨_,PySem.W.mg_of X G i_FAR_WALL⟩,⟨_,PySem.W.mg_of X G i_MOST_WEIGHT⟩,⟨_,PySem.W.mg_of X G i_MOST_BOXES⟩,⟨_,PySem.W.mg_of X G i_MOST_MOMENTS⟩⟩
 have D0:=za (ps:=["thing"]) X G a0 l0 q0 k0 (len1 fun _=>rfl)
 have D1:=za (ps:=["one","other"]) X G a1 l1 q1 k1 (len2 fun _ _=>rfl)
 have D2:=df_mkD (ps:=["top","bottom"]) X G a2 l2 q2 k2 g2 (len2 fun _ _=>⟨_,rfl,rfl⟩)
 have D3:=za (ps:=["one","other"]) X G a3 l3 q3 k3 (len2 fun _ _=>rfl)
 have D4:=za (ps:=["one","other"]) X G a4 l4 q4 k4 (len2 fun _ _=>rfl)
 have D5:=za (ps:=["one","other"]) X G a5 l5 q5 k5 (len2 fun _ _=>rfl)
 have D6:=za (ps:=["one","other"]) X G a6 l6 q6 k6 (len2 fun _ _=>rfl)
 have D7:=za (ps:=["one","other"]) X G a7 l7 q7 k7 (len2 fun _ _=>rfl)
 have D8:=za (ps:=["box","way"]) X G a8 l8 q8 k8 (len2 fun _ _=>rfl)
 have D9:=za (ps:=["one","other","way"]) X G a9 l9 q9 k9 (len3 fun _ _ _=>rfl)
 have D10:=za (ps:=["one","other","way"]) X G a10 l10 q10 k10 (len3 fun _ _ _=>rfl)
 have D11:=za (ps:=["one","other","way"]) X G a11 l11 q11 k11 (len3 fun _ _ _=>rfl)
 have D12:=za (ps:=["one","other"]) X G a12 l12 q12 k12 (len2 fun _ _=>rfl)
 have D13:=za (ps:=["body","moment"]) X G a13 l13 q13 k13 (len2 fun _ _=>rfl)
 have D14:=za (ps:=["box","moment"]) X G a14 l14 q14 k14 (len2 fun _ _=>rfl)
 have D15:=za (ps:=["box","way"]) X G a15 l15 q15 k15 (len2 fun _ _=>rfl)
 have D16:=za (ps:=["box","way"]) X G a16 l16 q16 k16 (len2 fun _ _=>rfl)
 have D17:=za (ps:=["box","way","going"]) X G a17 l17 q17 k17 (len3 fun _ _ _=>rfl)
 have D18:=za (ps:=["box","way","going"]) X G a18 l18 q18 k18 (len3 fun _ _ _=>rfl)
 have D19:=za (ps:=["own","far","weight","mass","share"]) X G a19 l19 q19 k19 (len5 fun _ _ _ _ _=>rfl)
 have D20:=za (ps:=["one","other","share"]) X G a20 l20 q20 k20 (len3 fun _ _ _=>rfl)
 have D21:=za (ps:=["number"]) X G a21 l21 q21 k21 (len1 fun _=>rfl)
 have D22:=za (ps:=["own","far"]) X G a22 l22 q22 k22 (len2 fun _ _=>rfl)
 have D23:=za (ps:=["one","other"]) X G a23 l23 q23 k23 (len2 fun _ _=>rfl)
 have D24:=yI (ps:=["self","pair","boxes"]) a24 t24 l24 q24 k24 (len3 fun _ _ _=>rfl)
 have D25:=yI (ps:=["self","pair","boxes"]) a25 t25 l25 q25 k25 (len3 fun _ _ _=>rfl)
 have D26:=yI (ps:=["self","pair"]) a26 t26 l26 q26 k26 (len2 fun _ _=>rfl)
 have D27:=yI (ps:=["self","pair","moment"]) a27 t27 l27 q27 k27 (len3 fun _ _ _=>rfl)
 have D28:=yI (ps:=["self","pair"]) a28 t28 l28 q28 k28 (len2 fun _ _=>rfl)
 have D29:=yI (ps:=["self","moment"]) a29 t29 l29 q29 k29 (len2 fun _ _=>rfl)
 have D30:=yI (ps:=["self","pair"]) a30 t30 l30 q30 k30 (len2 fun _ _=>rfl)
 have D31:=yI (ps:=["self"]) a31 t31 l31 q31 k31 (len1 fun _=>rfl)
 have D32:=yI (ps:=["self","moment"]) a32 t32 l32 q32 k32 (len2 fun _ _=>rfl)
 have D33:=yI (ps:=["self"]) a33 t33 l33 q33 k33 (len1 fun _=>rfl)
 have D34:=yI (ps:=["self"]) a34 t34 l34 q34 k34 (len1 fun _=>rfl)
 have D35:=yI (ps:=["self"]) a35 t35 l35 q35 k35 (len1 fun _=>rfl)
 have D36:=yI (ps:=["self","boxes"]) a36 t36 l36 q36 k36 (len2 fun _ _=>rfl)
 have D37:=yI (ps:=["self","boxes"]) a37 t37 l37 q37 k37 (len2 fun _ _=>rfl)
 have D38:=yI (ps:=["self"]) a38 t38 l38 q38 k38 (len1 fun _=>rfl)
 have D39:=yI (ps:=["self","pair"]) a39 t39 l39 q39 k39 (len2 fun _ _=>rfl)
 have D40:=yI (ps:=["self"]) a40 t40 l40 q40 k40 (len1 fun _=>rfl)
 have D41:=za (ps:=["room"]) X G a41 l41 q41 k41 (len1 fun _=>rfl)
 have D42:=za (ps:=["count"]) X G a42 l42 q42 k42 (len1 fun _=>rfl)
 have D43:=yI (ps:=["self","room","boxes"]) a43 t43 l43 q43 k43 (len3 fun _ _ _=>rfl)
 have D44:=za (ps:=["course","most"]) X G a44 l44 q44 k44 (len2 fun _ _=>rfl)
 have D45:=za (ps:=["course","most"]) X G a45 l45 q45 k45 (len2 fun _ _=>rfl)
 have D46:=za (ps:=["thing"]) X G a46 l46 q46 k46 (len1 fun _=>rfl)
 have D47:=za (ps:=["thing"]) X G a47 l47 q47 k47 (len1 fun _=>rfl)
 have D48:=za (ps:=["thing"]) X G a48 l48 q48 k48 (len1 fun _=>rfl)
 have D49:=za (ps:=["thing"]) X G a49 l49 q49 k49 (len1 fun _=>rfl)
 have D50:=za (ps:=["thing"]) X G a50 l50 q50 k50 (len1 fun _=>rfl)
 have D51:=za (ps:=["box","room"]) X G a51 l51 q51 k51 (len2 fun _ _=>rfl)
 have D52:=za (ps:=["one","other"]) X G a52 l52 q52 k52 (len2 fun _ _=>rfl)
 have D53:=za (ps:=["room","boxes"]) X G a53 l53 q53 k53 (len2 fun _ _=>rfl)
 have D54:=za (ps:=["most"]) X G a54 l54 q54 k54 (len1 fun _=>rfl)
 have D55:=za (ps:=["room","boxes","most"]) X G a55 l55 q55 k55 (len3 fun _ _ _=>rfl)
 have D56:=za (ps:=["script","k"]) X G a56 l56 q56 k56 (len2 fun _ _=>rfl)
 have D57:=za (ps:=["cell","k"]) X G a57 l57 q57 k57 (len2 fun _ _=>rfl)
 have D58:=za (ps:=["script","k"]) X G a58 l58 q58 k58 (len2 fun _ _=>rfl)
 have D59:=za (ps:=["box","many"]) X G a59 l59 q59 k59 (len2 fun _ _=>rfl)
 have D60:=za (ps:=["top","bottom"]) X G a60 l60 q60 k60 (len2 fun _ _=>rfl)
 have D61:=za (ps:=["one","other"]) X G a61 l61 q61 k61 (len2 fun _ _=>rfl)
 have D62:=za (ps:=["one","other"]) X G a62 l62 q62 k62 (len2 fun _ _=>rfl)
 have D63:=za (ps:=["one","other"]) X G a63 l63 q63 k63 (len2 fun _ _=>rfl)
 have D64:=za (ps:=["one","other"]) X G a64 l64 q64 k64 (len2 fun _ _=>rfl)
 have D65:=za (ps:=["one","other"]) X G a65 l65 q65 k65 (len2 fun _ _=>rfl)
 have D66:=za (ps:=["box"]) X G a66 l66 q66 k66 (len1 fun _=>rfl)
 have D67:=za (ps:=["one","other"]) X G a67 l67 q67 k67 (len2 fun _ _=>rfl)
 have D68:=za (ps:=["box","room"]) X G a68 l68 q68 k68 (len2 fun _ _=>rfl)
 have D69:=za (ps:=["one","way"]) X G a69 l69 q69 k69 (len2 fun _ _=>rfl)
 have D70:=za (ps:=["boxes","time"]) X G a70 l70 q70 k70 (len2 fun _ _=>rfl)
 have D71:=za (ps:=["boxes"]) X G a71 l71 q71 k71 (len1 fun _=>rfl)
 have D72:=za (ps:=["room","boxes"]) X G a72 l72 q72 k72 (len2 fun _ _=>rfl)
 have D73:=za (ps:=["room","boxes","most"]) X G a73 l73 q73 k73 (len3 fun _ _ _=>rfl)
 have D74:=za (ps:=["script"]) X G a74 l74 q74 k74 (len1 fun _=>rfl)
 refine law_end X G a74 l74 (fun _=>rfl) fun base kb nb=>?_
 have F0:=ok_is_whole (P:=P) (w:=w) (base:=base) D0 T
 have F1:=ok_common_divisor (P:=P) (w:=w) (base:=base) D1 T
 have F2:=ok_fraction (P:=P) (w:=w) (base:=base) D2 T F0 F1
 have F3:=ok_plus (P:=P) (w:=w) (base:=base) D3 T F1
 have F4:=ok_minus (P:=P) (w:=w) (base:=base) D4 T F3
 have F5:=ok_times (P:=P) (w:=w) (base:=base) D5 T F1
 have F6:=ok_over (P:=P) (w:=w) (base:=base) D6 T F5
 have F7:=ok_under (P:=P) (w:=w) (base:=base) D7 T
 have F8:=ok_far_side (P:=P) (w:=w) (base:=base) D8 T F3
 have F9:=ok_have_in_common (P:=P) (w:=w) (base:=base) D9 T F7 F8
 have F10:=ok_touches (P:=P) (w:=w) (base:=base) D10 T F8
 have F11:=ok_are_beside (P:=P) (w:=w) (base:=base) D11 T F10 F9
 have F12:=ok_are_at_a_corner (P:=P) (w:=w) (base:=base) D12 T F10
 have F13:=ok_place_at (P:=P) (w:=w) (base:=base) D13 T F3 F5
 have F14:=ok_box_at (P:=P) (w:=w) (base:=base) D14 T F13
 have F15:=ok_near_going (P:=P) (w:=w) (base:=base) D15 T
 have F16:=ok_far_going (P:=P) (w:=w) (base:=base) D16 T F8
 have F17:=ok_with_near_going (P:=P) (w:=w) (base:=base) D17 T
 have F18:=ok_with_far_going (P:=P) (w:=w) (base:=base) D18 T F4 F17
 have F19:=ok_mixed (P:=P) (w:=w) (base:=base) D19 T F2 F5 F3
 have F20:=ok_behind (P:=P) (w:=w) (base:=base) D20 T F19
 have F21:=ok_turned_about (P:=P) (w:=w) (base:=base) D21 T F4
 have F22:=ok_parted (P:=P) (w:=w) (base:=base) D22 T F4 F3 F21 F20
 have F23:=ok_joint_moment (P:=P) (w:=w) (base:=base) D23 T F4 F6
 have F24:=ok_Plane_one_of (P:=P) (w:=w) (base:=base) D24 T
 have F25:=ok_Plane_other_of (P:=P) (w:=w) (base:=base) D25 T
 have F26:=ok_Plane_joint_of (P:=P) (w:=w) (base:=base) D26 T F16 F24 F15 F25 F23
 have F27:=ok_Plane_meet_at (P:=P) (w:=w) (base:=base) D27 T F14 F24 F25 F9
 have F28:=ok_Plane_close_at_a_corner (P:=P) (w:=w) (base:=base) D28 T
 have F29:=ok_Plane_is_sooner (P:=P) (w:=w) (base:=base) D29 T F7
 have F30:=ok_Plane_is_coming (P:=P) (w:=w) (base:=base) D30 T
 have F31:=ok_Plane_look_ahead (P:=P) (w:=w) (base:=base) D31 T F29 F27 F28 F30
 have F32:=ok_Plane_bodies_at (P:=P) (w:=w) (base:=base) D32 T F14
 have F33:=ok_Plane_meetings (P:=P) (w:=w) (base:=base) D33 T
 have F34:=ok_Plane_boxes_met (P:=P) (w:=w) (base:=base) D34 T
 have F35:=ok_Plane_has_two_meetings (P:=P) (w:=w) (base:=base) D35 T F34
 have F36:=ok_Plane_is_hemmed_in (P:=P) (w:=w) (base:=base) D36 T F11 F24 F25
 have F37:=ok_Plane_has_a_corner (P:=P) (w:=w) (base:=base) D37 T F34 F12 F30 F28
 have F38:=ok_Plane_is_crowded (P:=P) (w:=w) (base:=base) D38 T F32 F35 F36 F37
 have F39:=ok_Plane_part (P:=P) (w:=w) (base:=base) D39 T F24 F25 F16 F15 F18 F17 F22 F26
 have F40:=ok_Plane_go_on (P:=P) (w:=w) (base:=base) D40 T F39 F31
 have F41:=ok_walls_of (P:=P) (w:=w) (base:=base) D41 T
 have F42:=ok_all_pairs (P:=P) (w:=w) (base:=base) D42 T
 have F43:=ok_Plane___init__ (P:=P) (w:=w) (base:=base) D43 T F41 F42 F26 F31
 have F44:=ok_end_word (P:=P) (w:=w) (base:=base) D44 T F38
 have F45:=ok_run_along (P:=P) (w:=w) (base:=base) D45 T F44 F33 F40 F32
 have F46:=ok_is_fraction (P:=P) (w:=w) (base:=base) D46 T F0 F1
 have F47:=ok_is_breadth (P:=P) (w:=w) (base:=base) D47 T F46 F7
 have F48:=ok_is_weight (P:=P) (w:=w) (base:=base) D48 T F0
 have F49:=ok_is_box (P:=P) (w:=w) (base:=base) D49 T F46 F47 F48
 have F50:=ok_is_room (P:=P) (w:=w) (base:=base) D50 T F47
 have F51:=ok_is_within (P:=P) (w:=w) (base:=base) D51 T F7 F8
 have F52:=ok_overlap (P:=P) (w:=w) (base:=base) D52 T F9
 have F53:=ok_refuse_boxes (P:=P) (w:=w) (base:=base) D53 T F50 F49 F51 F52
 have F54:=ok_refuse_number_of_moments (P:=P) (w:=w) (base:=base) D54 T F0
 have F55:=ok_run_in (P:=P) (w:=w) (base:=base) D55 T F53 F54 F43 F45
 have F56:=ok_law_cell (P:=P) (w:=w) (base:=base) D56 T
 have F57:=ok_law_mix (P:=P) (w:=w) (base:=base) D57 T
 have F58:=ok_law_box (P:=P) (w:=w) (base:=base) D58 T F56 F57
 have F59:=ok_law_take (P:=P) (w:=w) (base:=base) D59 T
 have F60:=ok_law_fit (P:=P) (w:=w) (base:=base) D60 T
 have F61:=ok_law_plus (P:=P) (w:=w) (base:=base) D61 T F60
 have F62:=ok_law_minus (P:=P) (w:=w) (base:=base) D62 T F60
 have F63:=ok_law_times (P:=P) (w:=w) (base:=base) D63 T F60
 have F64:=ok_law_over (P:=P) (w:=w) (base:=base) D64 T F60
 have F65:=ok_law_less (P:=P) (w:=w) (base:=base) D65 T
 have F66:=ok_law_room (P:=P) (w:=w) (base:=base) D66 T F59 F60
 have F67:=ok_law_apart (P:=P) (w:=w) (base:=base) D67 T F65 F61
 have F68:=ok_law_boxes (P:=P) (w:=w) (base:=base) D68 T F59 F60 F65 F61 F67
 have F69:=ok_law_end (P:=P) (w:=w) (base:=base) D69 T F61
 have F70:=ok_law_led (P:=P) (w:=w) (base:=base) D70 T F61 F63
 have F71:=ok_law_might (P:=P) (w:=w) (base:=base) D71 T F61 F63
 have F72:=ok_law_fits (P:=P) (w:=w) (base:=base) D72 T F65 F69 F67
 have F73:=ok_law_runs_right (P:=P) (w:=w) (base:=base) D73 T F71 F55 F72 F64 F62 F70
 have F74:=ok_law (P:=P) (w:=w) (base:=base) D74 T F58 F66 F68 F73 F59
 exact F74
end Prf
namespace Kw
open PySem PySem.Spec PyProof.Rows L2
theorem walk_kwX {pn:Str} {l:PySem.W.OpenLaw} {k:Nat} {q:Program} {loose:List Str} {XP:(Str->Option Value)->Heap->Prop} {as0:List Addr} {n0 t0:Nat} {d:DefRec} {K:Params->PySem.W.Frag}
  (hn:l.most=some 63) (hdf:d.params.defaults=[]) (hr:Room k callerA) (hK:∀ P,as0=(K P).map (·.1)) (hnm:d.name="law")
  (F:∀ (w:World) (mg:Str→Option Value) (h:Heap),(K w.params).In h→h.Ns mainGlobals mg→∃ fa,mg "law"=some (.ref fa)∧∃ fd:FuncData,(∀ (s:Shared) (u:Value),BindsTo s fd ⟨[u],[]⟩ [(pn,u)])∧
   ∀ base:Heap,(K w.params).In base->base.Ns mainGlobals mg->FnOk l.prog w (K w.params) mg base (CXE l.prog w) k fa fd [pn] (Jv (K w.params))) :
  PySem.W.WalkX q loose XP (PySem.W.X.obsZ as0) (PySem.W.X.valZ K n0 t0) l.row.toRowW d [] (fun f vs=>PySem.call f vs):=by
 intro w s₀ s₁ mg mb G Y fa o pm cd doc dV kV ho hd hcd hD hmg hg args vals as L hpre hlay hrd hwl hlo
 exact walk_kw (YP:=fun w h=>(K w.params).In h) hn hdf hr (fun _ _ z=>z) hnm F w s₀ s₁ mg mb G (PySem.W.InK.keeps w _ _ (PySem.W.X.z_facts hK Y).2.1 L.keeps) fa o pm cd doc dV kV ho hd hcd hD hmg hg args vals as hpre hlay hrd hwl hlo
end Kw
noncomputable def PySem.W.Fast.tw13353912518383049151:PySem.Program:=PySem.Challenge.pw_knockwright_k76_whole_boxes_stay_apart
theorem PySem.W.Fast.te13353912518383049151:PySem.Challenge.pw_knockwright_k76_whole_boxes_stay_apart=PySem.W.Fast.tw13353912518383049151:=rfl
noncomputable def PySem.W.Fast.tw474559291422638188:Unit:=()
noncomputable def PySem.W.Fast.tw5387502036362600237:Unit:=()
noncomputable def PySem.W.Fast.tw479082629469383375:Unit:=()
noncomputable def PySem.W.Fast.tw7197417566467538929:Unit:=()
noncomputable def PySem.W.Fast.tw13491534756657837088:Unit:=()
noncomputable def PySem.W.Fast.tw12329779013299010001:Unit:=()
noncomputable def PySem.W.Fast.tw4326117167671772828:Unit:=()
noncomputable def PySem.W.Fast.tw1068566830466545058:Unit:=()
noncomputable def PySem.W.Fast.tw13110882968730871384:Unit:=()
noncomputable def PySem.W.Fast.tw12414956847841765192:Unit:=()
noncomputable def PySem.W.Fast.tw11551323798855368455:Unit:=()
noncomputable def PySem.W.Fast.tw15238570445844563475:Unit:=()
noncomputable def PySem.W.Fast.tw16026956980118452117:Unit:=()
noncomputable def PySem.W.Fast.tw8838018536142526889:Unit:=()
noncomputable def PySem.W.Fast.tw2829448954720181780:Unit:=()
noncomputable def PySem.W.Fast.tw16253096167143548999:Unit:=()
noncomputable def PySem.W.Fast.tw14684690386678399169:Unit:=()
noncomputable def PySem.W.Fast.tw4654524486363351638:Unit:=()
noncomputable def PySem.W.Fast.tw12338362660725055388:Unit:=()
noncomputable def PySem.W.Fast.tw11357645412177121784:Unit:=()
noncomputable def PySem.W.Fast.tw7681462192261971525:Unit:=()
noncomputable def PySem.W.Fast.tw8253813018466767046:Unit:=()
noncomputable def PySem.W.Fast.tw16608576524110322415:Unit:=()
noncomputable def PySem.W.Fast.tw10369830084557608183:Unit:=()
noncomputable def PySem.W.Fast.tw6466646188287536064:Unit:=()
noncomputable def PySem.W.Fast.tw6020540471153877949:Unit:=()
noncomputable def PySem.W.Fast.tw12573041927307662307:Unit:=()
noncomputable def PySem.W.Fast.tw5431636855391386871:Unit:=()
noncomputable def PySem.W.Fast.tw15210340178705725126:Unit:=()
noncomputable def PySem.W.Fast.tw2176957907535054386:Unit:=()
noncomputable def PySem.W.Fast.tw4691028188814570187:Unit:=()
noncomputable def PySem.W.Fast.tw13587814106716718702:Unit:=()
noncomputable def PySem.W.Fast.tw11151192612254176327:Unit:=()
noncomputable def PySem.W.Fast.tw666762228799913662:Unit:=()
noncomputable def PySem.W.Fast.tw6884650957048290769:Unit:=()
noncomputable def PySem.W.Fast.tw7765998802023813138:Unit:=()
noncomputable def PySem.W.Fast.tw15892041334814155706:Unit:=()
noncomputable def PySem.W.Fast.tw13491210608221468475:Unit:=()
noncomputable def PySem.W.Fast.tw11569388212520827788:Unit:=()
noncomputable def PySem.W.Fast.tw13015265507499313372:Unit:=()
noncomputable def PySem.W.Fast.tw14675055552578599160:Unit:=()
noncomputable def PySem.W.Fast.tw12358615629538884349:Unit:=()
noncomputable def PySem.W.Fast.tw12035661564362642114:Unit:=()
noncomputable def PySem.W.Fast.tw9244580003723085039:Unit:=()
noncomputable def PySem.W.Fast.tw4941478362491386053:Unit:=()
noncomputable def PySem.W.Fast.tw9441266893748843363:Unit:=()
noncomputable def PySem.W.Fast.tw586360525488387831:Unit:=()
noncomputable def PySem.W.Fast.tw17562689516423152296:Unit:=()
noncomputable def PySem.W.Fast.tw6575321209510897226:Unit:=()
noncomputable def PySem.W.Fast.tw14791292090385328734:Unit:=()
noncomputable def PySem.W.Fast.tw10170845834687785435:Unit:=()
noncomputable def PySem.W.Fast.tw1605242514632476496:Unit:=()
noncomputable def PySem.W.Fast.tw13341140648902539414:Unit:=()
noncomputable def PySem.W.Fast.tw3725149882729523888:Unit:=()
noncomputable def PySem.W.Fast.tw11103346073667177335:Unit:=()
noncomputable def PySem.W.Fast.tw5207137938328430394:Unit:=()
noncomputable def PySem.W.Fast.tw194905725185329093:Unit:=()
noncomputable def PySem.W.Fast.tw11473633851290798967:Unit:=()
noncomputable def PySem.W.Fast.tw16085422705846235170:Unit:=()
noncomputable def PySem.W.Fast.tw4199577965966145379:Unit:=()
noncomputable def PySem.W.Fast.tw4128985025663657012:Unit:=()
noncomputable def PySem.W.Fast.tw18379138029613993588:Unit:=()
noncomputable def PySem.W.Fast.tw26883647243040374:Unit:=()
noncomputable def PySem.W.Fast.tw15238776079198911060:Unit:=()
noncomputable def PySem.W.Fast.tw15568024238996145255:Unit:=()
noncomputable def PySem.W.Fast.tw927624322166142851:Unit:=()
noncomputable def PySem.W.Fast.tw7998337765093487085:Unit:=()
noncomputable def PySem.W.Fast.tw12623661297836448481:Unit:=()
noncomputable def PySem.W.Fast.tw6076595776953583095:Unit:=()
noncomputable def PySem.W.Fast.tw6886718593037234324:Unit:=()
noncomputable def PySem.W.Fast.tw10617065021571452795:Unit:=()
noncomputable def PySem.W.Fast.tw17897412012833009946:Unit:=()
noncomputable def PySem.W.Fast.tw11060972039197647452:Unit:=()
noncomputable def PySem.W.Fast.tw13681526870312753765:Unit:=()
noncomputable def PySem.W.Fast.tw9554640569800690752:Unit:=()
noncomputable def PySem.W.Fast.tw14200176617564300621:Unit:=()
noncomputable def PySem.W.Fast.tw6589825127761820098:Unit:=()
noncomputable def PySem.W.Fast.tw1866018860975312468:Unit:=()
noncomputable def PySem.W.Fast.tw17279159550958928182:Unit:=()
noncomputable def PySem.W.Fast.tw7271225954463291339:Unit:=()
noncomputable def PySem.W.Fast.tw13568399684865132283:Unit:=()
noncomputable def PySem.W.Fast.tw14830168519907885874:Unit:=()
noncomputable def PySem.W.Fast.tw16137478482259502882:Unit:=()
noncomputable def PySem.W.Fast.tw7614036229579777474:Unit:=()
noncomputable def PySem.W.Fast.tw9389609474224874054:Unit:=()
noncomputable def PySem.W.Fast.tw9285901525334496537:Unit:=()
noncomputable def PySem.W.Fast.tw2368170857320377830:Unit:=()
noncomputable def PySem.W.Fast.tw1400476712127593639:Unit:=()
noncomputable def PySem.W.Fast.tw13818221249788696130:Unit:=()
noncomputable def PySem.W.Fast.tw6024354542016035193:Unit:=()
noncomputable def PySem.W.Fast.tw5390115280702587722:Unit:=()
noncomputable def PySem.W.Fast.tw10379672483325252368:Unit:=()
noncomputable def PySem.W.Fast.tw14106734386782184915:Unit:=()
noncomputable def PySem.W.Fast.tw5749724852742765619:Unit:=()
noncomputable def PySem.W.Fast.tw4447492508930920311:Unit:=()
noncomputable def PySem.W.Fast.tw2259464920896982726:Unit:=()
noncomputable def PySem.W.Fast.tw2006517596638593143:Unit:=()
noncomputable def PySem.W.Fast.tw13902284491437362724:Unit:=()
noncomputable def PySem.W.Fast.tw9386040888300326432:Unit:=()
noncomputable def PySem.W.Fast.tw2915470284776958084:Unit:=()
noncomputable def PySem.W.Fast.tw15956332657249499929:Unit:=()
noncomputable def PySem.W.Fast.tw3851325826889694115:Unit:=()
noncomputable def PySem.W.Fast.tw18082349398791014688:Unit:=()
noncomputable def PySem.W.Fast.tw12084890406091794062:Unit:=()
noncomputable def PySem.W.Fast.tw17235920180468717938:Unit:=()
noncomputable def PySem.W.Fast.tw15028318494324994464:Unit:=()
noncomputable def PySem.W.Fast.tw6955211895563663585:Unit:=()
noncomputable def PySem.W.Fast.tw9876559127935261272:Unit:=()
noncomputable def PySem.W.Fast.tw182715745854333356:Unit:=()
noncomputable def PySem.W.Fast.tw15182776547824534462:Unit:=()
noncomputable def PySem.W.Fast.tw1366660958326698031:Unit:=()
noncomputable def PySem.W.Fast.tw15745212172384979039:Unit:=()
noncomputable def PySem.W.Fast.tw2204585509546847980:Unit:=()
noncomputable def PySem.W.Fast.tw15246956164508818972:Unit:=()
noncomputable def PySem.W.Fast.tw3020932574407842297:Unit:=()
noncomputable def PySem.W.Fast.tw5272131423240202833:Unit:=()
noncomputable def PySem.W.Fast.tw10556036768522666984:Unit:=()
noncomputable def PySem.W.Fast.tw6204890418604394946:Unit:=()
noncomputable def PySem.W.Fast.tw13742409655005568525:Unit:=()
noncomputable def PySem.W.Fast.tw5861867145349300268:Unit:=()
noncomputable def PySem.W.Fast.tw16229455292731593019:Unit:=()
noncomputable def PySem.W.Fast.tw3364935483906473020:Unit:=()
noncomputable def PySem.W.Fast.tw8877061691699449180:Unit:=()
noncomputable def PySem.W.Fast.tw15437973387312000207:Unit:=()
noncomputable def PySem.W.Fast.tw13354899730278197921:Unit:=()
noncomputable def PySem.W.Fast.tw17356862568516683551:Unit:=()
noncomputable def PySem.W.Fast.tw18274663966283781453:Unit:=()
noncomputable def PySem.W.Fast.tw6527288336220260280:Unit:=()
noncomputable def PySem.W.Fast.tw2294202031541766006:Unit:=()
noncomputable def PySem.W.Fast.tw7553530528694592664:Unit:=()
noncomputable def PySem.W.Fast.tw17372909815936898766:Unit:=()
noncomputable def PySem.W.Fast.tw10579738951015392545:Unit:=()
noncomputable def PySem.W.Fast.tw8642956765432547635:Unit:=()
noncomputable def PySem.W.Fast.tw5261320752163699536:Unit:=()
noncomputable def PySem.W.Fast.tw18149146889220372134:Unit:=()
noncomputable def PySem.W.Fast.tw1748426159501878147:Unit:=()
noncomputable def PySem.W.Fast.tw878438655455285552:Unit:=()
noncomputable def PySem.W.Fast.tw1974872178778080936:Unit:=()
noncomputable def PySem.W.Fast.tw4179379068300429088:Unit:=()
noncomputable def PySem.W.Fast.tw15361541674560674692:Unit:=()
noncomputable def PySem.W.Fast.tw7210872146209319550:Unit:=()
noncomputable def PySem.W.Fast.tw1377997656622279653:Unit:=()
noncomputable def PySem.W.Fast.tw18421970719234618792:Unit:=()
noncomputable def PySem.W.Fast.tw1252798027846375322:Unit:=()
noncomputable def PySem.W.Fast.tw18395342281819237021:Unit:=()
noncomputable def PySem.W.Fast.tw17842401662532111103:Unit:=()
noncomputable def PySem.W.Fast.tw4813634308557598659:Unit:=()
noncomputable def PySem.W.Fast.tw16189390935383788581:Unit:=()
noncomputable def PySem.W.Fast.tw10453128472239506950:Unit:=()
noncomputable def PySem.W.Fast.tw398795868720224784:Unit:=()
noncomputable def PySem.W.Fast.tw13199131304066455879:Unit:=()
noncomputable def PySem.W.Fast.tw9372240773065262350:Unit:=()
noncomputable def PySem.W.Fast.tw10785535789620404086:Unit:=()
noncomputable def PySem.W.Fast.tw11271128812278588069:Unit:=()
noncomputable def PySem.W.Fast.tw12861998616630469630:Unit:=()
noncomputable def PySem.W.Fast.tw5757595393606471304:Unit:=()
noncomputable def PySem.W.Fast.tw12091050038948718852:Unit:=()
noncomputable def PySem.W.Fast.tw3937869128979431552:Unit:=()
noncomputable def PySem.W.Fast.tw16704731183415701108:Unit:=()
noncomputable def PySem.W.Fast.tw10904880083217250361:Unit:=()
noncomputable def PySem.W.Fast.tw8546739709116203103:Unit:=()
noncomputable def PySem.W.Fast.tw6725282267058618106:Unit:=()
noncomputable def PySem.W.Fast.tw17185070985610869566:Unit:=()
noncomputable def PySem.W.Fast.tw2292576222456302932:Unit:=()
noncomputable def PySem.W.Fast.tw13201760274584394284:Unit:=()
noncomputable def PySem.W.Fast.tw4369411391449435078:Unit:=()
noncomputable def PySem.W.Fast.tw4632863732455893483:Unit:=()
noncomputable def PySem.W.Fast.tw3930932362019149762:Unit:=()
noncomputable def PySem.W.Fast.tw5121389685831453332:Unit:=()
noncomputable def PySem.W.Fast.tw4344463492308653778:Unit:=()
noncomputable def PySem.W.Fast.tw13265264970556633011:Unit:=()
noncomputable def PySem.W.Fast.tw5962821238016523696:Unit:=()
noncomputable def PySem.W.Fast.tw2632060672364566361:Unit:=()
noncomputable def PySem.W.Fast.tw4794456651963452442:Unit:=()
noncomputable def PySem.W.Fast.tw4655072681527463590:Unit:=()
noncomputable def PySem.W.Fast.tw3292435201462297721:Unit:=()
noncomputable def PySem.W.Fast.tw8693983650479395092:Unit:=()
noncomputable def PySem.W.Fast.tw13766542863531290859:Unit:=()
noncomputable def PySem.W.Fast.tw14644385304217792184:Unit:=()
noncomputable def PySem.W.Fast.tw1009442267361450241:Unit:=()
noncomputable def PySem.W.Fast.tw1471703398010920263:Unit:=()
noncomputable def PySem.W.Fast.tw16786323687612379128:Unit:=()
noncomputable def PySem.W.Fast.tw3922816910942217629:Unit:=()
noncomputable def PySem.W.Fast.tw8190680556068431292:Unit:=()
noncomputable def PySem.W.Fast.tw16742178095781729173:Unit:=()
noncomputable def PySem.W.Fast.tw15648977730305299841:Unit:=()
noncomputable def PySem.W.Fast.tw11770508665162473138:Unit:=()
noncomputable def PySem.W.Fast.tw2076100449852438668:Unit:=()
noncomputable def PySem.W.Fast.tw12072071020267386722:Unit:=()
noncomputable def PySem.W.Fast.tw4500674915418485790:Unit:=()
noncomputable def PySem.W.Fast.tw14685644175796452662:Unit:=()
noncomputable def PySem.W.Fast.tw637651299179362621:Unit:=()
noncomputable def PySem.W.Fast.tw12267392799874658060:Unit:=()
noncomputable def PySem.W.Fast.tw5048474862112690708:Unit:=()
noncomputable def PySem.W.Fast.tw3240038424643306342:Unit:=()
noncomputable def PySem.W.Fast.tw715249850355565525:Unit:=()
noncomputable def PySem.W.Fast.tw3475979665063351723:Unit:=()
noncomputable def PySem.W.Fast.tw11622586687491090075:Unit:=()
noncomputable def PySem.W.Fast.tw7545472623750768958:Unit:=()
noncomputable def PySem.W.Fast.tw14908094584939766085:Unit:=()
noncomputable def PySem.W.Fast.tw6434997752917690252:Unit:=()
noncomputable def PySem.W.Fast.tw11294370654389302862:Unit:=()
noncomputable def PySem.W.Fast.tw1210961878576049772:Unit:=()
noncomputable def PySem.W.Fast.tw68182779644138684:Unit:=()
noncomputable def PySem.W.Fast.tw10979147874510076380:Unit:=()
noncomputable def PySem.W.Fast.tw8028078297193351947:Unit:=()
noncomputable def PySem.W.Fast.tw7695963528937506589:Unit:=()
noncomputable def PySem.W.Fast.tw15242618360856553813:Unit:=()
noncomputable def PySem.W.Fast.tw5569780237840006056:Unit:=()
noncomputable def PySem.W.Fast.tw17234702516549032250:Unit:=()
noncomputable def PySem.W.Fast.tw15624541402769394360:Unit:=()
noncomputable def PySem.W.Fast.tw16277018468518891090:Unit:=()
noncomputable def PySem.W.Fast.tw16269442201439901947:Unit:=()
noncomputable def PySem.W.Fast.tw1538539583218763254:Unit:=()
noncomputable def PySem.W.Fast.tw7105661209590861721:Unit:=()
noncomputable def PySem.W.Fast.tw17227449101264614606:Unit:=()
noncomputable def PySem.W.Fast.tw16524658301645346438:Unit:=()
noncomputable def PySem.W.Fast.tw963112664967021119:Unit:=()
noncomputable def PySem.W.Fast.tw7414037037986581856:Unit:=()
noncomputable def PySem.W.Fast.tw7878386652621664975:Unit:=()
noncomputable def PySem.W.Fast.tw15300126528512932644:Unit:=()
noncomputable def PySem.W.Fast.tw888411096761452246:Unit:=()
noncomputable def PySem.W.Fast.tw1509802771074309600:Unit:=()
noncomputable def PySem.W.Fast.tw17639422866723159563:Unit:=()
noncomputable def PySem.W.Fast.tw6582072498460607084:Unit:=()
noncomputable def PySem.W.Fast.tw3955180973622015798:Unit:=()
noncomputable def PySem.W.Fast.tw8711130253883677346:Unit:=()
noncomputable def PySem.W.Fast.tw9779740867332677476:Unit:=()
noncomputable def PySem.W.Fast.tw17628948773796128702:Unit:=()
noncomputable def PySem.W.Fast.tw5888690760781235685:Unit:=()
noncomputable def PySem.W.Fast.tw17990498813484458565:Unit:=()
noncomputable def PySem.W.Fast.tw16802950909162794371:Unit:=()
noncomputable def PySem.W.Fast.tw15781946183666086425:Unit:=()
noncomputable def PySem.W.Fast.tw5389685962581021547:Unit:=()
noncomputable def PySem.W.Fast.tw4316115399441519203:Unit:=()
noncomputable def PySem.W.Fast.tw14306749352654006150:Unit:=()
noncomputable def PySem.W.Fast.tw8223399038685163429:Unit:=()
noncomputable def PySem.W.Fast.tw15347780774515688032:Unit:=()
noncomputable def PySem.W.Fast.tw15415001568175106406:Unit:=()
noncomputable def PySem.W.Fast.tw3041866930971294541:Unit:=()
noncomputable def PySem.W.Fast.tw17831825454489983564:Unit:=()
noncomputable def PySem.W.Fast.tw713206073479962570:Unit:=()
noncomputable def PySem.W.Fast.tw12166542116416698508:Unit:=()
noncomputable def PySem.W.Fast.tw12471905508875009429:Unit:=()
noncomputable def PySem.W.Fast.tw11961086268448079740:Unit:=()
noncomputable def PySem.W.Fast.tw6103181549910758791:Unit:=()
noncomputable def PySem.W.Fast.tw6763787581921570388:Unit:=()
noncomputable def PySem.W.Fast.tw17088733330577346596:Unit:=()
noncomputable def PySem.W.Fast.tw425803247252436153:Unit:=()
noncomputable def PySem.W.Fast.tw17174077180787988594:Unit:=()
noncomputable def PySem.W.Fast.tw17891782828141595378:Unit:=()
noncomputable def PySem.W.Fast.tw10491046719934336687:Unit:=()
noncomputable def PySem.W.Fast.tw17307382938818550224:Unit:=()
noncomputable def PySem.W.Fast.tw688016428021402016:Unit:=()
noncomputable def PySem.W.Fast.tw15991593007319582782:Unit:=()
noncomputable def PySem.W.Fast.tw15256385437317652684:Unit:=()
noncomputable def PySem.W.Fast.tw1775405734452802310:Unit:=()
noncomputable def PySem.W.Fast.tw16435688388485278799:Unit:=()
noncomputable def PySem.W.Fast.tw17212808035691396806:Unit:=()
noncomputable def PySem.W.Fast.tw3568530247268664792:Unit:=()
noncomputable def PySem.W.Fast.tw4411873019348427228:Unit:=()
noncomputable def PySem.W.Fast.tw489718442587794718:Unit:=()
noncomputable def PySem.W.Fast.tw827507198358905656:Unit:=()
noncomputable def PySem.W.Fast.tw14031307212792769608:Unit:=()
noncomputable def PySem.W.Fast.tw12347421496119050182:Unit:=()
noncomputable def PySem.W.Fast.tw850785741600549157:Unit:=()
noncomputable def PySem.W.Fast.tw6774843678218636314:Unit:=()
noncomputable def PySem.W.Fast.tw15677494359155306987:Unit:=()
noncomputable def PySem.W.Fast.tw17115209936375129467:Unit:=()
noncomputable def PySem.W.Fast.tw8679641307784971680:Unit:=()
noncomputable def PySem.W.Fast.tw6916157896389344880:Unit:=()
noncomputable def PySem.W.Fast.tw5211558998776871899:Unit:=()
noncomputable def PySem.W.Fast.tw18019030993901720346:Unit:=()
noncomputable def PySem.W.Fast.tw11313417688421655518:Unit:=()
noncomputable def PySem.W.Fast.tw13668673845487552812:Unit:=()
noncomputable def PySem.W.Fast.tw17611638290473732230:Unit:=()
noncomputable def PySem.W.Fast.tw16383377960497441162:Unit:=()
noncomputable def PySem.W.Fast.tw10083056493922462496:Unit:=()
noncomputable def PySem.W.Fast.tw17753048183683655628:Unit:=()
noncomputable def PySem.W.Fast.tw16256114675714107511:Unit:=()
noncomputable def PySem.W.Fast.tw8795972193744521560:Unit:=()
noncomputable def PySem.W.Fast.tw16271149717184187339:Unit:=()
noncomputable def PySem.W.Fast.tw16381346240837286431:Unit:=()
noncomputable def PySem.W.Fast.tw14267318891362022836:Unit:=()
noncomputable def PySem.W.Fast.tw14060247490424225132:Unit:=()
noncomputable def PySem.W.Fast.tw7276403723679635804:Unit:=()
noncomputable def PySem.W.Fast.tw6757392142164235747:Unit:=()
noncomputable def PySem.W.Fast.tw155252657134439711:Unit:=()
noncomputable def PySem.W.Fast.tw13167867539680871609:Unit:=()
noncomputable def PySem.W.Fast.tw16294143564859102415:Unit:=()
noncomputable def PySem.W.Fast.tw12000873994972750926:Unit:=()
noncomputable def PySem.W.Fast.tw17710896379339206997:Unit:=()
noncomputable def PySem.W.Fast.tw2954864974352865986:Unit:=()
noncomputable def PySem.W.Fast.tw7996167528177900729:Unit:=()
noncomputable def PySem.W.Fast.tw5093029469166905167:Unit:=()
noncomputable def PySem.W.Fast.tw16896099254166652471:Unit:=()
noncomputable def PySem.W.Fast.tw7235117742329237893:Unit:=()
noncomputable def PySem.W.Fast.tw18363479196496730233:Unit:=()
noncomputable def PySem.W.Fast.tw9008537464480851344:Unit:=()
noncomputable def PySem.W.Fast.tw1903250406630196900:Unit:=()
noncomputable def PySem.W.Fast.tw7986480307476464284:Unit:=()
noncomputable def PySem.W.Fast.tw1422655796163222768:Unit:=()
noncomputable def PySem.W.Fast.tw16701142916804588235:Unit:=()
noncomputable def PySem.W.Fast.tw12660452196084844217:Unit:=()
noncomputable def PySem.W.Fast.tw16575363368747601957:Unit:=()
noncomputable def PySem.W.Fast.tw16992050515147495350:Unit:=()
noncomputable def PySem.W.Fast.tw11826280459480467751:Unit:=()
noncomputable def PySem.W.Fast.tw16174690954847692268:Unit:=()
noncomputable def PySem.W.Fast.tw878316225234215305:Unit:=()
noncomputable def PySem.W.Fast.tw1235869862582650615:Unit:=()
noncomputable def PySem.W.Fast.tw5551348607723517696:Unit:=()
noncomputable def PySem.W.Fast.tw11170585707032941356:Unit:=()
noncomputable def PySem.W.Fast.tw7123311605138190370:Unit:=()
noncomputable def PySem.W.Fast.tw4998437284803921518:Unit:=()
noncomputable def PySem.W.Fast.tw4143211621499319651:Unit:=()
noncomputable def PySem.W.Fast.tw2491236190393795662:Unit:=()
noncomputable def PySem.W.Fast.tw5976186653688691108:Unit:=()
noncomputable def PySem.W.Fast.tw18059407186378720655:Unit:=()
noncomputable def PySem.W.Fast.tw7162981699801673623:Unit:=()
noncomputable def PySem.W.Fast.tw11330471060581476198:Unit:=()
noncomputable def PySem.W.Fast.tw18086226297213590336:Unit:=()
noncomputable def PySem.W.Fast.tw4435700448734508821:Unit:=()
noncomputable def PySem.W.Fast.tw12728813937045716493:Unit:=()
noncomputable def PySem.W.Fast.tw16580470686355976636:Unit:=()
noncomputable def PySem.W.Fast.tw3466969272186450046:Unit:=()
noncomputable def PySem.W.Fast.tw16408527923605859861:Unit:=()
noncomputable def PySem.W.Fast.tw5719035852851251858:Unit:=()
noncomputable def PySem.W.Fast.tw3700724616067681461:Unit:=()
noncomputable def PySem.W.Fast.tw704097719202719994:Unit:=()
noncomputable def PySem.W.Fast.tw17665869432285512054:Unit:=()
noncomputable def PySem.W.Fast.tw13247428994384915962:Unit:=()
noncomputable def PySem.W.Fast.tw17334962686018508843:Unit:=()
noncomputable def PySem.W.Fast.tw1560092004332084899:Unit:=()
noncomputable def PySem.W.Fast.tw11688731888111829679:Unit:=()
noncomputable def PySem.W.Fast.tw13137590364596726816:Unit:=()
noncomputable def PySem.W.Fast.tw17027379738313410970:Unit:=()
noncomputable def PySem.W.Fast.tw8537194889626853393:Unit:=()
noncomputable def PySem.W.Fast.tw13101088332002749618:Unit:=()
noncomputable def PySem.W.Fast.tw11328684899242995155:Unit:=()
noncomputable def PySem.W.Fast.tw640198946128045516:Unit:=()
noncomputable def PySem.W.Fast.tw3786439034305983952:Unit:=()
noncomputable def PySem.W.Fast.tw10062689524861837840:Unit:=()
noncomputable def PySem.W.Fast.tw17838339340793079192:Unit:=()
noncomputable def PySem.W.Fast.tw10315841779444580625:Unit:=()
noncomputable def PySem.W.Fast.tw6306627634489020763:Unit:=()
noncomputable def PySem.W.Fast.tw3389384183033775193:Unit:=()
noncomputable def PySem.W.Fast.tw11236537539090016152:Unit:=()
noncomputable def PySem.W.Fast.tw15838490901354254492:Unit:=()
noncomputable def PySem.W.Fast.tw459260446319619406:Unit:=()
noncomputable def PySem.W.Fast.tw16347160235931981665:Unit:=()
noncomputable def PySem.W.Fast.tw16565265091030003318:Unit:=()
noncomputable def PySem.W.Fast.tw3416556549678652012:Unit:=()
noncomputable def PySem.W.Fast.tw14272863338925973727:Unit:=()
noncomputable def PySem.W.Fast.tw2142212839066743416:Unit:=()
noncomputable def PySem.W.Fast.tw14149995016396998489:Unit:=()
noncomputable def PySem.W.Fast.tw11689174850369565412:Unit:=()
noncomputable def PySem.W.Fast.tw10141175753815785516:Unit:=()
noncomputable def PySem.W.Fast.tw2927454801756269934:Unit:=()
noncomputable def PySem.W.Fast.tw13252232091052585855:Unit:=()
noncomputable def PySem.W.Fast.tw17111235353751214357:Unit:=()
noncomputable def PySem.W.Fast.tw12880198003279957418:Unit:=()
noncomputable def PySem.W.Fast.tw10634185934776923443:Unit:=()
noncomputable def PySem.W.Fast.tw4966816110098766893:Unit:=()
noncomputable def PySem.W.Fast.tw13287066944541653706:Unit:=()
noncomputable def PySem.W.Fast.tw4960799618999081546:Unit:=()
noncomputable def PySem.W.Fast.tw11148422215128479421:Unit:=()
noncomputable def PySem.W.Fast.tw1638350568697771686:Unit:=()
noncomputable def PySem.W.Fast.tw1947094220590938658:Unit:=()
noncomputable def PySem.W.Fast.tw13721452948664467843:Unit:=()
noncomputable def PySem.W.Fast.tw10900752622713748061:Unit:=()
noncomputable def PySem.W.Fast.tw14432213943107653132:Unit:=()
noncomputable def PySem.W.Fast.tw9045603036705340391:Unit:=()
noncomputable def PySem.W.Fast.tw14005961368051693526:Unit:=()
noncomputable def PySem.W.Fast.tw13899886493051971482:Unit:=()
noncomputable def PySem.W.Fast.tw2498795869062689470:Unit:=()
noncomputable def PySem.W.Fast.tw9691151194443803324:Unit:=()
noncomputable def PySem.W.Fast.tw1377749925258547466:Unit:=()
noncomputable def PySem.W.Fast.tw2294129848506763304:Unit:=()
noncomputable def PySem.W.Fast.tw13660377556912398780:Unit:=()
noncomputable def PySem.W.Fast.tw6849569300770093998:Unit:=()
noncomputable def PySem.W.Fast.tw3720359609925203273:Unit:=()
noncomputable def PySem.W.Fast.tw7499516490849692808:Unit:=()
noncomputable def PySem.W.Fast.tw14438874530250823983:Unit:=()
noncomputable def PySem.W.Fast.tw5803116765213835677:Unit:=()
noncomputable def PySem.W.Fast.tw9445885057459957867:Unit:=()
noncomputable def PySem.W.Fast.tw2204387164465508265:Unit:=()
noncomputable def PySem.W.Fast.tw7842237248579104876:Unit:=()
noncomputable def PySem.W.Fast.tw8418656747976134623:Unit:=()
noncomputable def PySem.W.Fast.tw10052254667778646923:Unit:=()
noncomputable def PySem.W.Fast.tw13264385606288056760:Unit:=()
noncomputable def PySem.W.Fast.tw5105892401357763438:Unit:=()
noncomputable def PySem.W.Fast.tw5673862109189373419:Unit:=()
noncomputable def PySem.W.Fast.tw4522909679494316906:Unit:=()
noncomputable def PySem.W.Fast.tw10840340861395985761:Unit:=()
noncomputable def PySem.W.Fast.tw9171414503924624876:Unit:=()
noncomputable def PySem.W.Fast.tw12740492680638781905:Unit:=()
noncomputable def PySem.W.Fast.tw15997423765121709820:Unit:=()
noncomputable def PySem.W.Fast.tw13412701534989404266:Unit:=()
noncomputable def PySem.W.Fast.tw8940133665674325297:Unit:=()
noncomputable def PySem.W.Fast.tw13307666672201825508:Unit:=()
noncomputable def PySem.W.Fast.tw11234945358885530269:Unit:=()
noncomputable def PySem.W.Fast.tw14159137514093620373:Unit:=()
noncomputable def PySem.W.Fast.tw7317124914257692908:Unit:=()
noncomputable def PySem.W.Fast.tw5660831058260018521:Unit:=()
noncomputable def PySem.W.Fast.tw13050335600543924163:Unit:=()
noncomputable def PySem.W.Fast.tw1075528822305105302:Unit:=()
noncomputable def PySem.W.Fast.tw2900302155482536594:Unit:=()
noncomputable def PySem.W.Fast.tw6039514957243507384:Unit:=()
noncomputable def PySem.W.Fast.tw11453608681150434944:Unit:=()
noncomputable def PySem.W.Fast.tw2653852863209214209:Unit:=()
noncomputable def PySem.W.Fast.tw1589782851611106458:Unit:=()
noncomputable def PySem.W.Fast.tw2625915210876081264:Unit:=()
noncomputable def PySem.W.Fast.tw13837291773484503556:Unit:=()
noncomputable def PySem.W.Fast.tw9910030908213725970:Unit:=()
noncomputable def PySem.W.Fast.tw9866394530458210959:Unit:=()
noncomputable def PySem.W.Fast.tw3611120893700107178:Unit:=()
noncomputable def PySem.W.Fast.tw11698301454451712477:Unit:=()
noncomputable def PySem.W.Fast.tw18219058354301192791:Unit:=()
noncomputable def PySem.W.Fast.tw2554441533379948491:Unit:=()
noncomputable def PySem.W.Fast.tw14657978709489453288:Unit:=()
noncomputable def PySem.W.Fast.tw8837796634706497216:Unit:=()
noncomputable def PySem.W.Fast.tw6585229325249141955:Unit:=()
noncomputable def PySem.W.Fast.tw1403287018667900205:Unit:=()
noncomputable def PySem.W.Fast.tw17949188581175792738:Unit:=()
noncomputable def PySem.W.Fast.tw5524797215647914536:Unit:=()
noncomputable def PySem.W.Fast.tw13445317205469412206:Unit:=()
noncomputable def PySem.W.Fast.tw1029313812047463912:Unit:=()
noncomputable def PySem.W.Fast.tw17436321109776659646:Unit:=()
noncomputable def PySem.W.Fast.tw15860476566604904917:Unit:=()
noncomputable def PySem.W.Fast.tw13058949813072797790:Unit:=()
noncomputable def PySem.W.Fast.tw7404159591838620616:Unit:=()
noncomputable def PySem.W.Fast.tw720750643400930728:Unit:=()
noncomputable def PySem.W.Fast.tw16674839147672107993:Unit:=()
noncomputable def PySem.W.Fast.tw3743488626703031046:Unit:=()
noncomputable def PySem.W.Fast.tw15041670019672269981:Unit:=()
noncomputable def PySem.W.Fast.tw9514150009116748242:Unit:=()
noncomputable def PySem.W.Fast.tw5436710660807823448:Unit:=()
noncomputable def PySem.W.Fast.tw6877583715824162286:Unit:=()
noncomputable def PySem.W.Fast.tw17907063219581468624:Unit:=()
noncomputable def PySem.W.Fast.tw13596376355920901959:Unit:=()
noncomputable def PySem.W.Fast.tw10511786984245159298:Unit:=()
noncomputable def PySem.W.Fast.tw9777102454886352111:Unit:=()
noncomputable def PySem.W.Fast.tw9451495715272766797:Unit:=()
noncomputable def PySem.W.Fast.tw6680506976091682802:Unit:=()
noncomputable def PySem.W.Fast.tw7894982441004521534:Unit:=()
noncomputable def PySem.W.Fast.tw12334171091249938317:Unit:=()
noncomputable def PySem.W.Fast.tw10388497895307641712:Unit:=()
noncomputable def PySem.W.Fast.tw11837581776318905452:Unit:=()
noncomputable def PySem.W.Fast.tw11036106547629783624:Unit:=()
noncomputable def PySem.W.Fast.tw14961160078419188685:Unit:=()
noncomputable def PySem.W.Fast.tw15423815380139056629:Unit:=()
noncomputable def PySem.W.Fast.tw15615800745217767335:Unit:=()
noncomputable def PySem.W.Fast.tw6484419136186363991:Unit:=()
noncomputable def PySem.W.Fast.tw16749906395359014465:Unit:=()
noncomputable def PySem.W.Fast.tw1014326491194274060:Unit:=()
noncomputable def PySem.W.Fast.tw9942487417560996392:Unit:=()
noncomputable def PySem.W.Fast.tw6645026589652215359:Unit:=()
noncomputable def PySem.W.Fast.tw4645571428076925031:Unit:=()
noncomputable def PySem.W.Fast.tw14542982972521401286:Unit:=()
noncomputable def PySem.W.Fast.tw6037742435497856557:Unit:=()
noncomputable def PySem.W.Fast.tw17358184028723394023:Unit:=()
noncomputable def PySem.W.Fast.tw4912909550719862850:Unit:=()
noncomputable def PySem.W.Fast.tw332114898818916228:Unit:=()
noncomputable def PySem.W.Fast.tw11903455991269385889:Unit:=()
noncomputable def PySem.W.Fast.tw10801950899447970437:Unit:=()
noncomputable def PySem.W.Fast.tw4802016212602575403:Unit:=()
noncomputable def PySem.W.Fast.tw6981930219892874221:Unit:=()
noncomputable def PySem.W.Fast.tw8361189132962039358:Unit:=()
noncomputable def PySem.W.Fast.tw15984935317161939617:Unit:=()
noncomputable def PySem.W.Fast.tw12589477573428163491:Unit:=()
noncomputable def PySem.W.Fast.tw6745287593703097294:Unit:=()
noncomputable def PySem.W.Fast.tw2146145493584262207:Unit:=()
noncomputable def PySem.W.Fast.tw712201553505190425:Unit:=()
noncomputable def PySem.W.Fast.tw13533692189407335037:Unit:=()
noncomputable def PySem.W.Fast.tw11222473210301779138:Unit:=()
noncomputable def PySem.W.Fast.tw4300362412693078506:Unit:=()
noncomputable def PySem.W.Fast.tw17142814543123970534:Unit:=()
noncomputable def PySem.W.Fast.tw2348376300192367908:Unit:=()
noncomputable def PySem.W.Fast.tw3672293317644484032:Unit:=()
noncomputable def PySem.W.Fast.tw13647645410565364023:Unit:=()
noncomputable def PySem.W.Fast.tw10682029312298480787:Unit:=()
noncomputable def PySem.W.Fast.tw8345360949652861371:Unit:=()
noncomputable def PySem.W.Fast.tw13673929319286512183:Unit:=()
noncomputable def PySem.W.Fast.tw9520045790930854599:Unit:=()
noncomputable def PySem.W.Fast.tw7772742042471799846:Unit:=()
noncomputable def PySem.W.Fast.tw1093017019186403698:Unit:=()
noncomputable def PySem.W.Fast.tw6375107887619783904:Unit:=()
noncomputable def PySem.W.Fast.tw15537148931882043613:Unit:=()
noncomputable def PySem.W.Fast.tw4927574012100027006:Unit:=()
noncomputable def PySem.W.Fast.tw14069466010061734440:Unit:=()
noncomputable def PySem.W.Fast.tw15949686670534344710:Unit:=()
noncomputable def PySem.W.Fast.tw2699169242447007790:Unit:=()
noncomputable def PySem.W.Fast.tw9465808004232415108:Unit:=()
noncomputable def PySem.W.Fast.tw1996711750046259345:Unit:=()
noncomputable def PySem.W.Fast.tw7776246746617404580:Unit:=()
noncomputable def PySem.W.Fast.tw13379186204182786052:Unit:=()
noncomputable def PySem.W.Fast.tw10491508409703664484:Unit:=()
noncomputable def PySem.W.Fast.tw13526654813127090472:Unit:=()
noncomputable def PySem.W.Fast.tw16264464616422368149:Unit:=()
noncomputable def PySem.W.Fast.tw16324174901142651151:Unit:=()
noncomputable def PySem.W.Fast.tw10507622832447910884:Unit:=()
noncomputable def PySem.W.Fast.tw9493686566239152011:Unit:=()
noncomputable def PySem.W.Fast.tw13402736636834819318:Unit:=()
noncomputable def PySem.W.Fast.tw14409012119484567514:Unit:=()
noncomputable def PySem.W.Fast.tw13614843091966756587:Unit:=()
noncomputable def PySem.W.Fast.tw15281832562725543572:Unit:=()
noncomputable def PySem.W.Fast.tw15895153222232713235:Unit:=()
noncomputable def PySem.W.Fast.tw5214054991065244220:Unit:=()
noncomputable def PySem.W.Fast.tw1191724478676396949:Unit:=()
noncomputable def PySem.W.Fast.tw5341656092278451666:Unit:=()
noncomputable def PySem.W.Fast.tw6498752635338938853:Unit:=()
noncomputable def PySem.W.Fast.tw16860719954258178363:Unit:=()
noncomputable def PySem.W.Fast.tw6474016265177530481:Unit:=()
noncomputable def PySem.W.Fast.tw11158633397734711252:Unit:=()
noncomputable def PySem.W.Fast.tw2926819218892390084:Unit:=()
noncomputable def PySem.W.Fast.tw8256721757439065733:Unit:=()
noncomputable def PySem.W.Fast.tw10466043992352885543:Unit:=()
noncomputable def PySem.W.Fast.tw9426243653451744315:Unit:=()
noncomputable def PySem.W.Fast.tw14287831970172616176:Unit:=()
noncomputable def PySem.W.Fast.tw13690256617660693553:Unit:=()
noncomputable def PySem.W.Fast.tw15372082109514358784:Unit:=()
noncomputable def PySem.W.Fast.tw12654858493010379476:Unit:=()
noncomputable def PySem.W.Fast.tw16871751731978824843:Unit:=()
noncomputable def PySem.W.Fast.tw16129892539391127696:Unit:=()
noncomputable def PySem.W.Fast.tw18369007203553166341:Unit:=()
noncomputable def PySem.W.Fast.tw12280647039318458828:Unit:=()
noncomputable def PySem.W.Fast.tw7496108402104627358:Unit:=()
noncomputable def PySem.W.Fast.tw7309644405416628014:Unit:=()
noncomputable def PySem.W.Fast.tw813800595327243501:Unit:=()
noncomputable def PySem.W.Fast.tw17137531526129272460:Unit:=()
noncomputable def PySem.W.Fast.tw15742401734668393479:Unit:=()
noncomputable def PySem.W.Fast.tw1840489398824309527:Unit:=()
noncomputable def PySem.W.Fast.tw17219169507995772082:Unit:=()
noncomputable def PySem.W.Fast.tw10667087876556298300:Unit:=()
noncomputable def PySem.W.Fast.tw10643150705366538896:Unit:=()
noncomputable def PySem.W.Fast.tw9795304420139655389:Unit:=()
noncomputable def PySem.W.Fast.tw15931193720157535776:Unit:=()
noncomputable def PySem.W.Fast.tw2749348737368937752:Unit:=()
noncomputable def PySem.W.Fast.tw2612035476936521475:Unit:=()
noncomputable def PySem.W.Fast.tw5138616388443860020:Unit:=()
noncomputable def PySem.W.Fast.tw17351537598655671434:Unit:=()
noncomputable def PySem.W.Fast.tw17420866977817919366:Unit:=()
noncomputable def PySem.W.Fast.tw5179193499354080113:Unit:=()
noncomputable def PySem.W.Fast.tw11256334617232210289:Unit:=()
noncomputable def PySem.W.Fast.tw5897930079558032798:Unit:=()
noncomputable def PySem.W.Fast.tw4081107429686509537:Unit:=()
noncomputable def PySem.W.Fast.tw17134323174559551519:Unit:=()
noncomputable def PySem.W.Fast.tw27641593001593816:Unit:=()
noncomputable def PySem.W.Fast.tw17492228037011015890:Unit:=()
noncomputable def PySem.W.Fast.tw17193211325383362926:Unit:=()
noncomputable def PySem.W.Fast.tw9508686216418743496:Unit:=()
noncomputable def PySem.W.Fast.tw1812801547108214:Unit:=()
noncomputable def PySem.W.Fast.tw17155493665054891306:Unit:=()
noncomputable def PySem.W.Fast.tw371611451474521:Unit:=()
noncomputable def PySem.W.Fast.tw2846372380908832281:Unit:=()
noncomputable def PySem.W.Fast.tw17483538386708125857:Unit:=()
noncomputable def PySem.W.Fast.tw15539128113324677050:Unit:=()
noncomputable def PySem.W.Fast.tw8047928350398078752:Unit:=()
noncomputable def PySem.W.Fast.tw13044353975010805335:Unit:=()
noncomputable def PySem.W.Fast.tw422754158676388928:Unit:=()
noncomputable def PySem.W.Fast.tw9866371302328572155:Unit:=()
noncomputable def PySem.W.Fast.tw10761711148760086995:Unit:=()
noncomputable def PySem.W.Fast.tw10234991022333544324:Unit:=()
noncomputable def PySem.W.Fast.tw5119270318813313677:Unit:=()
noncomputable def PySem.W.Fast.tw6023007556486034475:Unit:=()
noncomputable def PySem.W.Fast.tw16760339139199427976:Unit:=()
noncomputable def PySem.W.Fast.tw10369538294773176223:Unit:=()
noncomputable def PySem.W.Fast.tw1889017128220859608:Unit:=()
noncomputable def PySem.W.Fast.tw16821677360854374287:Unit:=()
noncomputable def PySem.W.Fast.tw12892557701541330310:Unit:=()
noncomputable def PySem.W.Fast.tw10797275786677122647:Unit:=()
noncomputable def PySem.W.Fast.tw7893757065864229717:Unit:=()
noncomputable def PySem.W.Fast.tw5432817989872289504:Unit:=()
noncomputable def PySem.W.Fast.tw844502796066452195:Unit:=()
noncomputable def PySem.W.Fast.tw1425230487031952983:Unit:=()
noncomputable def PySem.W.Fast.tw3387715901115774825:Unit:=()
noncomputable def PySem.W.Fast.tw5262625385233045274:Unit:=()
noncomputable def PySem.W.Fast.tw15370937529223009695:Unit:=()
noncomputable def PySem.W.Fast.tw11519734645497058426:Unit:=()
noncomputable def PySem.W.Fast.tw3910366937503629350:Unit:=()
noncomputable def PySem.W.Fast.tw4749697265173311839:Unit:=()
noncomputable def PySem.W.Fast.tw8902373566197614035:Unit:=()
noncomputable def PySem.W.Fast.tw9208273647970258911:Unit:=()
noncomputable def PySem.W.Fast.tw11160174683492213950:Unit:=()
noncomputable def PySem.W.Fast.tw10531292567849545769:Unit:=()
noncomputable def PySem.W.Fast.tw18141298940316662202:Unit:=()
noncomputable def PySem.W.Fast.tw9154399444242625656:Unit:=()
noncomputable def PySem.W.Fast.tw14379731909622053348:Unit:=()
noncomputable def PySem.W.Fast.tw6619970022893896974:Unit:=()
noncomputable def PySem.W.Fast.tw11306953721468337641:Unit:=()
noncomputable def PySem.W.Fast.tw4590874062107311262:Unit:=()
noncomputable def PySem.W.Fast.tw3008157736786565559:Unit:=()
noncomputable def PySem.W.Fast.tw13295428021735284033:Unit:=()
noncomputable def PySem.W.Fast.tw16957050813037714210:Unit:=()
noncomputable def PySem.W.Fast.tw4129635168150784676:Unit:=()
noncomputable def PySem.W.Fast.tw18392036059024718337:Unit:=()
noncomputable def PySem.W.Fast.tw15289442109661312643:Unit:=()
noncomputable def PySem.W.Fast.tw1235115885732449616:Unit:=()
noncomputable def PySem.W.Fast.tw309712335466557686:Unit:=()
noncomputable def PySem.W.Fast.tw17103925175946345264:Unit:=()
noncomputable def PySem.W.Fast.tw4381113086072279228:Unit:=()
noncomputable def PySem.W.Fast.tw17900543337553138161:Unit:=()
noncomputable def PySem.W.Fast.tw15985402475501992474:Unit:=()
noncomputable def PySem.W.Fast.tw15649438766020423776:Unit:=()
noncomputable def PySem.W.Fast.tw14099441731401025115:Unit:=()
noncomputable def PySem.W.Fast.tw13392986103525688143:Unit:=()
noncomputable def PySem.W.Fast.tw7898746693800697513:Unit:=()
noncomputable def PySem.W.Fast.tw13505202885607080952:Unit:=()
noncomputable def PySem.W.Fast.tw4056526687297099081:Unit:=()
noncomputable def PySem.W.Fast.tw5119049978398083562:Unit:=()
noncomputable def PySem.W.Fast.tw17597238691215435053:Unit:=()
noncomputable def PySem.W.Fast.tw11026791930840278832:Unit:=()
noncomputable def PySem.W.Fast.tw13243635698178629458:Unit:=()
noncomputable def PySem.W.Fast.tw8720069580014989862:Unit:=()
noncomputable def PySem.W.Fast.tw8013217005327412057:Unit:=()
noncomputable def PySem.W.Fast.tw8963297028688152963:Unit:=()
noncomputable def PySem.W.Fast.tw643235887105807227:Unit:=()
noncomputable def PySem.W.Fast.tw12896150472270921222:Unit:=()
noncomputable def PySem.W.Fast.tw16898415951855120831:Unit:=()
noncomputable def PySem.W.Fast.tw11161197757480689994:Unit:=()
noncomputable def PySem.W.Fast.tw13739324219084377667:Unit:=()
noncomputable def PySem.W.Fast.tw11423644894319337291:Unit:=()
noncomputable def PySem.W.Fast.tw12966792653129706131:Unit:=()
noncomputable def PySem.W.Fast.tw11544206262575456042:Unit:=()
noncomputable def PySem.W.Fast.tw18417730945372796018:Unit:=()
noncomputable def PySem.W.Fast.tw4821428481746538897:Unit:=()
noncomputable def PySem.W.Fast.tw506939732607746807:Unit:=()
open PySem PySem.W PyProof.Rows
set_option maxRecDepth 100000 in
set_option maxHeartbeats 0 in
theorem PySem.Challenge.cw_knockwright_k76_whole_boxes_stay_apart_holds : PySem.Challenge.rw_knockwright_k76_whole_boxes_stay_apart.Holds := by
 w_on; o_law; z_head; (case hw=>w_witness2)
 refine Kw.walk_kwX (pn:="script") (l:=PySem.Challenge.rw_knockwright_k76_whole_boxes_stay_apart) (k:=12) rfl rfl ⟨rfl,by decide,by decide⟩ (fun _=>by kernel_rfl) rfl ?F
 case F=>
  intro w mg h KX G
  refine' Prf.all_mk KX G ?c_Plane ?b_isinstance ?b_int ?b_bool ?b_tuple ?b_list ?b_abs ?b_len ?b_divmod ?b_range ?b_max ?b_min ?b_all ?b_any ?b_enumerate ?b_set ?pg_Plane ?hd_Plane ?po_Plane ?sa_Plane ?mk_Plane ?kp_Plane ?n_Plane_walls ?n_Plane_goings ?n_Plane_now ?n_Plane_gone_through ?n_Plane_joints ?n_Plane_coming ?n_Plane_due ?i_LONG_BITS ?c_NOUGHT ?z_NOUGHT ?i_ACROSS ?i_ALONG ?i_SIZES ?i_SPEEDS ?c_ALL ?z_ALL ?c_WORDS ?z_WORDS ?i_NEAR_WALL ?i_FAR_WALL ?i_MOST_WEIGHT ?i_MOST_BOXES ?i_MOST_MOMENTS ?a0 ?l0 ?q0 ?k0 ?a1 ?l1 ?q1 ?k1 ?a2 ?l2 ?q2 ?k2 ?g2 ?a3 ?l3 ?q3 ?k3 ?a4 ?l4 ?q4 ?k4 ?a5 ?l5 ?q5 ?k5 ?a6 ?l6 ?q6 ?k6 ?a7 ?l7 ?q7 ?k7 ?a8 ?l8 ?q8 ?k8 ?a9 ?l9 ?q9 ?k9 ?a10 ?l10 ?q10 ?k10 ?a11 ?l11 ?q11 ?k11 ?a12 ?l12 ?q12 ?k12 ?a13 ?l13 ?q13 ?k13 ?a14 ?l14 ?q14 ?k14 ?a15 ?l15 ?q15 ?k15 ?a16 ?l16 ?q16 ?k16 ?a17 ?l17 ?q17 ?k17 ?a18 ?l18 ?q18 ?k18 ?a19 ?l19 ?q19 ?k19 ?a20 ?l20 ?q20 ?k20 ?a21 ?l21 ?q21 ?k21 ?a22 ?l22 ?q22 ?k22 ?a23 ?l23 ?q23 ?k23 ?a24 ?t24 ?l24 ?q24 ?k24 ?a25 ?t25 ?l25 ?q25 ?k25 ?a26 ?t26 ?l26 ?q26 ?k26 ?a27 ?t27 ?l27 ?q27 ?k27 ?a28 ?t28 ?l28 ?q28 ?k28 ?a29 ?t29 ?l29 ?q29 ?k29 ?a30 ?t30 ?l30 ?q30 ?k30 ?a31 ?t31 ?l31 ?q31 ?k31 ?a32 ?t32 ?l32 ?q32 ?k32 ?a33 ?t33 ?l33 ?q33 ?k33 ?a34 ?t34 ?l34 ?q34 ?k34 ?a35 ?t35 ?l35 ?q35 ?k35 ?a36 ?t36 ?l36 ?q36 ?k36 ?a37 ?t37 ?l37 ?q37 ?k37 ?a38 ?t38 ?l38 ?q38 ?k38 ?a39 ?t39 ?l39 ?q39 ?k39 ?a40 ?t40 ?l40 ?q40 ?k40 ?a41 ?l41 ?q41 ?k41 ?a42 ?l42 ?q42 ?k42 ?a43 ?t43 ?l43 ?q43 ?k43 ?a44 ?l44 ?q44 ?k44 ?a45 ?l45 ?q45 ?k45 ?a46 ?l46 ?q46 ?k46 ?a47 ?l47 ?q47 ?k47 ?a48 ?l48 ?q48 ?k48 ?a49 ?l49 ?q49 ?k49 ?a50 ?l50 ?q50 ?k50 ?a51 ?l51 ?q51 ?k51 ?a52 ?l52 ?q52 ?k52 ?a53 ?l53 ?q53 ?k53 ?a54 ?l54 ?q54 ?k54 ?a55 ?l55 ?q55 ?k55 ?a56 ?l56 ?q56 ?k56 ?a57 ?l57 ?q57 ?k57 ?a58 ?l58 ?q58 ?k58 ?a59 ?l59 ?q59 ?k59 ?a60 ?l60 ?q60 ?k60 ?a61 ?l61 ?q61 ?k61 ?a62 ?l62 ?q62 ?k62 ?a63 ?l63 ?q63 ?k63 ?a64 ?l64 ?q64 ?k64 ?a65 ?l65 ?q65 ?k65 ?a66 ?l66 ?q66 ?k66 ?a67 ?l67 ?q67 ?k67 ?a68 ?l68 ?q68 ?k68 ?a69 ?l69 ?q69 ?k69 ?a70 ?l70 ?q70 ?k70 ?a71 ?l71 ?q71 ?k71 ?a72 ?l72 ?q72 ?k72 ?a73 ?l73 ?q73 ?k73 ?a74 ?l74 ?q74 ?k74
  (case c_Plane=>k_is)
  (case b_isinstance=>k_is)
  (case b_int=>k_is)
  (case b_bool=>k_is)
  (case b_tuple=>k_is)
  (case b_list=>k_is)
  (case b_abs=>k_is)
  (case b_len=>k_is)
  (case b_divmod=>k_is)
  (case b_range=>k_is)
  (case b_max=>k_is)
  (case b_min=>k_is)
  (case b_all=>k_is)
  (case b_any=>k_is)
  (case b_enumerate=>k_is)
  (case b_set=>k_is)
  (case pg_Plane=>k_is)
  (case hd_Plane=>k_is)
  (case po_Plane=>k_is)
  (case sa_Plane=>k_is)
  (case mk_Plane=>k_is)
  (case kp_Plane=>k_is)
  (case n_Plane_walls=>k_is)
  (case n_Plane_goings=>k_is)
  (case n_Plane_now=>k_is)
  (case n_Plane_gone_through=>k_is)
  (case n_Plane_joints=>k_is)
  (case n_Plane_coming=>k_is)
  (case n_Plane_due=>k_is)
  (case i_LONG_BITS=>k_is)
  (case c_NOUGHT=>k_is)
  (case z_NOUGHT=>k_is)
  (case i_ACROSS=>k_is)
  (case i_ALONG=>k_is)
  (case i_SIZES=>k_is)
  (case i_SPEEDS=>k_is)
  (case c_ALL=>k_is)
  (case z_ALL=>k_is)
  (case c_WORDS=>k_is)
  (case z_WORDS=>k_is)
  (case i_NEAR_WALL=>k_is)
  (case i_FAR_WALL=>k_is)
  (case i_MOST_WEIGHT=>k_is)
  (case i_MOST_BOXES=>k_is)
  (case i_MOST_MOMENTS=>k_is)
  (case a0=>k_is)
  (case l0=>k_is)
  (case q0=>k_is)
  (case k0=>k_is)
  (case a1=>k_is)
  (case l1=>k_is)
  (case q1=>k_is)
  (case k1=>k_is)
  (case a2=>k_is)
  (case l2=>k_is)
  (case q2=>k_is)
  (case k2=>k_is)
  (case g2=>k_is)
  (case a3=>k_is)
  (case l3=>k_is)
  (case q3=>k_is)
  (case k3=>k_is)
  (case a4=>k_is)
  (case l4=>k_is)
  (case q4=>k_is)
  (case k4=>k_is)
  (case a5=>k_is)
  (case l5=>k_is)
  (case q5=>k_is)
  (case k5=>k_is)
  (case a6=>k_is)
  (case l6=>k_is)
  (case q6=>k_is)
  (case k6=>k_is)
  (case a7=>k_is)
  (case l7=>k_is)
  (case q7=>k_is)
  (case k7=>k_is)
  (case a8=>k_is)
  (case l8=>k_is)
  (case q8=>k_is)
  (case k8=>k_is)
  (case a9=>k_is)
  (case l9=>k_is)
  (case q9=>k_is)
  (case k9=>k_is)
  (case a10=>k_is)
  (case l10=>k_is)
  (case q10=>k_is)
  (case k10=>k_is)
  (case a11=>k_is)
  (case l11=>k_is)
  (case q11=>k_is)
  (case k11=>k_is)
  (case a12=>k_is)
  (case l12=>k_is)
  (case q12=>k_is)
  (case k12=>k_is)
  (case a13=>k_is)
  (case l13=>k_is)
  (case q13=>k_is)
  (case k13=>k_is)
  (case a14=>k_is)
  (case l14=>k_is)
  (case q14=>k_is)
  (case k14=>k_is)
  (case a15=>k_is)
  (case l15=>k_is)
  (case q15=>k_is)
  (case k15=>k_is)
  (case a16=>k_is)
  (case l16=>k_is)
  (case q16=>k_is)
  (case k16=>k_is)
  (case a17=>k_is)
  (case l17=>k_is)
  (case q17=>k_is)
  (case k17=>k_is)
  (case a18=>k_is)
  (case l18=>k_is)
  (case q18=>k_is)
  (case k18=>k_is)
  (case a19=>k_is)
  (case l19=>k_is)
  (case q19=>k_is)
  (case k19=>k_is)
  (case a20=>k_is)
  (case l20=>k_is)
  (case q20=>k_is)
  (case k20=>k_is)
  (case a21=>k_is)
  (case l21=>k_is)
  (case q21=>k_is)
  (case k21=>k_is)
  (case a22=>k_is)
  (case l22=>k_is)
  (case q22=>k_is)
  (case k22=>k_is)
  (case a23=>k_is)
  (case l23=>k_is)
  (case q23=>k_is)
  (case k23=>k_is)
  (case a24=>k_is)
  (case t24=>k_is)
  (case l24=>k_is)
  (case q24=>k_is)
  (case k24=>k_is)
  (case a25=>k_is)
  (case t25=>k_is)
  (case l25=>k_is)
  (case q25=>k_is)
  (case k25=>k_is)
  (case a26=>k_is)
  (case t26=>k_is)
  (case l26=>k_is)
  (case q26=>k_is)
  (case k26=>k_is)
  (case a27=>k_is)
  (case t27=>k_is)
  (case l27=>k_is)
  (case q27=>k_is)
  (case k27=>k_is)
  (case a28=>k_is)
  (case t28=>k_is)
  (case l28=>k_is)
  (case q28=>k_is)
  (case k28=>k_is)
  (case a29=>k_is)
  (case t29=>k_is)
  (case l29=>k_is)
  (case q29=>k_is)
  (case k29=>k_is)
  (case a30=>k_is)
  (case t30=>k_is)
  (case l30=>k_is)
  (case q30=>k_is)
  (case k30=>k_is)
  (case a31=>k_is)
  (case t31=>k_is)
  (case l31=>k_is)
  (case q31=>k_is)
  (case k31=>k_is)
  (case a32=>k_is)
  (case t32=>k_is)
  (case l32=>k_is)
  (case q32=>k_is)
  (case k32=>k_is)
  (case a33=>k_is)
  (case t33=>k_is)
  (case l33=>k_is)
  (case q33=>k_is)
  (case k33=>k_is)
  (case a34=>k_is)
  (case t34=>k_is)
  (case l34=>k_is)
  (case q34=>k_is)
  (case k34=>k_is)
  (case a35=>k_is)
  (case t35=>k_is)
  (case l35=>k_is)
  (case q35=>k_is)
  (case k35=>k_is)
  (case a36=>k_is)
  (case t36=>k_is)
  (case l36=>k_is)
  (case q36=>k_is)
  (case k36=>k_is)
  (case a37=>k_is)
  (case t37=>k_is)
  (case l37=>k_is)
  (case q37=>k_is)
  (case k37=>k_is)
  (case a38=>k_is)
  (case t38=>k_is)
  (case l38=>k_is)
  (case q38=>k_is)
  (case k38=>k_is)
  (case a39=>k_is)
  (case t39=>k_is)
  (case l39=>k_is)
  (case q39=>k_is)
  (case k39=>k_is)
  (case a40=>k_is)
  (case t40=>k_is)
  (case l40=>k_is)
  (case q40=>k_is)
  (case k40=>k_is)
  (case a41=>k_is)
  (case l41=>k_is)
  (case q41=>k_is)
  (case k41=>k_is)
  (case a42=>k_is)
  (case l42=>k_is)
  (case q42=>k_is)
  (case k42=>k_is)
  (case a43=>k_is)
  (case t43=>k_is)
  (case l43=>k_is)
  (case q43=>k_is)
  (case k43=>k_is)
  (case a44=>k_is)
  (case l44=>k_is)
  (case q44=>k_is)
  (case k44=>k_is)
  (case a45=>k_is)
  (case l45=>k_is)
  (case q45=>k_is)
  (case k45=>k_is)
  (case a46=>k_is)
  (case l46=>k_is)
  (case q46=>k_is)
  (case k46=>k_is)
  (case a47=>k_is)
  (case l47=>k_is)
  (case q47=>k_is)
  (case k47=>k_is)
  (case a48=>k_is)
  (case l48=>k_is)
  (case q48=>k_is)
  (case k48=>k_is)
  (case a49=>k_is)
  (case l49=>k_is)
  (case q49=>k_is)
  (case k49=>k_is)
  (case a50=>k_is)
  (case l50=>k_is)
  (case q50=>k_is)
  (case k50=>k_is)
  (case a51=>k_is)
  (case l51=>k_is)
  (case q51=>k_is)
  (case k51=>k_is)
  (case a52=>k_is)
  (case l52=>k_is)
  (case q52=>k_is)
  (case k52=>k_is)
  (case a53=>k_is)
  (case l53=>k_is)
  (case q53=>k_is)
  (case k53=>k_is)
  (case a54=>k_is)
  (case l54=>k_is)
  (case q54=>k_is)
  (case k54=>k_is)
  (case a55=>k_is)
  (case l55=>k_is)
  (case q55=>k_is)
  (case k55=>k_is)
  (case a56=>k_is)
  (case l56=>k_is)
  (case q56=>k_is)
  (case k56=>k_is)
  (case a57=>k_is)
  (case l57=>k_is)
  (case q57=>k_is)
  (case k57=>k_is)
  (case a58=>k_is)
  (case l58=>k_is)
  (case q58=>k_is)
  (case k58=>k_is)
  (case a59=>k_is)
  (case l59=>k_is)
  (case q59=>k_is)
  (case k59=>k_is)
  (case a60=>k_is)
  (case l60=>k_is)
  (case q60=>k_is)
  (case k60=>k_is)
  (case a61=>k_is)
  (case l61=>k_is)
  (case q61=>k_is)
  (case k61=>k_is)
  (case a62=>k_is)
  (case l62=>k_is)
  (case q62=>k_is)
  (case k62=>k_is)
  (case a63=>k_is)
  (case l63=>k_is)
  (case q63=>k_is)
  (case k63=>k_is)
  (case a64=>k_is)
  (case l64=>k_is)
  (case q64=>k_is)
  (case k64=>k_is)
  (case a65=>k_is)
  (case l65=>k_is)
  (case q65=>k_is)
  (case k65=>k_is)
  (case a66=>k_is)
  (case l66=>k_is)
  (case q66=>k_is)
  (case k66=>k_is)
  (case a67=>k_is)
  (case l67=>k_is)
  (case q67=>k_is)
  (case k67=>k_is)
  (case a68=>k_is)
  (case l68=>k_is)
  (case q68=>k_is)
  (case k68=>k_is)
  (case a69=>k_is)
  (case l69=>k_is)
  (case q69=>k_is)
  (case k69=>k_is)
  (case a70=>k_is)
  (case l70=>k_is)
  (case q70=>k_is)
  (case k70=>k_is)
  (case a71=>k_is)
  (case l71=>k_is)
  (case q71=>k_is)
  (case k71=>k_is)
  (case a72=>k_is)
  (case l72=>k_is)
  (case q72=>k_is)
  (case k72=>k_is)
  (case a73=>k_is)
  (case l73=>k_is)
  (case q73=>k_is)
  (case k73=>k_is)
  (case a74=>k_is)
  (case l74=>k_is)
  (case q74=>k_is)
  (case k74=>k_is)
