import PyProof.Rows.All
import Wide.All
import OpenK.AllK
import Wide.FinOn
import Lean
import PyProof.EqAt
import PyProof.EqKinds
import PyProof.TupleCall
import PyProof.ExcBaseAll.ValueError
import PyProof.P3Eq
import PyProof.NeData
import PyProof.DictTable
import KE.KEqDict
import PyProof.EnumFor
import PyProof.EnumMake
import PyProof.EnumStmt
import PyProof.NsDelKeeps
import KE.KListMore
import PyProof.Rows.SortWalk
import PyProof.ListRange
import PyProof.P3In
import PyProof.CollectIter
import PyProof.TupleOfStr
import KE.KIntText
import PyProof.StrLawsTight
import PyProof.Rows.StrSplitCount
import PyProof.JoinWalk
import OpenK.KTop
import PyProof.StrLawsFirst
import PyProof.MeetsStr
import PyProof.StrLawsChain
import PySem.Challenge.RW_knockwright_k72_boxes_refused
set_option genSizeOf false
set_option bootstrap.genMatcherCode false
noncomputable section
open PySem.W (instObj methodObj hideAll hideAll_get of_hideAll hideAll_none lookIn InstAt plainGet hasDictIn findIn handedIn plainGet_of isFn plainOver takerIn set_plain any_some looks_clsIn makesIn typeIn emptyDict looks_findIn keepIn specialIn takesIn mroIn kitOne kia_one callWith_K methodCall_KW fnOf codeIn excIn Looks nsIn mg_of looks_mroIn readsIn findCls kitAny subIn mg_none_of)
set_option Elab.async false
set_option linter.all false
set_option maxRecDepth 100000
namespace L2
open PySem PySem.Spec PyProof.Rows
noncomputable abbrev Key:=Sum Int Str
noncomputable def keyIs:Key->Value->Bool
 |.inl k,v=>Value.isInt k v
 |.inr x,v=>Value.isStrOf x v
noncomputable def keyH (w:World):Key->Int
 |.inl k=>hashInt k
 |.inr x=>hashStr w x
theorem yD:∀ {k:Key} {v:Value},keyIs k v=true->(∃ i t,k=Sum.inl i/\v=Value.int i t)\/(∃ x t,k=Sum.inr x/\v=Value.str x t)
 |.inl i,v,h=>by
  obtain ⟨t,e⟩:=Value.isInt_shape (k:=i) (v:=v) h;exact .inl ⟨i,t,rfl,e⟩
 |.inr x,v,h=>by
  obtain ⟨t,e⟩:=Value.isStrOf_shape (x:=x) (v:=v) h;exact .inr ⟨x,t,rfl,e⟩
theorem keyIs_int (i:Int) (t:Tok):keyIs (.inl i) (.int i t)=true:=by simp [keyIs,Value.isInt]
theorem keyIs_str (x:Str) (t:Tok):keyIs (.inr x) (.str x t)=true:=by simp [keyIs,Value.isStrOf]
theorem key_ll (a b:Int):decide ((Sum.inl a:Key)=Sum.inl b)=(a == b):=by
 by_cases e:a=b
 ·subst e; simp
 ·have h:¬ (Sum.inl a:Key)=Sum.inl b:=λq=>e (Sum.inl.inj q)
  rw [decide_eq_false h];exact (beq_eq_false_iff_ne.mpr e).symm
theorem key_rr (a b:Str):decide ((Sum.inr a:Key)=Sum.inr b)=decide (a=b):=by
 by_cases e:a=b
 ·subst e; simp
 ·have h:¬ (Sum.inr a:Key)=Sum.inr b:=λq=>e (Sum.inr.inj q)
  rw [decide_eq_false h,decide_eq_false e]
theorem key_lr (a:Int) (b:Str):decide ((Sum.inl a:Key)=Sum.inr b)=false:=decide_eq_false (λq=>nomatch q)
theorem key_rl (a:Str) (b:Int):decide ((Sum.inr a:Key)=Sum.inl b)=false:=decide_eq_false (λq=>nomatch q)
noncomputable def yF (prog:Program) (w:World):PySem.KeyKind prog w Key where
 is:=keyIs
 hash:=keyH w
 inj:=λv a b ha hb=>by
  rcases yD ha with ⟨i,t,rfl,rfl⟩|⟨x,t,rfl,rfl⟩
  ·rcases yD hb with ⟨j,u,rfl,e⟩|⟨y,u,rfl,e⟩
   ·injection e with e1 _; rw [e1]
   ·exact nomatch e
  ·rcases yD hb with ⟨j,u,rfl,e⟩|⟨y,u,rfl,e⟩
   ·exact nomatch e
   ·injection e with e1 _; rw [e1]
 byValue:=λk v h=>by
  rcases yD h with ⟨i,t,rfl,rfl⟩|⟨x,t,rfl,rfl⟩<;>rfl
 pyHash:=λhv h=>by
  rcases yD hv with ⟨i,t,rfl,rfl⟩|⟨x,t,rfl,rfl⟩
  ·exact wpAny_pyHash_int h
  ·exact wpAny_pyHash_str h
 eqBool:=λhu hv h=>by
  rcases yD hu with ⟨i,t,rfl,rfl⟩|⟨x,t,rfl,rfl⟩
  ·rcases yD hv with ⟨j,u,rfl,rfl⟩|⟨y,u,rfl,rfl⟩
   ·rw [key_ll] at h; exact wpAny_eqBool_int h
   ·rw [key_lr] at h; exact SeqAt.EqAt.int_str i t y u _ _ _ _ h
  ·rcases yD hv with ⟨j,u,rfl,rfl⟩|⟨y,u,rfl,rfl⟩
   ·rw [key_rl] at h; exact SeqAt.EqAt.str_int x t j u _ _ _ _ h
   ·rw [key_rr] at h; exact wpAny_eqBool_str h
 «strs»:=λk x t v h=>by
  rcases yD h with ⟨i,u,rfl,e⟩|⟨y,u,rfl,e⟩
  ·exact nomatch e
  ·injection e with e1 _
   subst e1
   cases v<;>rfl
theorem mixKind_int (prog:Program) (w:World) (i:Int) (t:Tok):(yF prog w).is (.inl i) (.int i t)=true:=keyIs_int i t
theorem JM (prog:Program) (w:World) (x:Str) (t:Tok):(yF prog w).is (.inr x) (.str x t)=true:=keyIs_str x t
end L2
namespace L2
open PySem PySem.Spec PyProof.Rows
inductive V where
 |non|bl (b:Bool)|int (i:Int)|str (x:Str)|byt (b:Array UInt8)|flt (b:UInt64)|ref (a:Addr)|ty (n:String)
 deriving DecidableEq
noncomputable def RelV:V->Value->Prop
 |.non,u=>u=Value.none
 |.bl b,u=>u=Value.bool b
 |.int i,u=>∃ t,u=Value.int i t
 |.str x,u=>∃ t,u=Value.str x t
 |.byt b,u=>∃ t,u=Value.bytes b t
 |.flt b,u=>∃ t,u=Value.float b t
 |.ref a,u=>u=Value.ref a
 |.ty n,u=>u=Value.type n
noncomputable abbrev Vals:List V->List Value->Prop:=Paired RelV
theorem Vals.length {xs:List V} {us:List Value} (r:Vals xs us):xs.length=us.length:=Paired.length r
theorem Vals.get:∀ {xs:List V} {us:List Value} {i:Nat} {x:V},Vals xs us->xs[i]?=some x->∃ u,us[i]?=some u/\RelV x u
 |_,_,_,_,.nil,e=>by simp at e
 |_,_,0,_,.cons r _,e=>by simp at e; subst e; exact ⟨_,rfl,r⟩
 |_,_,i+1,x,.cons _ t,e=>by
  obtain ⟨u,h1,h2⟩:=Vals.get (i:=i) (x:=x) t (by simpa using e)
  exact ⟨u,by simpa using h1,h2⟩
theorem Vals.set {x:V} {u:Value} (r:RelV x u):∀ {xs:List V} {us:List Value} (i:Nat),Vals xs us->Vals (xs.set i x) (us.set i u)
 |_,_,_,.nil=>.nil
 |_,_,0,.cons _ t=>.cons r t
 |_,_,i+1,.cons q t=>.cons q (Vals.set r i t)
theorem Vals.append:∀ {xs ys:List V} {us ws:List Value},Vals xs us->Vals ys ws->Vals (xs++ys) (us++ws)
 |_,_,_,_,.nil,s=>s
 |_,_,_,_,.cons r t,s=>.cons r (Vals.append t s)
theorem Vals.take:∀ {xs:List V} {us:List Value} (n:Nat),Vals xs us->Vals (xs.take n) (us.take n)
 |_,_,0,_=>.nil
 |_,_,_+1,.nil=>.nil
 |_,_,n+1,.cons r t=>.cons r (Vals.take n t)
theorem Vals.drop:∀ {xs:List V} {us:List Value} (n:Nat),Vals xs us->Vals (xs.drop n) (us.drop n)
 |_,_,0,r=>r
 |_,_,_+1,.nil=>.nil
 |_,_,n+1,.cons _ t=>Vals.drop n t
noncomputable def RelO:Option V->Option Value->Prop
 |some v,some u=>RelV v u
 |none,none=>True
 |_,_=>False
noncomputable def KV {κ:Type}:List (κ × V)->List (κ × Value)->Prop:=Paired λ(p:κ × V) (q:κ × Value)=>p.1=q.1/\RelV p.2 q.2
noncomputable def kV:Key->V
 |.inl i=>.int i
 |.inr x=>.str x
inductive HO where
 |lst (xs:List V)
 |tup (xs:List V)
 |dK (kvs:List (Key × V))|dT (kvs:List (List Key × V))
 |set (S:Int->Bool) (n:Nat)
 |ins (C dx:Addr) (fs:List (Str × V))
 |own (x:Addr)
 |xd (fs:List (Str × V))
 |met (f x:Addr)
 |rng (lo hi:Int)
 |frz (o:Obj) (u:HO)
 |tbl (ps:Array Value)
 |ext (φ:Heap->Prop)
noncomputable abbrev Hp:=Addr->Option HO
noncomputable def upd (H:Hp) (a:Addr) (o:HO):Hp:=λb=>if b=a then some o else H b
theorem zb {H:Hp} {a:Addr} {o:HO}:upd H a o a=some o:=by unfold upd; rw [if_pos rfl]
theorem zV {H:Hp} {a b:Addr} {o:HO} (h:b≠a):upd H a o b=H b:=by unfold upd; rw [if_neg h]
theorem upd_upd {H:Hp} {a:Addr} {o u:HO}:upd (upd H a o) a u=upd H a u:=by
 funext b; unfold upd; split<;>rfl
theorem zq {H:Hp} {a b:Addr} {o u:HO} (h:H a=some o) (h':H b=some u) (d:o≠u):a≠b:=by
 intro e; subst e; rw [h] at h'; exact d (Option.some.inj h')
theorem zL {H:Hp} {a b:Addr} {o:HO} (h:H a=some o) (h':H b=none):a≠b:=by
 intro e; subst e; rw [h] at h'; cases h'
section
variable (P:Program) (w:World)
noncomputable def zg (H:Hp) (h:Heap) (a:Addr):HO->Prop
 |.lst xs=>xs.length<=sizeLine/\∃ (its:List Value) (n:Nat),Vals xs its/\h.get? a=some {cls:=.type "list",data:=.seq its.toArray n}
 |.tup xs=>xs.length<=sizeLine/\∃ its:List Value,Vals xs its/\IsTup h a its.toArray
 |.dK kvs=>kvs.length<=sizeLine/\(a == sysModules)=false/\∃ vs,KV kvs vs/\h.DictOf (yF P w) a vs
 |.dT kvs=>kvs.length<=sizeLine/\(a == sysModules)=false/\∃ xs:List (List Key × Addr × Value),
   Paired (λ(p:List Key × V) (q:List Key × Addr × Value)=>p.1=q.1/\H q.2.1=some (.tup (p.1.map kV))/\RelV p.2 q.2.2) kvs xs/\
   ∃ o es ep,h.get? a=some o/\o.ExactDict/\o.data=.dict es ep/\es.toList=xs.map (entryOfKey (tupleKind (yF P w)))/\(xs.map (·.1)).Nodup
 |.set S n=>h.SetOf (intKind P w) a S n
 |.ins C dx fs=>H dx=some (.own a)/\fs.length<=1000/\dx≠a/\h.get? a=some (instObj C dx)/\
   ∃ mA,h.Ns1 dx mA/\(∀ f,RelO (fs.lookup f) (mA f))/\PySem.Within mA (fs.map (·.1))
 |.own _=>∃ o,h.get? a=some o
 |.xd fs=>∃ mA,h.Ns1 a mA/\∀ f,RelO (fs.lookup f) (mA f)
 |.rng lo hi=>∃ t u v,h.get? a=some {cls:=.type "range",data:=.fields #[.int lo t,.int hi u,.int 1 v]}
 |.frz o u=>h.get? a=some o/\zg H h a u
 |.tbl ps=>h.get? a=some {cls:=.none,data:=.fields ps}
 |.met f x=>h.get? a=some (methodObj (.ref f) (.ref x))
 |.ext φ=>φ h/\(∃ o,h.get? a=some o)/\∀ h1 h2:Heap,φ h1->(∀ o,h1.get? a=some o->h2.get? a=some o)->φ h2
noncomputable def HOk (H:Hp) (h:Heap):Prop:=∀ a o,H a=some o->zg P w H h a o
end
section
variable {P:Program} {w:World} {H H':Hp} {h h':Heap} {a:Addr} {o:HO}
theorem zg.lt (x:zg P w H h a o):a < h.objs.size:=by
 cases o with
 |lst xs=>obtain ⟨_,_,_,_,e⟩:=x; exact Heap.lt_size e
 |tup xs=>obtain ⟨_,_,_,p⟩:=x; exact p.lt
 |dK kvs=>obtain ⟨_,_,_,_,o,_,_,e,_⟩:=x; exact Heap.lt_size e
 |dT kvs=>obtain ⟨_,_,_,_,o,_,_,e,_⟩:=x; exact Heap.lt_size e
 |set S n=>obtain ⟨o,_,_,_,e,_⟩:=x; exact Heap.lt_size e
 |ins C dx fs=>obtain ⟨_,_,_,e,_⟩:=x; exact Heap.lt_size e
 |own y=>obtain ⟨_,e⟩:=x; exact Heap.lt_size e
 |xd fs=>obtain ⟨_,⟨_,_,_,e,_⟩,_⟩:=x; exact Heap.lt_size e
 |rng lo hi=>obtain ⟨_,_,_,e⟩:=x; exact Heap.lt_size e
 |frz ob u=>obtain ⟨e,_⟩:=x; exact Heap.lt_size e
 |tbl ps=>exact Heap.lt_size (show h.get? a=some _ from x)
 |met f y=>exact Heap.lt_size (show h.get? a=some _ from x)
 |ext φ=>obtain ⟨_,⟨_,e⟩,_⟩:=x; exact Heap.lt_size e
theorem Paired.mapP {α β:Type} {F G:α->β->Prop}:∀ {l₁:List α} {l₂:List β},Paired F l₁ l₂->(∀ a b,F a b->G a b)->Paired G l₁ l₂
 |_,_,.nil,_=>.nil
 |_,_,.cons r t,f=>.cons (f _ _ r) (Paired.mapP t f)
theorem zg.stay (x:zg P w H h a o) (k:∀ b u,(b=a\/H b=some (.own a))->h.get? b=some u->h'.get? b=some u)
  (ho:∀ b,H b=some (.own a)->H' b=some (.own a)) (ht:∀ b xs,H b=some (.tup xs)->H' b=some (.tup xs)):zg P w H' h' a o:=by
 induction o with
 |lst xs=>obtain ⟨z,its,n,r,e⟩:=x; exact ⟨z,its,n,r,k _ _ (.inl rfl) e⟩
 |tup xs=>obtain ⟨z,its,r,ob,e,c⟩:=x; exact ⟨z,its,r,ob,k _ _ (.inl rfl) e,c⟩
 |dK kvs=>obtain ⟨z,y,vs,r,ob,es,ep,e,c⟩:=x; exact ⟨z,y,vs,r,ob,es,ep,k _ _ (.inl rfl) e,c⟩
 |dT kvs=>
  obtain ⟨z,y,xs,r,ob,es,ep,e,c⟩:=x;exact ⟨z,y,xs,Paired.mapP r λp q z=>⟨z.1,ht _ _ z.2.1,z.2.2⟩,ob,es,ep,k _ _ (.inl rfl) e,c⟩
 |set S n=>obtain ⟨ob,es,ep,t,e,c⟩:=x; exact ⟨ob,es,ep,t,k _ _ (.inl rfl) e,c⟩
 |ins C dx fs=>
  obtain ⟨d,z,ne,e,mA,⟨od,es,ep,e2,c⟩,r⟩:=x;exact ⟨ho _ d,z,ne,k _ _ (.inl rfl) e,mA,⟨od,es,ep,k _ _ (.inr d) e2,c⟩,r⟩
 |own y=>obtain ⟨ob,e⟩:=x; exact ⟨ob,k _ _ (.inl rfl) e⟩
 |xd fs=>obtain ⟨mA,⟨od,es,ep,e,c⟩,r⟩:=x; exact ⟨mA,⟨od,es,ep,k _ _ (.inl rfl) e,c⟩,r⟩
 |rng lo hi=>obtain ⟨t,u,v,e⟩:=x; exact ⟨t,u,v,k _ _ (.inl rfl) e⟩
 |frz ob u ih=>obtain ⟨e,q⟩:=x; exact ⟨k _ _ (.inl rfl) e,ih q⟩
 |tbl ps=>
  have e:h.get? a=some {cls:=.none,data:=.fields ps}:=x;show h'.get? a=some {cls:=.none,data:=.fields ps};exact k a _ (.inl rfl) e
 |met f y=>
  have e:h.get? a=some (methodObj (.ref f) (.ref y)):=x;show h'.get? a=some (methodObj (.ref f) (.ref y));exact k a _ (.inl rfl) e
 |ext φ=>obtain ⟨p,⟨o,e⟩,st⟩:=x; exact ⟨st _ _ p λo q=>k _ _ (.inl rfl) q,⟨o,k _ _ (.inl rfl) e⟩,st⟩
theorem HOk.lt (x:HOk P w H h) (e:H a=some o):a < h.objs.size:=(x a o e).lt
theorem HOk.fresh (x:HOk P w H h) (e:h.objs.size<=a):H a=none:=by
 cases q:H a with
 |none=>rfl
 |some u=>exact absurd (Nat.lt_of_lt_of_le (x.lt q) e) (Nat.lt_irrefl _)
theorem HOk.kept (x:HOk P w H h) (k:∀ b u,h.get? b=some u->h'.get? b=some u):HOk P w H h':=λa o e=>
 (x a o e).stay (λb u _ q=>k b u q) (λ_ q=>q) λ_ _ q=>q
theorem HOk.laid (x:HOk P w H h) (k:∀ b u,h.get? b=some u->h'.get? b=some u) (hp:h.objs.size<=a) (new:zg P w (upd H a o) h' a o):HOk P w (upd H a o) h':=λb u e=>by
 have hn:=x.fresh hp;by_cases hb:b=a
 ·subst hb; rw [zb] at e; cases e; exact new
 ·rw [zV hb] at e;exact (x b u e).stay (λc v _ q=>k c v q) (λc q=>by rw [zV (zL q hn)]; exact q) λc xs q=>by rw [zV (zL q hn)]; exact q
end
noncomputable def Rd (H:Hp) (a:Addr) (u:HO):Prop:=H a=some u\/∃ o,H a=some (.frz o u)
theorem Rd.ok {P:Program} {w:World} {H:Hp} {h:Heap} {a:Addr} {u:HO} (r:Rd H a u) (x:HOk P w H h):zg P w H h a u:=by
 rcases r with r|⟨o,r⟩
 ·exact x a u r
 ·obtain ⟨_,q⟩:=x a _ r;exact q
noncomputable def Mut:Option HO->Prop
 |some (.lst _)=>True
 |some (.dK _)=>True
 |some (.dT _)=>True
 |some (.set _ _)=>True
 |some (.ins _ _ _)=>True
 |some (.ext _)=>True
 |_=>False
section
variable {P:Program} {w:World} {H:Hp} {h h':Heap} {x e:Addr} {o':HO}
theorem HOk.write (ok:HOk P w H h) (mu:Mut (H x)) (he:e=x\/H e=some (.own x)) (k:∀ b u,b≠e->h.get? b=some u->h'.get? b=some u) (heo:∃ u,h'.get? e=some u)
  (new:zg P w (upd H x o') h' x o'):HOk P w (upd H x o') h':=λb u q=>by
 have nown:∀ c y,H c=some (.own y)->c≠x:=λc y r z=>by subst z; rw [r] at mu; exact mu
 have ntup:∀ c xs,H c=some (.tup xs)->c≠x:=λc xs r z=>by subst z; rw [r] at mu; exact mu
 by_cases hb:b=x
 ·subst hb; rw [zb] at q; cases q; exact new
 ·rw [zV hb] at q;by_cases hbe:b=e
  ·have q':H b=some (.own x):=by
    rcases he with z|z
    ·exact absurd (hbe.trans z) hb
    ·rw [hbe]; exact z
   rw [q] at q'; cases q'
   obtain ⟨v,hv⟩:=heo;exact ⟨v,by rw [hbe]; exact hv⟩
  ·refine (ok b u q).stay (λc v hc r=>k c v ?_ r) (λc r=>by rw [zV (nown c b r)]; exact r) λc xs r=>by rw [zV (ntup c xs r)]; exact r
   rcases hc with rfl|hc
   ·exact hbe
   ·rintro rfl;rcases he with z|z
    ·exact nown c b hc z
    ·rw [hc] at z; cases z; exact hb rfl
end
structure Un (fs ex:List Addr) (H H':Hp) (h h':Heap):Prop where
 keep:∀ b o,h.get? b=some o->H b=none->b∉fs->b∉ex->h'.get? b=some o
 slot:∀ b o,h.get? b=some o->H b=none->b∈fs->b∉ex->∃ sl,h'.get? b=some {o with slots:=sl}
 free:∀ b o,h.get? b=some o->H b=none->b∉ex->H' b=none
 there:∀ b o,h.get? b=some o->b∉ex->∃ o',h'.get? b=some o'
 tups:∀ b xs,H b=some (.tup xs)->H' b=some (.tup xs)
 frzs:∀ b o u,H b=some (.frz o u)->H' b=some (.frz o u)
 tbls:∀ b ps,H b=some (.tbl ps)->∃ more,H' b=some (.tbl (ps++more))
section
variable {fs fs' ex ex':List Addr} {H H1 H2:Hp} {h h1 h2 h':Heap} {a x e:Addr} {o:HO}
theorem Un.any (u:Un fs ex H H1 h h1) {b:Addr} {ob:Obj} (q:h.get? b=some ob) (n:H b=none) (hx:b∉ex):∃ sl,h1.get? b=some {ob with slots:=sl}:=by
 by_cases hb:b∈fs
 ·exact u.slot b ob q n hb hx
 ·exact ⟨ob.slots,u.keep b ob q n hb hx⟩
theorem Un.kept (k:∀ b u,h.get? b=some u->h'.get? b=some u):Un fs ex H H h h':=
 ⟨λb ob q _ _ _=>k b ob q,λb ob q _ _ _=>⟨ob.slots,k b ob q⟩,λ_ _ _ n _=>n,λb ob q _=>⟨ob,k b ob q⟩,λ_ _ q=>q,λ_ _ _ q=>q,λ_ ps q=>⟨#[],by rw [q]; simp⟩⟩
theorem Un.refl:Un fs ex H H h h:=Un.kept λ_ _ q=>q
theorem Un.laid (k:∀ b u,h.get? b=some u->h'.get? b=some u) (hp:h.objs.size<=a) (hn:H a=none):Un fs ex H (upd H a o) h h' where
 keep:=λb u q _ _ _=>k b u q
 slot:=λb u q _ _ _=>⟨u.slots,k b u q⟩
 free:=λb u q n _=>by rw [zV (Nat.ne_of_lt (Nat.lt_of_lt_of_le (Heap.lt_size q) hp))]; exact n
 there:=λb u q _=>⟨u,k b u q⟩
 tups:=λb xs q=>by rw [zV (zL q hn)]; exact q
 frzs:=λb u xs q=>by rw [zV (zL q hn)]; exact q
 tbls:=λb ps q=>⟨#[],by rw [zV (zL q hn),q]; simp⟩
theorem Un.write (mu:Mut (H x)) (he:e=x\/H e=some (.own x)) (k:∀ b u,b≠e->h.get? b=some u->h'.get? b=some u) (heo:∃ u,h'.get? e=some u):Un fs ex H (upd H x o) h h':=by
 have hx:∀ b,H b=none->b≠x:=λb n z=>by subst z; rw [n] at mu; exact mu
 have hb:∀ b,H b=none->b≠e:=λb n z=>by
  subst z;rcases he with r|r
  ·exact hx b n r
  ·rw [n] at r; cases r
 have hm:∀ b u,H b=some u->¬ Mut (some u)->b≠x:=λb u q nm z=>by subst z; rw [q] at mu; exact nm mu
 refine ⟨λb u q n _ _=>k b u (hb b n) q,λb u q n _ _=>⟨u.slots,k b u (hb b n) q⟩,λb u q n _=>by rw [zV (hx b n)]; exact n,λb u q _=>?_,
  λb xs q=>by rw [zV (hm b _ q λz=>z)]; exact q,λb u xs q=>by rw [zV (hm b _ q λz=>z)]; exact q,λb ps q=>⟨#[],by rw [zV (hm b _ q λz=>z),q]; simp⟩⟩
 by_cases hbe:b=e
 ·subst hbe; exact heo
 ·exact ⟨u,k b u hbe q⟩
end
noncomputable def trk (h:Heap) (H:Hp):List Addr:=(List.range h.objs.size).filter λa=>(H a).isSome
noncomputable def hidT (h:Heap) (H:Hp):Heap:=hideAll h (trk h H)
theorem hidT_size (h:Heap) (H:Hp):(hidT h H).objs.size=h.objs.size:=PySem.W.hideAll_size _ _
theorem hidT_get {h:Heap} {H:Hp} {b:Addr} {o:Obj} (e:h.get? b=some o) (n:H b=none):(hidT h H).get? b=some o:=
 hideAll_get _ e λhm=>by
  have q:(H b).isSome=true:=(List.mem_filter.mp hm).2;rw [n] at q; simp at q
theorem of_hidT {h:Heap} {H:Hp} {b:Addr} {o:Obj} (e:(hidT h H).get? b=some o):h.get? b=some o/\H b=none:=by
 have e':h.get? b=some o:=of_hideAll (trk h H) e;refine ⟨e',?_⟩;cases q:H b with
 |none=>rfl
 |some x=>
  have hm:b∈trk h H:=List.mem_filter.mpr ⟨List.mem_range.mpr (Heap.lt_size e'),by simp [q]⟩
  have z:(hidT h H).get? b=none:=hideAll_none (trk h H) hm;rw [z] at e; cases e
end L2
namespace L2
open PySem PySem.Spec PyProof.Rows
structure Mod (K:PySem.W.Frag) (mg:Str->Option Value) (base:Heap):Prop where
 kin:K.In base
 glob:base.Ns mainGlobals mg
 blt:∃ mb,base.Ns builtinsNs mb/\∀ x:Str,x≠"__name__"->mb x=bootBuiltins x
 nolimit:base.NoLimit
structure Cx where
 prog:Program
 w:World
 K:PySem.W.Frag
 mg:Str->Option Value
 base:Heap
 A:Around
 N:List Str
 s₀:Shared
 H₀:Hp
 env:Env
 outer:List Env
 stack:List Env
 ex:List Addr
 fn:Str->Bool
 calm:Bool
 pn:List (Addr × Obj)
 xe:Value->Shared->Prop
noncomputable def frs (l:List Env):List Addr:=l.filterMap (·.frame)
noncomputable abbrev Cx.fs (X:Cx):List Addr:=frs X.outer
noncomputable def Vis (sc:Scope) (x:Str):Prop:=sc.names.lookup x=some .local\/sc.names.lookup x=some .cell\/sc.names.lookup x=some .free
noncomputable def Loc (sc:Scope) (x:Str):Prop:=sc.names.lookup x=some .local\/sc.names.lookup x=some .cell
noncomputable def Look (env:Env) (h:Heap) (m:Str->Option Value) (x:Str) (u:Value):Prop:=
 (env.kindOf x=some .local/\m x=some u)\/((env.kindOf x=some .cell\/env.kindOf x=some .free)/\∃ c,env.cells.lookup x=some c/\h.IsCell c (some u))
structure Cx.Ok (X:Cx):Prop where
 mod:Mod X.K X.mg X.base
 kind:X.env.scope.kind=.function
 glob:X.env.globals=mainGlobals
 blt:X.env.builtins=builtinsNs
 above:X.s₀.heap.objs.size<=X.env.locals
 inj:∀ x y c,X.env.cells.lookup x=some c->X.env.cells.lookup y=some c->x=y
 has:∀ x,(X.env.kindOf x=some .cell\/X.env.kindOf x=some .free)->∃ c,X.env.cells.lookup x=some c
 cab:∀ x c,X.fn x=true->X.env.cells.lookup x=some c->X.s₀.heap.objs.size<=c
 hd:X.calm=true->X.A.handled=none
 frames:X.A.frames=some X.stack
 stk:X.stack=X.outer\/(X.stack=X.env::X.outer/\X.env.frame=some X.env.locals)
 exf:∀ b∈X.ex,b≠X.env.locals/\∀ x c,X.env.cells.lookup x=some c->c≠b
 bs:∀ b o,X.base.get? b=some o->X.s₀.heap.get? b=some o/\X.H₀ b=none
 bsz:X.base.objs.size<=X.s₀.heap.objs.size
 noex:∀ b o,X.base.get? b=some o->b∉X.ex
 exfs:∀ b∈X.ex,b∉X.fs
 funs:X.s₀.heap.FunFrames X.base X.outer
 frf:∀ b∈X.fs,X.H₀ b=none
structure Inv (X:Cx) (pins:List (Addr × Obj)) (σ:List (Option V)) (H:Hp) (s:Shared):Prop where
 ok:X.Ok
 os:s.os=X.s₀.os
 bare:AllBare s.gens
 base:Un X.fs X.ex X.H₀ H X.s₀.heap s.heap
 loc:∃ m,s.heap.Ns X.env.locals m/\∀ (i:Nat) (x:Str) (v:V),X.N[i]?=some x->σ[i]?=some (some v)->Vis X.env.scope x->∃ u,RelV v u/\Look X.env s.heap m x u
 cell:∀ x c,X.env.cells.lookup x=some c->∃ v,s.heap.IsCell c v
 free:H X.env.locals=none
 freeC:∀ x c,X.env.cells.lookup x=some c->H c=none
 pin:∀ p∈X.pn++pins,s.heap.get? p.1=some p.2/\H p.1=none/\p.1≠X.env.locals/\p.1∉X.fs/\∀ v,p.2.data≠.cell v
 hok:HOk X.prog X.w H s.heap
 len:σ.length=X.N.length
section
variable {X:Cx} {pins:List (Addr × Obj)} {σ:List (Option V)} {H H':Hp} {s:Shared} {h':Heap}
theorem Cx.Ok.nofr (ok:X.Ok) {b:Addr} {o:Obj} (e:X.base.get? b=some o):b∉X.fs:=λhb=>by
 have:=(ok.funs.mem hb).1;rw [e] at this; cases this
theorem Inv.bs (I:Inv X pins σ H s):∀ b o,X.base.get? b=some o->s.heap.get? b=some o/\H b=none:=λb o e=>
 ⟨I.base.keep b o (I.ok.bs b o e).1 (I.ok.bs b o e).2 (I.ok.nofr e) (I.ok.noex b o e),I.base.free b o (I.ok.bs b o e).1 (I.ok.bs b o e).2 (I.ok.noex b o e)⟩
theorem Inv.bk (I:Inv X pins σ H s):∀ b o,X.base.get? b=some o->s.heap.get? b=some o:=λb o e=>(I.bs b o e).1
theorem Inv.mod (I:Inv X pins σ H s):Mod X.K X.mg X.base:=I.ok.mod
theorem Inv.kIn (I:Inv X pins σ H s):X.K.In s.heap:=I.ok.mod.kin.keeps I.bk
theorem Inv.lt (I:Inv X pins σ H s):X.env.locals < s.heap.objs.size:=let ⟨_,hn,_⟩:=I.loc; hn.lt
theorem Inv.sz (I:Inv X pins σ H s):X.s₀.heap.objs.size<=s.heap.objs.size:=Nat.le_trans I.ok.above (Nat.le_of_lt I.lt)
theorem Inv.nofs (I:Inv X pins σ H s) {a:Addr} (h:s.heap.objs.size<=a):a∉X.fs:=λhb=>by
 obtain ⟨_,o,ho,_⟩:=I.ok.funs.mem hb;exact absurd (Nat.lt_of_lt_of_le (Heap.lt_size ho) (Nat.le_trans I.sz h)) (Nat.lt_irrefl _)
theorem Inv.cne (I:Inv X pins σ H s):∀ x c,X.env.cells.lookup x=some c->c≠X.env.locals:=λx c e z=>by
 obtain ⟨v,o,ho,hd⟩:=I.cell x c e;obtain ⟨m,⟨o',es,ep,ho',hd',_⟩,_⟩:=I.loc;rw [z,ho'] at ho; cases ho; rw [hd'] at hd; cases hd
theorem Inv.funs (I:Inv X pins σ H s):s.heap.FunFrames X.base X.outer:=by
 have all:∀ (l:List Env),(∀ b∈frs l,b∈X.fs)->X.s₀.heap.FunFrames X.base l->s.heap.FunFrames X.base l:=by
  intro l;induction l with
  |nil=>intro _ _; trivial
  |cons env r ih=>
   intro hs hl;obtain ⟨hk,⟨L,o,hf,hn,ho,hd⟩,hr⟩:=hl;have hL:L∈X.fs:=hs L (by unfold frs; rw [List.filterMap_cons,hf]; exact List.mem_cons_self)
   obtain ⟨sl,e⟩:=I.base.slot L o ho (I.ok.frf L hL) hL λz=>I.ok.exfs L z hL
   exact ⟨hk,⟨L,_,hf,hn,e,hd⟩,ih (λb hb=>hs b (by unfold frs; rw [List.filterMap_cons,hf]; exact List.mem_cons_of_mem _ hb)) hr⟩
 exact all X.outer (λ_ hb=>hb) I.ok.funs
theorem Inv.stack (I:Inv X pins σ H s):s.heap.FunFrames X.base X.stack:=by
 rcases I.ok.stk with e|⟨e,hf⟩
 ·rw [e]; exact I.funs
 ·rw [e];obtain ⟨m,hn,_⟩:=I.loc;refine .cons (by rw [I.ok.kind]; decide) hf hn ?_ I.funs
  exact Heap.get?_none_of_le (Nat.le_trans I.ok.bsz I.ok.above)
theorem Inv.stkSub (I:Inv X pins σ H s):∀ b∈frs X.stack,b∈X.env.locals::X.fs:=λb hb=>by
 rcases I.ok.stk with e|⟨e,hf⟩
 ·rw [e] at hb; exact List.mem_cons_of_mem _ hb
 ·rw [e] at hb;unfold frs at hb;rw [List.filterMap_cons,hf] at hb;exact hb
theorem Inv.stkFree (I:Inv X pins σ H s):∀ b∈frs X.stack,H b=none:=λb hb=>by
 rcases List.mem_cons.mp (I.stkSub b hb) with e|hb
 ·rw [e]; exact I.free
 ·obtain ⟨_,o,ho,_⟩:=I.ok.funs.mem hb;exact I.base.free b o ho (I.ok.frf b hb) λz=>I.ok.exfs b z hb
theorem Inv.step {g':Array GenState} {t':Nat} {d':Drawn} {ch:List Addr} (I:Inv X pins σ H s)
  (hch:∀ b∈ch,(b∈X.ex\/X.s₀.heap.objs.size<=b)/\b≠X.env.locals/\(∀ x c,X.env.cells.lookup x=some c->c≠b)/\∀ p∈X.pn++pins,p.1≠b)
  (keep:∀ b o,b≠X.env.locals->b∉X.fs->b∉ch->s.heap.get? b=some o->H b=none->h'.get? b=some o)
  (slot:∀ b o,b≠X.env.locals->b∈X.fs->b∉ch->s.heap.get? b=some o->H b=none->∃ sl,h'.get? b=some {o with slots:=sl}) (free:∀ b o,b∉ch->s.heap.get? b=some o->H b=none->H' b=none)
  (there:∀ b o,b∉ch->s.heap.get? b=some o->∃ o',h'.get? b=some o')
  (tups:∀ b xs,H b=some (.tup xs)->H' b=some (.tup xs)) (frzs:∀ b o u,H b=some (.frz o u)->H' b=some (.frz o u)) (tbls:∀ b ps,H b=some (.tbl ps)->∃ more,H' b=some (.tbl (ps++more)))
  (ns:∀ m,s.heap.Ns X.env.locals m->h'.Ns X.env.locals m) (hok:HOk X.prog X.w H' h') (hg:AllBare g') :
  Inv X pins σ H' {s with heap:=h',gens:=g',drawn:=d',toks:=t'}:=by
 have neL:∀ b o,X.s₀.heap.get? b=some o->b≠X.env.locals:=λb o e=>Nat.ne_of_lt (Nat.lt_of_lt_of_le (Heap.lt_size e) I.ok.above)
 have neC:∀ b o,X.s₀.heap.get? b=some o->b∉X.ex->b∉ch:=λb o e hx hb=>by
  rcases (hch b hb).1 with z|z
  ·exact hx z
  ·exact absurd (Nat.lt_of_lt_of_le (Heap.lt_size e) z) (Nat.lt_irrefl _)
 have cellK:∀ x c,X.env.cells.lookup x=some c->∀ v,s.heap.IsCell c v->h'.IsCell c v:=λx c e v ⟨o,ho,hd⟩=>by
  have nch:c∉ch:=λz=>(hch c z).2.2.1 x c e rfl
  by_cases hc:c∈X.fs
  ·obtain ⟨sl,q⟩:=slot c o (I.cne x c e) hc nch ho (I.freeC x c e);exact ⟨_,q,hd⟩
  ·exact ⟨o,keep c o (I.cne x c e) hc nch ho (I.freeC x c e),hd⟩
 refine ⟨I.ok,I.os,hg,⟨λb o e n hb hx=>?_,λb o e n hb hx=>?_,λb o e n hx=>?_,λb o e hx=>?_,λb xs e=>tups b xs (I.base.tups b xs e),λb o xs e=>frzs b o xs (I.base.frzs b o xs e),λb ps e=>?_⟩,?_,λx c e=>?_,?_,λx c e=>?_,λp hp=>?_,hok,I.len⟩
 ·exact keep b o (neL b o e) hb (neC b o e hx) (I.base.keep b o e n hb hx) (I.base.free b o e n hx)
 ·obtain ⟨sl,e1⟩:=I.base.slot b o e n hb hx;obtain ⟨sl',e2⟩:=slot b _ (neL b o e) hb (neC b o e hx) e1 (I.base.free b o e n hx);exact ⟨sl',e2⟩
 ·obtain ⟨o',e1⟩:=I.base.there b o e hx;exact free b o' (neC b o e hx) e1 (I.base.free b o e n hx)
 ·obtain ⟨o',e1⟩:=I.base.there b o e hx;exact there b o' (neC b o e hx) e1
 ·obtain ⟨m1,e1⟩:=I.base.tbls b ps e;obtain ⟨m2,e2⟩:=tbls b _ e1;exact ⟨m1++m2,by rw [e2,Array.append_assoc]⟩
 ·obtain ⟨m,hn,hl⟩:=I.loc;refine ⟨m,ns m hn,λi x v e1 e2 e3=>?_⟩
  obtain ⟨u,r,l⟩:=hl i x v e1 e2 e3;refine ⟨u,r,?_⟩;rcases l with l|⟨k,c,e,z⟩
  ·exact .inl l
  ·exact .inr ⟨k,c,e,cellK x c e _ z⟩
 ·obtain ⟨v,z⟩:=I.cell x c e;exact ⟨v,cellK x c e v z⟩
 ·obtain ⟨m,⟨o,_,_,ho,_⟩,_⟩:=I.loc;exact free _ o (λz=>(hch _ z).2.1 rfl) ho I.free
 ·obtain ⟨v,o,ho,hd⟩:=I.cell x c e;exact free c o (λz=>(hch c z).2.2.1 x c e rfl) ho (I.freeC x c e)
 ·obtain ⟨e,n,ne,nf,d⟩:=I.pin p hp;have nch:p.1∉ch:=λz=>(hch p.1 z).2.2.2 p hp rfl
  exact ⟨keep p.1 p.2 ne nf nch e n,free p.1 p.2 nch e n,ne,nf,d⟩
theorem Inv.un {t':Nat} (I:Inv X pins σ H s) (u:Un X.fs [] H H' s.heap h') (hok:HOk X.prog X.w H' h'):Inv X pins σ H' {s with heap:=h',toks:=t'}:=by
 obtain ⟨m,⟨o,es,ep,ho,r⟩,_⟩:=id I.loc;obtain ⟨sl,hL⟩:=u.any ho I.free (by simp)
 exact I.step (g':=s.gens) (d':=s.drawn) (ch:=[]) (λ_ z=>nomatch z) (λb o _ hb _ e n=>u.keep b o e n hb (by simp)) (λb o _ hb _ e n=>u.slot b o e n hb (by simp)) (λb o _ e n=>u.free b o e n (by simp)) (λb o _ e=>u.there b o e (by simp)) u.tups u.frzs u.tbls (λm' hm=>by
  obtain ⟨o',es',ep',ho',r'⟩:=hm;rw [ho] at ho'; cases ho'
  exact ⟨_,es',ep',hL,r'⟩) hok I.bare
theorem Inv.call {g':Array GenState} {t':Nat} {d':Drawn} {ch:List Addr} (I:Inv X pins σ H s) (u:Un (frs X.stack) ch H H' s.heap h') (hok:HOk X.prog X.w H' h') (hg:AllBare g')
  (hch:∀ b∈ch,(b∈X.ex\/X.s₀.heap.objs.size<=b)/\b≠X.env.locals/\(∀ x c,X.env.cells.lookup x=some c->c≠b)/\∀ p∈X.pn++pins,p.1≠b) :
  Inv X pins σ H' {s with heap:=h',gens:=g',drawn:=d',toks:=t'}:=by
 obtain ⟨m,⟨o,es,ep,ho,r⟩,_⟩:=id I.loc;obtain ⟨sl,hL⟩:=u.any ho I.free λz=>(hch _ z).2.1 rfl
 exact I.step (ch:=ch) hch (λb o hL hb hc e n=>u.keep b o e n (λz=>(List.mem_cons.mp (I.stkSub b z)).elim hL hb) hc) (λb o _ _ hc e n=>u.any e n hc) (λb o hc e n=>u.free b o e n hc) (λb o hc e=>u.there b o e hc) u.tups u.frzs u.tbls (λm' hm=>by
  obtain ⟨o',es',ep',ho',r'⟩:=hm;rw [ho] at ho'; cases ho'
  exact ⟨_,es',ep',hL,r'⟩) hok hg
theorem Inv.turned {t':Nat} {it:Addr} (I:Inv X pins σ H s) (k:∀ b o,b≠it->s.heap.get? b=some o->h'.get? b=some o) (hn:H it=none) (hL:it≠X.env.locals)
  (h1:it∈X.ex\/X.s₀.heap.objs.size<=it) (h2:∀ x c,X.env.cells.lookup x=some c->c≠it) (h3:∀ p∈X.pn++pins,p.1≠it):Inv X pins σ H {s with heap:=h',toks:=t'}:=by
 have nit:∀ b u,H b=some u->b≠it:=λb u e z=>by rw [z,hn] at e; cases e
 refine I.step (g':=s.gens) (d':=s.drawn) (ch:=[it]) (λb hb=>?_) (λb o _ _ hc e _=>k b o (λz=>hc (by simp [z])) e) (λb o _ _ hc e _=>⟨o.slots,k b o (λz=>hc (by simp [z])) e⟩) (λ_ _ _ _ n=>n)
  (λb o hc e=>⟨o,k b o (λz=>hc (by simp [z])) e⟩) (λ_ _ e=>e) (λ_ _ _ e=>e) (λb ps e=>⟨#[],by rw [e]; simp⟩) (λm hm=>?_) (λb u e=>?_) I.bare
 ·have e:b=it:=by simpa using hb
  subst e;exact ⟨h1,hL,h2,h3⟩
 ·obtain ⟨o,es,ep,ho,r⟩:=hm;exact ⟨o,es,ep,k _ o (Ne.symm hL) ho,r⟩
 ·refine (I.hok b u e).stay (λc v hc q=>k c v ?_ q) (λ_ q=>q) λ_ _ q=>q
  rcases hc with z|z
  ·rw [z]; exact nit b u e
  ·exact nit c _ z
theorem Inv.tok (I:Inv X pins σ H s) (t:Nat):Inv X pins σ H {s with toks:=t}:=I.un (h':=s.heap) (t':=t) Un.refl I.hok
theorem Inv.kept {t':Nat} (I:Inv X pins σ H s) (k:∀ b u,s.heap.get? b=some u->h'.get? b=some u):Inv X pins σ H {s with heap:=h',toks:=t'}:=I.un (Un.kept k) (I.hok.kept k)
theorem Inv.laid {a:Addr} {o:HO} {t':Nat} (I:Inv X pins σ H s) (k:∀ b u,s.heap.get? b=some u->h'.get? b=some u) (hp:s.heap.objs.size<=a) (new:zg X.prog X.w (upd H a o) h' a o) :
  Inv X pins σ (upd H a o) {s with heap:=h',toks:=t'}:=I.un (Un.laid k hp (I.hok.fresh hp)) (I.hok.laid k hp new)
theorem Inv.write {x e:Addr} {o:HO} {t':Nat} (I:Inv X pins σ H s) (mu:Mut (H x)) (he:e=x\/H e=some (.own x)) (k:∀ b u,b≠e->s.heap.get? b=some u->h'.get? b=some u) (heo:∃ u,h'.get? e=some u)
  (new:zg X.prog X.w (upd H x o) h' x o):Inv X pins σ (upd H x o) {s with heap:=h',toks:=t'}:=I.un (Un.write mu he k heo) (I.hok.write mu he k heo new)
theorem Inv.weak {σ':List (Option V)} (I:Inv X pins σ H s) (hl:σ'.length=σ.length) (w:∀ (i:Nat) v,σ'[i]?=some (some v)->σ[i]?=some (some v)):Inv X pins σ' H s:=
 ⟨I.ok,I.os,I.bare,I.base,let ⟨m,hn,hl'⟩:=I.loc; ⟨m,hn,λi x v e1 e2 e3=>hl' i x v e1 (w i v e2) e3⟩,I.cell,I.free,I.freeC,I.pin,I.hok,hl.trans I.len⟩
theorem Inv.pins_of {pins':List (Addr × Obj)} (I:Inv X pins σ H s) (h:∀ p∈pins',s.heap.get? p.1=some p.2/\H p.1=none/\p.1≠X.env.locals/\p.1∉X.fs/\∀ v,p.2.data≠.cell v):Inv X pins' σ H s:=
 ⟨I.ok,I.os,I.bare,I.base,I.loc,I.cell,I.free,I.freeC,λp hp=>(List.mem_append.mp hp).elim (λz=>I.pin p (List.mem_append_left _ z)) (h p),I.hok,I.len⟩
theorem Jp {N:List Str} (hN:N.Nodup) {i j:Nat} {x:Str} (a:N[i]?=some x) (b:N[j]?=some x):i=j:=by
 obtain ⟨h1,e1⟩:=List.getElem?_eq_some_iff.mp a;obtain ⟨h2,e2⟩:=List.getElem?_eq_some_iff.mp b;exact (List.getElem_inj hN).mp (e1.trans e2.symm)
theorem store_ok2 {M:Model} {A:Around} {E:Value->Shared->Prop} {i:Nat} {x:Str} {v:V} {u:Value} {Q:Unit->Shared->Prop} (I:Inv X pins σ H s) (hN:X.N.Nodup) (hi:X.N[i]?=some x) (hx:Loc X.env.scope x) (r:RelV v u)
  (h:∀ s',Inv X pins (σ.set i (some v)) H s'->(∃ a,Heap.SameBut a s.heap s'.heap/\(a=X.env.locals\/X.env.cells.lookup x=some a))->Q () s') (hf:X.fn x=true\/X.env.scope.names.lookup x=some .local:=by first|exact .inl rfl|exact .inr rfl|assumption):wpAny M A (storeName X.env x u) Q E s:=by
 obtain ⟨m,hn,hl⟩:=id I.loc;have hcls:(X.env.scope.kind == .class || (X.env.scope.kind == .module && X.env.locals != X.env.globals))=false:=by rw [I.ok.kind]; rfl
 have hiσ:i < σ.length:=by rw [I.len]; exact (List.getElem?_eq_some_iff.mp hi).1
 have cne:=I.cne;have tracked:∀ {a:Addr} {h':Heap},(∃ o,s.heap.get? a=some o/\H a=none)->Heap.SameBut a s.heap h'->HOk X.prog X.w H h':=λ{a h'} ha hs b ob e=>by
  obtain ⟨_,_,hfree⟩:=ha;refine (I.hok b ob e).stay (λc w' hc q=>(hs.2 c ?_).trans q) (λ_ q=>q) λ_ _ q=>q
  rintro rfl;rcases hc with rfl|hc
  ·rw [hfree] at e; cases e
  ·rw [hfree] at hc; cases hc
 rcases hx with hk|hk
 ·refine wpAny_storeName_local hk hn (λh' hn' hs=>?_) hcls
  obtain ⟨oL,_,_,hoL,_⟩:=id hn;refine h _ ⟨I.ok,I.os,I.bare,⟨λb o e n hb hx=>?_,λb o e n hb hx=>?_,I.base.free,λb o e hx=>?_,I.base.tups,I.base.frzs,I.base.tbls⟩,⟨_,hn',λj y v' e1 e2 e3=>?_⟩,λy c e=>?_,I.free,I.freeC,λp hp=>?_,tracked ⟨oL,hoL,I.free⟩ hs,by simpa using I.len⟩ ⟨_,hs,.inl rfl⟩
  ·exact (hs.2 b (Nat.ne_of_lt (Nat.lt_of_lt_of_le (Heap.lt_size e) I.ok.above))).trans (I.base.keep b o e n hb hx)
  ·obtain ⟨sl,e1⟩:=I.base.slot b o e n hb hx;exact ⟨sl,(hs.2 b (Nat.ne_of_lt (Nat.lt_of_lt_of_le (Heap.lt_size e) I.ok.above))).trans e1⟩
  ·obtain ⟨o',e1⟩:=I.base.there b o e hx;exact ⟨o',(hs.2 b (Nat.ne_of_lt (Nat.lt_of_lt_of_le (Heap.lt_size e) I.ok.above))).trans e1⟩
  ·by_cases hj:j=i
   ·subst hj;rw [hi] at e1; cases e1
    rw [List.getElem?_set_self hiσ] at e2;cases e2
    exact ⟨u,r,.inl ⟨hk,by simp⟩⟩
   ·rw [List.getElem?_set_ne (Ne.symm hj)] at e2;obtain ⟨u',r',q⟩:=hl j y v' e1 e2 e3;refine ⟨u',r',?_⟩;rcases q with ⟨k,e⟩|⟨k,c,e,z⟩
    ·refine .inl ⟨k,?_⟩;have:y≠x:=λe=>hj (Jp hN e1 (e▸hi))
     simp [this,e]
    ·exact .inr ⟨k,c,e,z.sameBut hs (cne y c e)⟩
  ·obtain ⟨w',z⟩:=I.cell y c e;exact ⟨w',z.sameBut hs (cne y c e)⟩
  ·obtain ⟨e,n,ne,nf,d⟩:=I.pin p hp;exact ⟨(hs.2 p.1 ne).trans e,n,ne,nf,d⟩
 ·have hfn:X.fn x=true:=by
   rcases hf with z|z
   ·exact z
   ·rw [z] at hk; cases hk
  obtain ⟨c,hc⟩:=I.ok.has x (.inl hk);obtain ⟨w',z⟩:=I.cell x c hc;refine wpAny_storeName_cell I.ok.kind hk hc z (λh' hc' hs=>?_)
  obtain ⟨oc,hoc,hocd⟩:=id z;refine h {s with heap:=h'} ⟨I.ok,I.os,I.bare,⟨λb o e n hb hx=>?_,λb o e n hb hx=>?_,I.base.free,λb o e hx=>?_,I.base.tups,I.base.frzs,I.base.tbls⟩,⟨m,hn.sameBut hs (Ne.symm (cne x c hc)),λj y v' e1 e2 e3=>?_⟩,λy c' e=>?_,I.free,I.freeC,λp hp=>?_,tracked ⟨oc,hoc,I.freeC x c hc⟩ hs,by simpa using I.len⟩ ⟨c,hs,.inr hc⟩
  ·exact (hs.2 b (Nat.ne_of_lt (Nat.lt_of_lt_of_le (Heap.lt_size e) (I.ok.cab x c hfn hc)))).trans (I.base.keep b o e n hb hx)
  ·obtain ⟨sl,e1⟩:=I.base.slot b o e n hb hx;exact ⟨sl,(hs.2 b (Nat.ne_of_lt (Nat.lt_of_lt_of_le (Heap.lt_size e) (I.ok.cab x c hfn hc)))).trans e1⟩
  ·obtain ⟨o',e1⟩:=I.base.there b o e hx;exact ⟨o',(hs.2 b (Nat.ne_of_lt (Nat.lt_of_lt_of_le (Heap.lt_size e) (I.ok.cab x c hfn hc)))).trans e1⟩
  ·by_cases hj:j=i
   ·subst hj;rw [hi] at e1; cases e1
    rw [List.getElem?_set_self hiσ] at e2;cases e2
    exact ⟨u,r,.inr ⟨.inl hk,c,hc,hc'⟩⟩
   ·rw [List.getElem?_set_ne (Ne.symm hj)] at e2;obtain ⟨u',r',q⟩:=hl j y v' e1 e2 e3;refine ⟨u',r',?_⟩;rcases q with q|⟨k,c',e,z'⟩
    ·exact .inl q
    ·refine .inr ⟨k,c',e,z'.sameBut hs ?_⟩;rintro rfl;exact hj (Jp hN e1 (I.ok.inj _ _ _ e hc▸hi))
  ·by_cases hcc:c'=c
   ·subst hcc; exact ⟨_,hc'⟩
   ·obtain ⟨w2,z2⟩:=I.cell y c' e;exact ⟨w2,z2.sameBut hs hcc⟩
  ·obtain ⟨e,n,ne,nf,d⟩:=I.pin p hp;refine ⟨(hs.2 p.1 ?_).trans e,n,ne,nf,d⟩;intro q;rw [q,hoc] at e;have q':oc=p.2:=Option.some.inj e;exact d w' (by rw [<- q']; exact hocd)
theorem Zf {M:Model} {A:Around} {E:Value->Shared->Prop} {i:Nat} {x:Str} {v:V} {u:Value} {Q:Unit->Shared->Prop} (I:Inv X pins σ H s) (hN:X.N.Nodup) (hi:X.N[i]?=some x) (hx:Loc X.env.scope x) (r:RelV v u)
  (h:∀ s',Inv X pins (σ.set i (some v)) H s'->Q () s') (hf:X.fn x=true\/X.env.scope.names.lookup x=some .local:=by first|exact .inl rfl|exact .inr rfl|assumption):wpAny M A (storeName X.env x u) Q E s:=
 store_ok2 I hN hi hx r (λs' I' _=>h s' I') hf
theorem Inv.call' {s':Shared} {ch:List Addr} (I:Inv X pins σ H s) (ho:s'.os=s.os) (u:Un (frs X.stack) ch H H' s.heap s'.heap) (hok:HOk X.prog X.w H' s'.heap) (hg:AllBare s'.gens)
  (hch:∀ b∈ch,(b∈X.ex\/X.s₀.heap.objs.size<=b)/\b≠X.env.locals/\(∀ x c,X.env.cells.lookup x=some c->c≠b)/\∀ p∈X.pn++pins,p.1≠b):Inv X pins σ H' s':=by
 obtain ⟨h',g',d',t',o'⟩:=s';have e:o'=s.os:=ho;subst e;exact I.call (g':=g') (t':=t') (d':=d') u hok hg hch
end
noncomputable abbrev XK:=Value->Option Addr->Hp->Prop
noncomputable abbrev St:=List (Option V)
noncomputable abbrev VK:=V->Hp->Prop
noncomputable abbrev TE:=St->Hp->VK->Prop
noncomputable abbrev TT:=St->Hp->(Bool->Hp->Prop)->Prop
noncomputable abbrev TA:=St->Hp->(List V->Hp->Prop)->Prop
structure Ends where
 nx:St->Hp->Prop
 rt:VK
 bk:St->Hp->Prop:=λ_ _=>False
 ct:St->Hp->Prop:=λ_ _=>False
noncomputable abbrev TS:=Ends->St->Hp->Prop
noncomputable def EP (X:Cx) (pins:List (Addr × Obj)) (σ:St) (Q:VK) (u:Value) (s':Shared):Prop:=∃ v H',Inv X pins σ H' s'/\RelV v u/\Q v H'
noncomputable def TP (X:Cx) (pins:List (Addr × Obj)) (σ:St) (Q:Bool->Hp->Prop) (b:Bool) (s':Shared):Prop:=∃ H',Inv X pins σ H' s'/\Q b H'
noncomputable def AP (X:Cx) (pins:List (Addr × Obj)) (σ:St) (Q:List V->Hp->Prop) (us:List Value) (s':Shared):Prop:=∃ vs H',Inv X pins σ H' s'/\Vals vs us/\Q vs H'
noncomputable def SP (X:Cx) (pins:List (Addr × Obj)) (D:Ends) (f:Flow) (s':Shared):Prop:=
 match f with
 |.next=>∃ σ' H',Inv X pins σ' H' s'/\D.nx σ' H'
 |.brk=>∃ σ' H',Inv X pins σ' H' s'/\D.bk σ' H'
 |.cont=>∃ σ' H',Inv X pins σ' H' s'/\D.ct σ' H'
 |.ret u=>∃ v σ' H',Inv X pins σ' H' s'/\RelV v u/\D.rt v H'
noncomputable def PE (X:Cx) (e:Expr) (t:TE):Prop:=
 ∀ (pins:List (Addr × Obj)) (s:Shared) (σ:St) (H:Hp) (Q:VK),Inv X pins σ H s->t σ H Q->wpAny (model X.prog X.w) X.A (eval e X.env) (EP X pins σ Q) X.xe s
noncomputable def PT (X:Cx) (e:Expr) (t:TT):Prop:=
 ∀ (pins:List (Addr × Obj)) (s:Shared) (σ:St) (H:Hp) (Q:Bool->Hp->Prop),Inv X pins σ H s->t σ H Q->wpAny (model X.prog X.w) X.A (isTrue e X.env (eval e X.env)) (TP X pins σ Q) X.xe s
noncomputable def PW (X:Cx) (e:Expr) (t:TT):Prop:=
 ∀ (whole:Sem Value) (pins:List (Addr × Obj)) (s:Shared) (σ:St) (H:Hp) (Q:Bool->Hp->Prop),Inv X pins σ H s->t σ H Q->wpAny (model X.prog X.w) X.A (isTrue e X.env whole) (TP X pins σ Q) X.xe s
theorem PW.pt {X:Cx} {e:Expr} {t:TT} (h:PW X e t):PT X e t:=h _
noncomputable def PA (X:Cx) (es:List Expr) (t:TA):Prop:=
 ∀ (pos:Pos) (pins:List (Addr × Obj)) (s:Shared) (σ:St) (H:Hp) (Q:List V->Hp->Prop),Inv X pins σ H s->t σ H Q->wpAny (model X.prog X.w) X.A (spliced (backTo pos (starEach es X.env))) (AP X pins σ Q) X.xe s
noncomputable def PS (X:Cx) (st:Stmt) (t:TS):Prop:=
 ∀ (pins:List (Addr × Obj)) (s:Shared) (σ:St) (H:Hp) (D:Ends),Inv X pins σ H s->t D σ H->wpAny (model X.prog X.w) X.A (exec st X.env) (SP X pins D) X.xe s
noncomputable def PSs (X:Cx) (st:List Stmt) (t:TS):Prop:=
 ∀ (pins:List (Addr × Obj)) (s:Shared) (σ:St) (H:Hp) (D:Ends),Inv X pins σ H s->t D σ H->wpAny (model X.prog X.w) X.A (execs st X.env) (SP X pins D) X.xe s
theorem thn {α:Type} {t:Sem α} {Q Q':α->Shared->Prop} {M:Model} {A:Around} {E:Value->Shared->Prop} {s:Shared} (h:wpAny M A t Q E s) (hQ:∀ a s,Q a s->Q' a s):wpAny M A t Q' E s:=wpAny_mono h hQ λ_ _ x=>x
end L2
namespace L2
open PySem PySem.Spec PyProof.Rows
section
variable {X:Cx}
noncomputable def tVar (i:Nat):TE:=λσ H Q=>∃ v,σ[i]?=some (some v)/\Q v H
noncomputable def tC (v:V):TE:=λ_ H Q=>Q v H
theorem pe_var {i:Nat} {x:Str} {pos:Pos} (hN:X.N[i]?=some x) (hv:Vis X.env.scope x) (hd:(x == ("__debug__" : Str))=false:=by decide) (hcd:(x == ("__classdict__" : Str))=false:=by decide):PE X (.Name x pos) (tVar i):=by
 intro pins s σ H Q I h;obtain ⟨v,e,h⟩:=h;obtain ⟨m,hn,hl⟩:=I.loc;obtain ⟨u,r,l⟩:=hl i x v hN e hv;have fin:EP X pins σ Q u s:=⟨v,H,I,r,h⟩;rcases l with ⟨hk,hm⟩|⟨hk,c,hc,hcell⟩
 ·exact wpAny_Name (wpAny_loadName_local I.ok.kind hk hn hm fin) hd
 ·rcases hk with hk|hk
  ·exact wpAny_Name (wpAny_loadName_cell I.ok.kind hk hc hcell fin) hd
  ·exact wpAny_Name (wpAny_loadName_free I.ok.kind hk hc hcell fin hcd) hd
theorem zC {i j pos}:PE X (.Constant (.int i) j pos) (tC (.int i)):=λ_ _ _ H _ I h=>wpAny_Constant_int ⟨.int i,H,I.tok _,⟨_,rfl⟩,h⟩
theorem yW {b j pos}:PE X (.Constant (.bool b) j pos) (tC (.bl b)):=λ_ _ _ H _ I h=>Constant_bool ⟨.bl b,H,I,rfl,h⟩
theorem yf {j pos}:PE X (.Constant .none j pos) (tC .non):=λ_ _ _ H _ I h=>Constant_none ⟨.non,H,I,rfl,h⟩
theorem zx {x j pos}:PE X (.Constant (.str x) j pos) (tC (.str x)):=λ_ _ _ H _ I h=>Calls.Constant_str ⟨.str x,H,I.tok _,⟨_,rfl⟩,h⟩
noncomputable def Gl (X:Cx) (x:Str):Prop:=X.env.kindOf x=some .globalImplicit
theorem ZM {E:Value->Shared->Prop} {pins:List (Addr × Obj)} {s:Shared} {σ:St} {H:Hp} {x:Str} {u:Value} {pos:Pos} {Q:Value->Shared->Prop} (I:Inv X pins σ H s) (hg:Gl X x) (hm:X.mg x=some u) (h:Q u s)
  (hd:(x == ("__debug__" : Str))=false:=by decide):wpAny (model X.prog X.w) X.A (eval (.Name x pos) X.env) Q E s:=
 Calls.Name_function_global I.ok.kind hg (Calls.loadGlobal_global (by rw [I.ok.glob]; exact I.mod.glob.keeps I.bk) hm h) hd
theorem YG {E:Value->Shared->Prop} {pins:List (Addr × Obj)} {s:Shared} {σ:St} {H:Hp} {x:Str} {u:Value} {pos:Pos} {Q:Value->Shared->Prop} (I:Inv X pins σ H s) (hg:Gl X x) (hm:X.mg x=none) (hv:bootBuiltins x=some u) (h:Q u s)
  (hn:x≠"__name__":=by decide) (hd:(x == ("__debug__" : Str))=false:=by decide):wpAny (model X.prog X.w) X.A (eval (.Name x pos) X.env) Q E s:=by
 obtain ⟨mb,h1,h2⟩:=I.mod.blt;exact Calls.Name_function_global I.ok.kind hg (Calls.loadGlobal_builtin (by rw [I.ok.glob]; exact I.mod.glob.keeps I.bk) hm (by rw [I.ok.blt]; exact h1.keeps I.bk) ((h2 x hn).trans hv) h) hd
theorem Jc {x:Str} {v:V} {u:Value} {pos:Pos} (hg:Gl X x) (hm:X.mg x=some u) (r:RelV v u) (hd:(x == ("__debug__" : Str))=false:=by decide):PE X (.Name x pos) (tC v):=
 λ_ _ _ H _ I h=>ZM I hg hm ⟨v,H,I,r,h⟩ hd
theorem pe_bltn {x:Str} {v:V} {u:Value} {pos:Pos} (hg:Gl X x) (hm:X.mg x=none) (hv:bootBuiltins x=some u) (r:RelV v u) (hn:x≠"__name__":=by decide) (hd:(x == ("__debug__" : Str))=false:=by decide):PE X (.Name x pos) (tC v):=
 λ_ _ _ H _ I h=>YG I hg hm hv ⟨v,H,I,r,h⟩ hn hd
variable {a b:Expr} {ta tb:TE} {pos:Pos}
noncomputable def tB (t:TE):TT:=λσ H Q=>t σ H λx H1=>∃ c,x=.bl c/\Q c H1
theorem zh {e:Expr} {t:TE} (h:PE X e t) (he:∀ whole,isTrue e X.env whole=(do let v <- whole; standAt e.pos; holding [v] (truthy v)):=by intro _; rfl):PT X e (tB t):=by
 intro pins s σ H Q I hw;refine isTrue_plain (thn (h pins s σ H _ I hw) λv s1 ⟨x,H1,I1,r1,q1⟩=>?_) (he _)
 obtain ⟨d,rfl,q⟩:=q1;cases r1
 exact wpAny_truthy_bool ⟨H1,I1,q⟩
variable {tA tB':TT} {rest:List Expr}
noncomputable def tAnd (t u:TT):TT:=λσ H Q=>t σ H λc H1=>if c=true then u σ H1 Q else Q false H1
noncomputable def tOr (t u:TT):TT:=λσ H Q=>t σ H λc H1=>if c=true then Q true H1 else u σ H1 Q
noncomputable def tNot (t:TT):TT:=λσ H Q=>t σ H λc H1=>Q (!c) H1
theorem jL (ha:PT X a tA):PW X (.BoolOp .And [a] pos) tA:=by
 intro wh pins s σ H Q I h;refine isTrue_and (thn (ha pins s σ H Q I h) λc s1 e=>?_)
 cases c with
 |true=>exact isTrue_and_nil e
 |false=>exact e
theorem yO (ha:PT X a tA):PW X (.BoolOp .Or [a] pos) tA:=by
 intro wh pins s σ H Q I h;refine isTrue_or (thn (ha pins s σ H Q I h) λc s1 e=>?_)
 cases c with
 |false=>exact isTrue_or_nil e
 |true=>exact e
theorem j2 (ha:PT X a tA) (hb:PW X (.BoolOp .And (b::rest) pos) tB'):PW X (.BoolOp .And (a::b::rest) pos) (tAnd tA tB'):=by
 intro wh pins s σ H Q I h;refine isTrue_and (thn (ha pins s σ H _ I h) λc s1 zz=>?_)
 obtain ⟨H1,I1,q1⟩:=zz;cases c with
 |true=>exact hb wh pins s1 σ H1 Q I1 q1
 |false=>exact ⟨H1,I1,q1⟩
theorem y9 (ha:PT X a tA) (hb:PW X (.BoolOp .Or (b::rest) pos) tB'):PW X (.BoolOp .Or (a::b::rest) pos) (tOr tA tB'):=by
 intro wh pins s σ H Q I h;refine isTrue_or (thn (ha pins s σ H _ I h) λc s1 zz=>?_)
 obtain ⟨H1,I1,q1⟩:=zz;cases c with
 |true=>exact ⟨H1,I1,q1⟩
 |false=>exact hb wh pins s1 σ H1 Q I1 q1
theorem yH (ha:PT X a tA):PT X (.UnaryOp .Not a pos) (tNot tA):=by
 intro pins s σ H Q I h;exact isTrue_not (ha pins s σ H (λc H1=>Q (!c) H1) I h)
noncomputable def tAndV (ta tb:TE):TE:=λσ H Q=>ta σ H λx H1=>∃ c,x=.bl c/\if c=true then tb σ H1 Q else Q (.bl false) H1
noncomputable def tOrV (ta tb:TE):TE:=λσ H Q=>ta σ H λx H1=>∃ c,x=.bl c/\if c=true then Q (.bl true) H1 else tb σ H1 Q
noncomputable def tNotV (ta:TE):TE:=λσ H Q=>ta σ H λx H1=>∃ c,x=.bl c/\Q (.bl (!c)) H1
theorem yR {op} {t:TE} (h:PE X a t):PE X (.BoolOp op [a] pos) t:=λpins s σ H Q I hw=>BoolOp_one (h pins s σ H Q I hw)
theorem yd (ha:PE X a ta) (hb:PE X (.BoolOp .And (b::rest) pos) tb):PE X (.BoolOp .And (a::b::rest) pos) (tAndV ta tb):=by
 intro pins s σ H Q I h;refine BoolOp_and (thn (ha pins s σ H _ I h) λv s1 zz=>?_)
 obtain ⟨x,H1,I1,r1,q1⟩:=zz;obtain ⟨c,rfl,q1⟩:=q1;cases r1
 refine wpAny_truthy_bool ?_;cases c with
 |true=>exact hb pins s1 σ H1 Q I1 q1
 |false=>exact ⟨.bl false,H1,I1,rfl,q1⟩
theorem pe_or (ha:PE X a ta) (hb:PE X (.BoolOp .Or (b::rest) pos) tb):PE X (.BoolOp .Or (a::b::rest) pos) (tOrV ta tb):=by
 intro pins s σ H Q I h;refine BoolOp_or (thn (ha pins s σ H _ I h) λv s1 zz=>?_)
 obtain ⟨x,H1,I1,r1,q1⟩:=zz;obtain ⟨c,rfl,q1⟩:=q1;cases r1
 refine wpAny_truthy_bool ?_;cases c with
 |false=>exact hb pins s1 σ H1 Q I1 q1
 |true=>exact ⟨.bl true,H1,I1,rfl,q1⟩
theorem pe_not (ha:PE X a ta):PE X (.UnaryOp .Not a pos) (tNotV ta):=by
 intro pins s σ H Q I h;refine UnaryOp_ (thn (ha pins s σ H _ I h) λv s1 zz=>?_)
 obtain ⟨x,H1,I1,r1,q1⟩:=zz;obtain ⟨c,rfl,q1⟩:=q1;cases r1
 exact not_of (wpAny_truthy_bool ⟨.bl (!c),H1,I1,rfl,q1⟩)
noncomputable def tIf (t:TT) (ta tb:TE):TE:=λσ H Q=>t σ H λc H1=>if c=true then ta σ H1 Q else tb σ H1 Q
theorem Jz {c:Expr} (hc:PT X c tA) (ha:PE X a ta) (hb:PE X b tb):PE X (.IfExp c a b pos) (tIf tA ta tb):=by
 intro pins s σ H Q I h;refine wpAny_IfExp (thn (hc pins s σ H _ I h) λd s1 zz=>?_)
 obtain ⟨H1,I1,q1⟩:=zz;cases d with
 |true=>exact ha pins s1 σ H1 Q I1 q1
 |false=>exact hb pins s1 σ H1 Q I1 q1
end
end L2
namespace L2
open PySem PySem.Spec PyProof.Rows
noncomputable def SqL (K:PySem.W.Frag) (H:Hp) (a:Addr) (xs:List V):Prop:=
 Rd H a (.lst xs)\/
  ∃ (o:Obj) (its:Array Value) (n:Nat),K.lookup a=some o/\o.cls=.type "list"/\o.dict=none/\o.data=.seq its n/\its.size<=sizeLine/\Vals xs its.toList
noncomputable def SqT (K:PySem.W.Frag) (H:Hp) (a:Addr) (xs:List V):Prop:=
 Rd H a (.tup xs)\/
  ∃ (o:Obj) (its:Array Value) (n:Nat),K.lookup a=some o/\o.cls=.type "tuple"/\o.data=.seq its n/\its.size<=sizeLine/\Vals xs its.toList
noncomputable def absV:Value->Option V
 |.none=>some .non
 |.bool b=>some (.bl b)
 |.int i _=>some (.int i)
 |.str x _=>some (.str x)
 |.bytes b _=>some (.byt b)
 |.float b _=>some (.flt b)
 |.ref a=>some (.ref a)
 |.type n=>some (.ty n)
 |_=>none
theorem RelV.abs {x:V} {u:Value} (r:RelV x u):absV u=some x:=by
 cases x with
 |non=>cases r; rfl
 |bl _=>cases r; rfl
 |int _=>obtain ⟨t,rfl⟩:=r; rfl
 |str _=>obtain ⟨t,rfl⟩:=r; rfl
 |byt _=>obtain ⟨t,rfl⟩:=r; rfl
 |flt _=>obtain ⟨t,rfl⟩:=r; rfl
 |ref _=>cases r; rfl
 |ty _=>cases r; rfl
theorem RelV.inj {x y:V} {u:Value} (r:RelV x u) (q:RelV y u):x=y:=Option.some.inj (r.abs.symm.trans q.abs)
theorem Vals.inj:∀ {xs ys:List V} {us:List Value},Vals xs us->Vals ys us->xs=ys
 |_,_,_,.nil,.nil=>rfl
 |_,_,_,.cons r t,.cons r' t'=>by rw [r.inj r',Vals.inj t t']
section
variable {X:Cx} {pins:List (Addr × Obj)} {σ:St} {H:Hp} {s:Shared} {a:Addr} {xs ys:List V}
theorem SqL.of {K:PySem.W.Frag} (h:H a=some (.lst xs)):SqL K H a xs:=.inl (.inl h)
theorem SqT.of {K:PySem.W.Frag} (h:H a=some (.tup xs)):SqT K H a xs:=.inl (.inl h)
theorem Inv.list (I:Inv X pins σ H s) (h:SqL X.K H a xs):∃ its:List Value,Vals xs its/\PlainL s.heap a its.toArray/\xs.length<=sizeLine:=by
 rcases h with h|⟨o,its,n,hk,hc,hd,hs,hz,r⟩
 ·obtain ⟨z,its,n,r,e⟩:=h.ok I.hok;exact ⟨its,r,⟨_,n,e,rfl,rfl,rfl⟩,z⟩
 ·refine ⟨its.toList,r,⟨o,n,I.kIn a o hk,hc,hd,by simpa using hs⟩,?_⟩
  have e:=r.length;simp only [Array.length_toList] at e;omega
theorem Inv.tuple (I:Inv X pins σ H s) (h:SqT X.K H a xs):∃ its:List Value,Vals xs its/\IsTup s.heap a its.toArray/\xs.length<=sizeLine:=by
 rcases h with h|⟨o,its,n,hk,hc,hs,hz,r⟩
 ·obtain ⟨z,its,r,p⟩:=h.ok I.hok;exact ⟨its,r,p,z⟩
 ·refine ⟨its.toList,r,⟨o,I.kIn a o hk,hc,n,by simpa using hs⟩,?_⟩
  have e:=r.length;simp only [Array.length_toList] at e;omega
theorem Inv.list_inj (I:Inv X pins σ H s) (h:SqL X.K H a xs) (h':SqL X.K H a ys):xs=ys:=by
 obtain ⟨its,r,⟨o,n,e,_,_,d⟩,_⟩:=I.list h;obtain ⟨its',r',⟨o',n',e',_,_,d'⟩,_⟩:=I.list h';rw [e] at e'; cases e'
 rw [d] at d';injection d' with d1 _
 have:its=its':=by simpa using congrArg Array.toList d1
 subst this;exact r.inj r'
theorem Inv.tuple_inj (I:Inv X pins σ H s) (h:SqT X.K H a xs) (h':SqT X.K H a ys):xs=ys:=by
 obtain ⟨its,r,⟨o,e,_,n,d⟩,_⟩:=I.tuple h;obtain ⟨its',r',⟨o',e',_,n',d'⟩,_⟩:=I.tuple h';rw [e] at e'; cases e'
 rw [d] at d';injection d' with d1 _
 have:its=its':=by simpa using congrArg Array.toList d1
 subst this;exact r.inj r'
end
noncomputable abbrev Cx.wish (X:Cx) (E:Value->Shared->Prop):Cx:={X with xe:=E}
noncomputable abbrev Cx.nox (X:Cx):Cx:=X.wish λ_ _=>False
theorem Cx.Ok.wish {X:Cx} (ok:X.Ok) (E:Value->Shared->Prop):(X.wish E).Ok:=
 ⟨ok.mod,ok.kind,ok.glob,ok.blt,ok.above,ok.inj,ok.has,ok.cab,ok.hd,ok.frames,ok.stk,ok.exf,ok.bs,ok.bsz,ok.noex,ok.exfs,ok.funs,ok.frf⟩
theorem Cx.Ok.unwish {X:Cx} {E:Value->Shared->Prop} (ok:(X.wish E).Ok):X.Ok:=
 ⟨ok.mod,ok.kind,ok.glob,ok.blt,ok.above,ok.inj,ok.has,ok.cab,ok.hd,ok.frames,ok.stk,ok.exf,ok.bs,ok.bsz,ok.noex,ok.exfs,ok.funs,ok.frf⟩
section
variable {X:Cx} {pins:List (Addr × Obj)} {σ:St} {H:Hp} {s:Shared} {E:Value->Shared->Prop}
theorem Inv.wish (I:Inv X pins σ H s) (E:Value->Shared->Prop):Inv (X.wish E) pins σ H s:=⟨I.ok.wish E,I.os,I.bare,I.base,I.loc,I.cell,I.free,I.freeC,I.pin,I.hok,I.len⟩
theorem Inv.unwish (I:Inv (X.wish E) pins σ H s):Inv X pins σ H s:=⟨I.ok.unwish,I.os,I.bare,I.base,I.loc,I.cell,I.free,I.freeC,I.pin,I.hok,I.len⟩
theorem SP.unwish {D:Ends} {f:Flow} {s':Shared} (h:SP (X.wish E) pins D f s'):SP X pins D f s':=by
 cases f with
 |next=>obtain ⟨σ',H',I,q⟩:=h; exact ⟨σ',H',I.unwish,q⟩
 |brk=>obtain ⟨σ',H',I,q⟩:=h; exact ⟨σ',H',I.unwish,q⟩
 |cont=>obtain ⟨σ',H',I,q⟩:=h; exact ⟨σ',H',I.unwish,q⟩
 |ret u=>obtain ⟨v,σ',H',I,r,q⟩:=h; exact ⟨v,σ',H',I.unwish,r,q⟩
theorem PSs.nox {st:List Stmt} {t:TS} (h:PSs X.nox st t):PSs X st t:=λpins s σ H D I hw=>
 wpAny_mono (h pins s σ H D (I.wish _) hw) (λ_ _ q=>q.unwish) λ_ _ z=>False.elim z
end
section
variable {X:Cx} {st:Stmt} {rest:List Stmt} {t u:TS} {e:Expr} {te:TE} {pos:Pos}
noncomputable def tNext:TS:=λD σ H=>D.nx σ H
noncomputable def tSeq (t u:TS):TS:=λD σ H=>t {D with nx:=u D} σ H
theorem zT:PSs X [] tNext:=λ_ _ σ H _ I h=>wpAny_execs_nil ⟨σ,H,I,h⟩
theorem zE (h1:PS X st t) (h2:PSs X rest u):PSs X (st::rest) (tSeq t u):=by
 intro pins s σ H D I h;refine wpAny_execs_cons (thn (h1 pins s σ H {D with nx:=u D} I h) λf s1 q=>?_)
 cases f with
 |next=>
  obtain ⟨σ',H',I',q⟩:=q;exact h2 pins s1 σ' H' D I' q
 |ret v=>exact q
 |brk=>exact q
 |cont=>exact q
theorem zF (h1:PS X st t):PSs X [st] t:=by
 intro pins s σ H D I h;refine wpAny_execs_cons (thn (h1 pins s σ H D I h) λf s1 q=>?_)
 cases f with
 |next=>exact wpAny_execs_nil q
 |ret v=>exact q
 |brk=>exact q
 |cont=>exact q
theorem Inv.quiet {pins:List (Addr × Obj)} {σ:St} {H:Hp} {s:Shared} (I:Inv X pins σ H s):interactive X.env=false:=by simp [interactive,I.ok.kind]
noncomputable def tDrop (te:TE):TS:=λD σ H=>te σ H λ_ H1=>D.nx σ H1
theorem yI (he:PE X e te) (hs:swapsWith e none pos.line X.env=pure false:=by rfl):PS X (.Expr e pos) (tDrop te):=by
 intro pins s σ H D I h;exact wpAny_Expr_any (thn (he pins s σ H _ I h) λv s1 ⟨x,H1,I1,r1,q1⟩=>⟨σ,H1,I1,q1⟩) I.quiet hs
noncomputable def tRet (te:TE):TS:=λD σ H=>te σ H D.rt
theorem zM (he:PE X e te):PS X (.Return (some e) pos) (tRet te):=by
 intro pins s σ H D I h;exact wpAny_Return_some (thn (he pins s σ H _ I h) λv s1 ⟨x,H1,I1,r1,q1⟩=>⟨x,σ,H1,I1,r1,q1⟩)
noncomputable def tIfS (c:TT) (t u:TS):TS:=λD σ H=>c σ H λb H1=>if b=true then t D σ H1 else u D σ H1
theorem ze {c:Expr} {a b:List Stmt} {tc:TT} (hc:PT X c tc) (ha:PSs X a t) (hb:PSs X b u):PS X (.If c a b pos) (tIfS tc t u):=by
 intro pins s σ H D I h;refine wpAny_If (thn (hc pins s σ H _ I h) λd s1 zz=>?_)
 obtain ⟨H1,I1,q1⟩:=zz;cases d with
 |true=>exact ha pins s1 σ H1 D I1 q1
 |false=>exact hb pins s1 σ H1 D I1 q1
noncomputable def tNever:TS:=λ_ _ _=>False
theorem J1:PS X st tNever:=λ_ _ _ _ _ _ h=>h.elim
theorem pss_never {sts:List Stmt}:PSs X sts tNever:=λ_ _ _ _ _ _ h=>h.elim
end
noncomputable abbrev TG:=V->St->Hp->(St->Hp->Prop)->Prop
noncomputable abbrev TGs:=List V->St->Hp->(St->Hp->Prop)->Prop
noncomputable def PG (X:Cx) (target:Expr) (t:TG):Prop:=
 ∀ (pins:List (Addr × Obj)) (s:Shared) (σ:St) (H:Hp) (v:V) (u:Value) (Q:St->Hp->Prop),Inv X pins σ H s->RelV v u->t v σ H Q->
  wpAny (model X.prog X.w) X.A (assign target X.env u) (λ_ s'=>∃ σ' H',Inv X pins σ' H' s'/\Q σ' H') X.xe s
noncomputable def PGs (X:Cx) (ts:List Expr) (t:TGs):Prop:=
 ∀ (pins:List (Addr × Obj)) (s:Shared) (σ:St) (H:Hp) (vs:List V) (us:List Value) (Q:St->Hp->Prop),Inv X pins σ H s->Vals vs us->t vs σ H Q->
  wpAny (model X.prog X.w) X.A (assignInOrder ((assignEach ts X.env).map (·.2)) us) (λ_ s'=>∃ σ' H',Inv X pins σ' H' s'/\Q σ' H') X.xe s
noncomputable abbrev TSet:=V->V->V->Hp->(Hp->Prop)->Prop
noncomputable def PSet (X:Cx) (t:TSet):Prop:=
 ∀ (pins:List (Addr × Obj)) (s:Shared) (σ:St) (H:Hp) (o i v:V) (ov iv u:Value) (Q:Hp->Prop),Inv X pins σ H s->RelV o ov->RelV i iv->RelV v u->t o i v H Q->
  wpAny (model X.prog X.w) X.A (setItem ov iv u) (λ_ s'=>∃ H',Inv X pins σ H' s'/\Q H') X.xe s
section
variable {X:Cx} {pos:Pos}
noncomputable def gName (i:Nat):TG:=λv σ H Q=>Q (σ.set i (some v)) H
theorem zj {i:Nat} {x:Str} (hN:X.N.Nodup) (hi:X.N[i]?=some x) (hx:Loc X.env.scope x) (hf:X.fn x=true\/X.env.scope.names.lookup x=some .local:=by first|exact .inl rfl|exact .inr rfl|assumption):PG X (.Name x pos) (gName i):=by
 intro pins s σ H v u Q I r h;exact wpAny_assign_Name (Zf I hN hi hx r (λs' I'=>⟨_,H,I',h⟩) hf)
noncomputable def gNil:TGs:=λvs σ H Q=>vs=[]/\Q σ H
noncomputable def gCons (t:TG) (u:TGs):TGs:=λvs σ H Q=>∃ v r,vs=v::r/\t v σ H λσ' H'=>u r σ' H' Q
theorem pgs_nil:PGs X [] gNil:=by
 intro pins s σ H vs us Q I r h;obtain ⟨e,h⟩:=h;subst e;cases r
 exact assignInOrder_nil ⟨σ,H,I,h⟩
theorem Ye {e:Expr} {es:List Expr} {t:TG} {u:TGs} (h1:PG X e t) (h2:PGs X es u)
  (hs:(assignEach (e::es) X.env).map (·.2)=assign e X.env::(assignEach es X.env).map (·.2):=by rfl):PGs X (e::es) (gCons t u):=by
 intro pins s σ H vs us Q I r h;obtain ⟨v,vr,e1,h⟩:=h;subst e1;cases r with
 |cons r rr=>
  rw [hs];refine assignInOrder_cons (thn (h1 pins s σ H _ _ _ I r h) λ_ s1 zz=>?_)
  obtain ⟨σ1,H1,I1,q1⟩:=zz;exact h2 pins s1 σ1 H1 _ _ Q I1 rr q1
noncomputable def gTup (K:PySem.W.Frag) (n:Nat) (t:TGs):TG:=λv σ H Q=>∃ a xs,v=.ref a/\SqT K H a xs/\xs.length=n/\t xs σ H Q
theorem pg_tup {es:List Expr} {k:Nat} {t:TGs} {n:Nat} (hc:X.calm=true) (h:PGs X es t)
  (hn:(assignEach es X.env).length=n:=by rfl) (hst:(assignEach es X.env).findIdx? (·.1)=none:=by rfl):PG X (.Tuple es k pos) (gTup X.K n t):=by
 intro pins s σ H v u Q I r hw;obtain ⟨a,xs,e1,hq,hl,hw⟩:=hw;subst e1;cases r
 obtain ⟨its,rv,ht,hz⟩:=I.tuple hq;refine assign_Tuple_tuple (I.ok.hd hc) ht (by simp [hn,<- hl,rv.length]) hst λh' hx=>?_
 have I1:Inv X pins σ H {s with heap:=h'}:=I.kept (t':=s.toks) λb o e=>hx b o (Nat.ne_of_lt (Heap.lt_size e)) e
 exact h pins _ σ H xs _ Q I1 (by simpa using rv) hw
noncomputable def gSub (to ti:TE) (t:TSet):TG:=λv σ H Q=>to σ H λo H1=>ti σ H1 λi H2=>t o i v H2 λH3=>Q σ H3
theorem Jq {o i:Expr} {to ti:TE} {t:TSet} (ho:PE X o to) (hi:PE X i ti) (hs:PSet X t)
  (ha:∀ v,assign (.Subscript o i pos) X.env v=(do
   let ov <- holding [v] (eval o X.env)
   let iv <- holding [v,ov] (eval i X.env)
   standAt pos
   holding [v,ov,iv] (setItem ov iv v)
   release [v,ov,iv] []):=by intro _; rfl):PG X (.Subscript o i pos) (gSub to ti t):=by
 intro pins s σ H v u Q I r h;rw [ha];refine wpAny_bind (wpAny_holding (thn (ho pins s σ H _ I h) λov s1 zz=>?_))
 obtain ⟨x,H1,I1,r1,q1⟩:=zz;refine wpAny_bind (wpAny_holding (thn (hi pins s1 σ H1 _ I1 q1) λiv s2 zz=>?_))
 obtain ⟨y,H2,I2,r2,q2⟩:=zz;refine wpAny_bind (wpAny_standAt (wpAny_bind (wpAny_holding (thn (hs pins s2 σ H2 x y v ov iv u _ I2 r1 r2 r q2) λ_ s3 zz=>?_))))
 obtain ⟨H3,I3,q3⟩:=zz;exact wpAny_release ⟨σ,H3,I3,q3⟩
noncomputable def tAsg (te:TE) (g:TG):TS:=λD σ H=>te σ H λx H1=>g x σ H1 D.nx
theorem Yu {tg e:Expr} {te:TE} {g:TG} (he:PE X e te) (hg:PG X tg g) (hs:swapsWithSole [tg] e pos.line X.env=pure false:=by rfl) (hw:swappedStores [tg] e X.env=pure none:=by rfl)
  (h1:(assignEach [tg] X.env).map (·.2)=[assign tg X.env]:=by rfl):PS X (.Assign [tg] e pos) (tAsg te g):=by
 intro pins s σ H D I h;refine wpAny_Assign_stores (thn (he pins s σ H _ I h) λv s1 ⟨x,H1,I1,r1,q1⟩=>?_) hs hw
 rw [h1];exact thn (hg pins s1 σ H1 x v _ I1 r1 q1) λ_ s2 q=>q
theorem zO {i:Nat} {x:Str} {e:Expr} {te:TE} {pos':Pos} (hN:X.N.Nodup) (hi:X.N[i]?=some x) (hx:Loc X.env.scope x) (he:PE X e te) (hs:swapsWith e (some (.Name x pos')) pos.line X.env=pure false:=by rfl) (hf:X.fn x=true\/X.env.scope.names.lookup x=some .local:=by first|exact .inl rfl|exact .inr rfl|assumption) :
  PS X (.Assign [.Name x pos'] e pos) (tAsg te (gName i)):=by
 intro pins s σ H D I h;refine wpAny_Assign_Name (thn (he pins s σ H _ I h) λv s1 ⟨y,H1,I1,r1,q1⟩=>?_) hs
 exact Zf I1 hN hi hx r1 (λs2 I2=>⟨_,H1,I2,q1⟩) hf
noncomputable def tPar (i j:Nat) (ta:TA):TS:=λD σ H=>ta σ H λvs H1=>∃ v w,vs=[v,w]/\D.nx ((σ.set i (some v)).set j (some w)) H1
theorem ps_par {i j:Nat} {x y:Str} {a b:Expr} {ta:TA} {px py pt:Pos} {kt k2 qk} (hc:X.calm=true) (hN:X.N.Nodup) (hi:X.N[i]?=some x) (hj:X.N[j]?=some y) (hij:i≠j)
  (hx:X.env.scope.names.lookup x=some .local) (hy:X.env.scope.names.lookup y=some .local) (ha:PA X [a,b] ta)
  (hw:swappedStores [.Tuple [.Name x px,.Name y py] kt pt] (.Tuple [a,b] k2 qk) X.env=pure (some [x,y]))
  (hs:swapsWithSole [.Tuple [.Name x px,.Name y py] kt pt] (.Tuple [a,b] k2 qk) pos.line X.env=pure false:=by rfl) :
  PS X (.Assign [.Tuple [.Name x px,.Name y py] kt pt] (.Tuple [a,b] k2 qk) pos) (tPar i j ta):=by
 intro pins s σ H D I h;rw [exec_Assign_arm];refine wpAny_bind (wpAny_standAt ?_);rw [hs];refine wpAny_bind (wpAny_pure ?_);rw [if_neg (by decide)]
 refine wpAny_bind (Tuple_ (thn (ha _ pins s σ H _ I h) λus s1 zz=>?_))
 obtain ⟨vs,H1,I1,r1,q1⟩:=zz;obtain ⟨v,w,e1,q1⟩:=q1;subst e1;obtain ⟨u1,u2,rfl,rv,rw'⟩:∃ u1 u2,us=[u1,u2]/\RelV v u1/\RelV w u2:=by
  cases r1 with
  |cons p q=>
   cases q with
   |cons p' q'=>
    cases q'
    exact ⟨_,_,rfl,p,p'⟩
 refine wpAny_newObj_type ?_ (by show 2<=sizeLine; decide)
 have I2:Inv X pins σ H1 {s1 with heap:=s1.heap.push {cls:=.type "tuple",data:=.seq [u1,u2].toArray}}:=I1.kept (t':=s1.toks) λb o e=>Heap.get?_push_of_some _ e
 rw [hw];refine wpAny_bind (wpAny_pure ?_);show wpAny (model X.prog X.w) X.A (do rule "assign.swapped-stores"; let items <- unpackItems (.ref s1.heap.objs.size) 2 none; assignInOrder [λv=>bindName X.env y v,λv=>bindName X.env x v] items.reverse; pure Flow.next) _ _ _
 refine wpAny_bind (wpAny_rule (wpAny_bind (unpackItems_tuple (items:=#[u1,u2]) (I.ok.hd hc) (IsTup.new s1.heap _) λh' hx'=>?_)))
 have I3:=I2.kept (h':=h') (t':=s1.toks) λb o e=>hx' b o (Nat.ne_of_lt (Heap.lt_size e)) e
 show wpAny _ _ (assignInOrder [λv=>bindName X.env y v,λv=>bindName X.env x v] [u2,u1] >>= λ_=>pure Flow.next) _ _ _
 refine wpAny_bind (assignInOrder_cons (wpAny_bindName (Zf I3 hN hj (.inl hy) rw' (λs2 I4=>?_) (.inr hy))))
 refine assignInOrder_cons (wpAny_bindName (Zf I4 hN hi (.inl hx) rv (λs3 I5=>assignInOrder_nil (wpAny_pure ?_)) (.inr hx)))
 rw [List.set_comm _ _ (Ne.symm hij)] at I5;exact ⟨_,H1,I5,q1⟩
end
section
variable {X:Cx} {pos:Pos}
noncomputable def tWhile (c:TT) (tb:TS):TS:=λD σ H=>∃ W:Nat->St->Hp->Prop,(∃ m,W m σ H)/\∀ m σ H,W m σ H->
 c σ H λb H1=>if b=true then ∃ N:St->Hp->Prop,(∀ σ' H',N σ' H'->∃ m',m' < m/\W m' σ' H')/\tb {D with nx:=N,ct:=N,bk:=D.nx} σ H1 else D.nx σ H1
theorem YR {c:Expr} {body:List Stmt} {tc:TT} {tb:TS} (hp:PassesOwn (model X.prog X.w) X.A X.env X.xe) (hc:PT X c tc) (hb:PSs X body tb):PS X (.While c body [] pos) (tWhile tc tb):=by
 intro pins s σ H D I h;obtain ⟨W,⟨m0,w0⟩,turn⟩:=h;refine wpAny_While (codeAny_whileLoop (λn s'=>∃ σ' H',Inv X pins σ' H' s'/\W n σ' H') ?_ m0 ⟨σ,H,I,w0⟩)
 rintro n s1 ⟨σ1,H1,I1,w1⟩;refine wpAny_passesOwn hp (thn (hc pins s1 σ1 H1 _ I1 (turn n σ1 H1 w1)) λb s2 zz=>?_)
 obtain ⟨H2,I2,q2⟩:=zz;cases b with
 |true=>
  obtain ⟨N,hN,q2⟩:=q2;rw [if_pos rfl];refine wpAny_passesOwn hp (thn (hb pins s2 σ1 H2 _ I2 q2) λf s3 q3=>?_)
  cases f with
  |next=>
   obtain ⟨σ3,H3,I3,n3⟩:=q3;obtain ⟨m',hm,w3⟩:=hN σ3 H3 n3;exact ⟨m',hm,σ3,H3,I3,w3⟩
  |cont=>
   obtain ⟨σ3,H3,I3,n3⟩:=q3;obtain ⟨m',hm,w3⟩:=hN σ3 H3 n3;exact ⟨m',hm,σ3,H3,I3,w3⟩
  |brk=>exact q3
  |ret v=>exact q3
 |false=>
  rw [if_neg Bool.false_ne_true];exact wpAny_execs_nil ⟨σ1,H2,I2,q2⟩
end
structure It where
 go:Nat->Hp->Prop
 yld:Nat->Hp->V->Hp->Prop
 stop:Nat->Hp->Prop
noncomputable def FpOk (X:Cx) (pins:List (Addr × Obj)) (H:Hp) (b:Addr):Prop:=
 H b=none/\b≠X.env.locals/\b∉X.fs/\(b∈X.ex\/X.s₀.heap.objs.size<=b)/\(∀ x c,X.env.cells.lookup x=some c->c≠b)/\∀ p∈X.pn++pins,p.1≠b
theorem Inv.fpOk {X:Cx} {pins:List (Addr × Obj)} {σ:St} {H H':Hp} {s:Shared} {b:Addr} (I:Inv X pins σ H s) (hb:s.heap.objs.size<=b) (hn:H' b=none):FpOk X pins H' b:=by
 refine ⟨hn,Nat.ne_of_gt (Nat.lt_of_lt_of_le I.lt hb),I.nofs hb,.inr (Nat.le_trans I.sz hb),λx c e z=>?_,λp hp z=>?_⟩
 ·obtain ⟨v,q⟩:=I.cell x c e;exact absurd (Nat.lt_of_lt_of_le q.lt (by rw [z]; exact hb)) (Nat.lt_irrefl _)
 ·exact absurd (Nat.lt_of_lt_of_le (Heap.lt_size (I.pin p hp).1) (by rw [z]; exact hb)) (Nat.lt_irrefl _)
structure Turn (P:Program) (w:World) (K:PySem.W.Frag) (tg:Expr) (J:It) (fp:List Addr) (it:Addr) (tn:Nat->Heap->Prop):Prop where
 mem:it∈fp
 obj:∀ i h,tn i h->∀ b∈fp,∃ o,h.get? b=some o/\∀ v,o.data≠.cell v
 keep:∀ i h h',tn i h->(∀ b∈fp,∀ o,h.get? b=some o->h'.get? b=some o)->tn i h'
 item:∀ (X:Cx),X.prog=P->X.w=w->X.K=K->X.calm=true->∀ (i:Nat) (pins:List (Addr × Obj)) (s:Shared) (σ:St) (H:Hp) (E:Value->Shared->Prop),Inv X pins σ H s->(∀ b∈fp,FpOk X pins H b)->tn i s.heap->J.go i H->
  wpAny (model P w) X.A (pyNext (.ref it)) (λr s1=>∃ u,r=some u/\
   wpAny (model P w) X.A (letOwnedTupleGo tg (.ref it) u) (λ_ s2=>∃ x H',Inv X pins σ H' s2/\RelV x u/\J.yld i H x H'/\tn (i+1) s2.heap/\∀ b∈fp,H' b=none) E s1) E s
 done:∀ (X:Cx),X.prog=P->X.w=w->X.K=K->X.calm=true->∀ (i:Nat) (pins:List (Addr × Obj)) (s:Shared) (σ:St) (H:Hp) (E:Value->Shared->Prop),Inv X pins σ H s->(∀ b∈fp,FpOk X pins H b)->tn i s.heap->J.stop i H->
  wpAny (model P w) X.A (pyNext (.ref it)) (λr s1=>r=none/\Inv X pins σ H s1) E s
 self:∀ (A:Around) (i:Nat) (s:Shared) (Q:Value->Shared->Prop) (E:Value->Shared->Prop),tn i s.heap->Q (.ref it) s->wpAny (model P w) A (pyIter (.ref it)) Q E s
noncomputable abbrev TI:=St->Hp->(It->Hp->Prop)->Prop
noncomputable def PIE (X:Cx) (pins:List (Addr × Obj)) (σ:St) (tg:Expr) (R:It->Hp->Prop) (itv:Value) (s2:Shared):Prop:=
 ∃ (it:Addr) (fp:List Addr) (tn:Nat->Heap->Prop) (J:It) (H':Hp),itv=.ref it/\Inv X pins σ H' s2/\Turn X.prog X.w X.K tg J fp it tn/\tn 0 s2.heap/\(∀ b∈fp,FpOk X pins H' b)/\R J H'
noncomputable def PI (X:Cx) (tg iter:Expr) (wi:TI):Prop:=
 ∀ (pins:List (Addr × Obj)) (s:Shared) (σ:St) (H:Hp) (R:It->Hp->Prop),Inv X pins σ H s->wi σ H R->
  wpAny (model X.prog X.w) X.A (eval iter X.env) (λv s1=>wpAny (model X.prog X.w) X.A (pyIter v) (PIE X pins σ tg R) X.xe s1) X.xe s
theorem go_of {M:Model} {A:Around} {E:Value->Shared->Prop} {s:Shared} {tg:Expr} {it:Addr} {u:Value} {o:Obj} {n:String} {vs:Array Value} {Q:Unit->Shared->Prop} (ho:s.heap.get? it=some o) (hc:o.cls=.type n) (hd:o.data=.fields vs)
  (hn:["enumerate","zip","dict_itemiterator","dict_reverseitemiterator","odict_iterator","itertools.zip_longest","itertools.pairwise"].contains n=false) (hQ:Q () s):wpAny M A (letOwnedTupleGo tg (.ref it) u) Q E s:=by
 unfold letOwnedTupleGo;cases tg<;>first
  |exact wpAny_pure hQ
  | (cases u<;>first
    |exact wpAny_pure hQ
    | (refine wpAny_bind (wpAny_load ho ?_)
       rw [hc,hd];show wpAny M A (if (["enumerate","zip","dict_itemiterator","dict_reverseitemiterator","odict_iterator","itertools.zip_longest","itertools.pairwise"].contains n && vs[0]? == some (rawInt _))=true then _ else _) Q E s
       rw [if_neg (by intro h; rw [hn,Bool.false_and] at h; cases h)]
       exact wpAny_pure hQ))
noncomputable def Itl (K:PySem.W.Frag) (a:Addr):It:=
 ⟨λi H=>∃ xs x,SqL K H a xs/\xs[i]?=some x,λi H x H'=>H'=H/\∀ xs,SqL K H a xs->xs[i]?=some x,λi H=>∃ xs,SqL K H a xs/\xs.length<=i⟩
noncomputable def Itt (K:PySem.W.Frag) (a:Addr):It:=
 ⟨λi H=>∃ xs x,SqT K H a xs/\xs[i]?=some x,λi H x H'=>H'=H/\∀ xs,SqT K H a xs->xs[i]?=some x,λi H=>∃ xs,SqT K H a xs/\xs.length<=i⟩
noncomputable def Itr (lo:Int) (n:Nat):It:=⟨λi _=>i < n,λi H x H'=>H'=H/\x=.int (lo+i),λi _=>n<=i⟩
theorem turn_list {P:Program} {w:World} {K:PySem.W.Frag} {tg:Expr} (a it:Addr):Turn P w K tg (Itl K a) [it] it (λi h=>h.IsListIter it a i) where
 mem:=by simp
 obj:=λi h st b hb=>by
  have e:b=it:=by simpa using hb
  subst e;obtain ⟨o,e,c,d⟩:=st;exact ⟨o,e,λv z=>by rw [d] at z; cases z⟩
 keep:=λi h h' st k=>st.at λo e=>k it (by simp) o e
 item:=by
  intro X hP hw hK hc i pins s σ H E I hf st hg;subst hP hw hK;obtain ⟨xs,x,hq,hx⟩:=hg;obtain ⟨its,rv,p,hz⟩:=I.list hq;obtain ⟨u,hu,ru⟩:=rv.get hx;obtain ⟨f0,f1,f2,f3,f4,f5⟩:=hf it (by simp)
  refine wpAny_pyNext_list_item st p.isList (x:=u) (by simpa using hu) λh' st' sb=>?_
  have I1:Inv X pins σ H {s with heap:=h'}:=I.turned (t':=s.toks) (λb o hb e=>(sb.2 b hb).trans e) f0 f1 f3 f4 f5
  obtain ⟨o,e,c,d⟩:=id st';exact ⟨u,rfl,go_of (s:={s with heap:=h'}) e c d (by decide) ⟨x,H,I1,ru,⟨rfl,λys hy=>by rw [I.list_inj hy hq]; exact hx⟩,st',λb hb=>(hf b hb).1⟩⟩
 done:=by
  intro X hP hw hK hc i pins s σ H E I hf st hg;subst hP hw hK;obtain ⟨xs,hq,hx⟩:=hg;obtain ⟨its,rv,p,hz⟩:=I.list hq;obtain ⟨f0,f1,f2,f3,f4,f5⟩:=hf it (by simp)
  have hl:=rv.length;exact wpAny_pyNext_list_end (I.ok.hd hc) st p.isList (by simp; omega) λh' eb=>⟨rfl,I.turned (t':=s.toks) (λb o hb e=>eb b o hb e) f0 f1 f3 f4 f5⟩
 self:=λ_ _ _ _ _ st h=>wpAny_pyIter_listiter st h
theorem turn_tuple {P:Program} {w:World} {K:PySem.W.Frag} {tg:Expr} (a it:Addr):Turn P w K tg (Itt K a) [it] it (λi h=>h.IsTupleIter it a i) where
 mem:=by simp
 obj:=λi h st b hb=>by
  have e:b=it:=by simpa using hb
  subst e;obtain ⟨o,e,c,d⟩:=st;exact ⟨o,e,λv z=>by rw [d] at z; cases z⟩
 keep:=λi h h' st k=>st.at λo e=>k it (by simp) o e
 item:=by
  intro X hP hw hK hc i pins s σ H E I hf st hg;subst hP hw hK;obtain ⟨xs,x,hq,hx⟩:=hg;obtain ⟨its,rv,p,hz⟩:=I.tuple hq;obtain ⟨u,hu,ru⟩:=rv.get hx;obtain ⟨f0,f1,f2,f3,f4,f5⟩:=hf it (by simp)
  refine wpAny_pyNext_tuple_item st (show s.heap.IsTuple a its.toArray from p) (x:=u) (by simpa using hu) λh' st' sb=>?_
  have I1:Inv X pins σ H {s with heap:=h'}:=I.turned (t':=s.toks) (λb o hb e=>(sb.2 b hb).trans e) f0 f1 f3 f4 f5
  obtain ⟨o,e,c,d⟩:=id st';exact ⟨u,rfl,go_of (s:={s with heap:=h'}) e c d (by decide) ⟨x,H,I1,ru,⟨rfl,λys hy=>by rw [I.tuple_inj hy hq]; exact hx⟩,st',λb hb=>(hf b hb).1⟩⟩
 done:=by
  intro X hP hw hK hc i pins s σ H E I hf st hg;subst hP hw hK;obtain ⟨xs,hq,hx⟩:=hg;obtain ⟨its,rv,p,hz⟩:=I.tuple hq;obtain ⟨f0,f1,f2,f3,f4,f5⟩:=hf it (by simp)
  have hl:=rv.length;exact wpAny_pyNext_tuple_end (I.ok.hd hc) st (show s.heap.IsTuple a its.toArray from p) (by simp; omega) λh' eb=>⟨rfl,I.turned (t':=s.toks) (λb o hb e=>eb b o hb e) f0 f1 f3 f4 f5⟩
 self:=λ_ _ _ _ _ st h=>wpAny_pyIter_tupleiter st h
theorem turn_range {P:Program} {w:World} {K:PySem.W.Frag} {tg:Expr} (it:Addr) (lo:Int) (n:Nat):Turn P w K tg (Itr lo n) [it] it (λi h=>IsRangeIter h it (lo+(i:Nat) * 1) ((n:Int) - (i:Nat)) 1) where
 mem:=by simp
 obj:=λi h st b hb=>by
  have e:b=it:=by simpa using hb
  subst e
  exact ⟨_,st,λv z=>by
   have z':Data.fields _=Data.cell v:=z
   cases z'⟩
 keep:=λi h h' st k=>k it (by simp) _ st
 item:=by
  intro X hP hw hK hc i pins s σ H E I hf st hg;subst hP hw hK;obtain ⟨f0,f1,f2,f3,f4,f5⟩:=hf it (by simp)
  have W:=Walks.range (prog:=X.prog) (w:=X.w) (I.ok.hd hc) it lo 1 n;refine W.item i s _ _ hg st λv h' tk hv st' kk=>?_
  obtain ⟨t,rfl⟩:=hv;have I1:Inv X pins σ H {s with heap:=h',toks:=tk}:=I.turned (λb o hb e=>kk b o (by simpa using hb) e) f0 f1 f3 f4 f5
  refine ⟨_,rfl,go_of (s:={s with heap:=h',toks:=tk}) (n:="range_iterator") st' rfl rfl (by decide) ⟨.int (lo+i),H,I1,⟨t,?_⟩,⟨rfl,rfl⟩,st',λb hb=>(hf b hb).1⟩⟩
  rw [Int.mul_one]
 done:=by
  intro X hP hw hK hc i pins s σ H E I hf st hg;subst hP hw hK;obtain ⟨f0,f1,f2,f3,f4,f5⟩:=hf it (by simp)
  exact wpAny_pyNext_range_end (I.ok.hd hc) st (by have:n<=i:=hg; omega) λh' eb=>⟨rfl,I.turned (t':=s.toks) (λb o hb e=>eb b o hb e) f0 f1 f3 f4 f5⟩
 self:=λ_ _ _ _ _ st h=>wpAny_pyIter_rangeiter st h
end L2
namespace L2
open PySem PySem.Spec PyProof.Rows
section
variable {X:Cx} {tg:Expr}
noncomputable def iList (K:PySem.W.Frag) (tl:TE):TI:=λσ H R=>tl σ H λx H1=>∃ a,x=.ref a/\(∃ xs,SqL K H1 a xs)/\R (Itl K a) H1
noncomputable def iTup (K:PySem.W.Frag) (tl:TE):TI:=λσ H R=>tl σ H λx H1=>∃ a,x=.ref a/\(∃ xs,SqT K H1 a xs)/\R (Itt K a) H1
theorem yP {l:Expr} {tl:TE} (hl:PE X l tl):PI X tg l (iList X.K tl):=by
 intro pins s σ H R I h;refine thn (hl pins s σ H _ I h) λv s1 zz=>?_
 obtain ⟨x,H1,I1,r1,q1⟩:=zz;obtain ⟨a,e,⟨xs,hq⟩,q⟩:=q1;subst e;cases r1
 obtain ⟨its,rv,p,hz⟩:=I1.list hq;refine wpAny_pyIter_list p.isList ?_;refine ⟨s1.heap.objs.size,[s1.heap.objs.size],_,_,H1,rfl,I1.kept (t':=s1.toks) λb o e=>Heap.get?_push_of_some _ e,turn_list a _,⟨_,Heap.get?_push_size _ rfl,rfl,rfl⟩,λb hb=>?_,q⟩
 have e:b=s1.heap.objs.size:=by simpa using hb
 subst e;exact I1.fpOk (Nat.le_refl _) (I1.hok.fresh (Nat.le_refl _))
theorem pi_tup {l:Expr} {tl:TE} (hl:PE X l tl):PI X tg l (iTup X.K tl):=by
 intro pins s σ H R I h;refine thn (hl pins s σ H _ I h) λv s1 zz=>?_
 obtain ⟨x,H1,I1,r1,q1⟩:=zz;obtain ⟨a,e,⟨xs,hq⟩,q⟩:=q1;subst e;cases r1
 obtain ⟨its,rv,p,hz⟩:=I1.tuple hq;refine wpAny_pyIter_tuple (show s1.heap.IsTuple a its.toArray from p) ?_;refine ⟨s1.heap.objs.size,[s1.heap.objs.size],_,_,H1,rfl,I1.kept (t':=s1.toks) λb o e=>Heap.get?_push_of_some _ e,turn_tuple a _,⟨_,Heap.get?_push_size _ rfl,rfl,rfl⟩,λb hb=>?_,q⟩
 have e:b=s1.heap.objs.size:=by simpa using hb
 subst e;exact I1.fpOk (Nat.le_refl _) (I1.hok.fresh (Nat.le_refl _))
theorem range_it {pins:List (Addr × Obj)} {σ:St} {H:Hp} {s:Shared} {R:It->Hp->Prop} {E:Value->Shared->Prop} {lo hi:Int} {t u v:Tok} {tk:Nat} (I:Inv X pins σ H s) (h1:-(2 ^ 62)<=lo) (h2:lo < 2 ^ 62) (h3:-(2 ^ 62)<=hi) (h4:hi < 2 ^ 62)
  (q:R (Itr lo (hi - lo).toNat) H):wpAny (model X.prog X.w) X.A (pyIter (.ref s.heap.objs.size)) (PIE X pins σ tg R) E {s with heap:=s.heap.push {cls:=.type "range",data:=.fields #[.int lo t,.int hi u,.int 1 v]},toks:=tk}:=by
 refine wpAny_pyIter_range (IsRange.new ..) (small_one h1 h2 h3 h4) ?_;have I1:Inv X pins σ H {s with heap:=s.heap.push {cls:=.type "range",data:=.fields #[.int lo t,.int hi u,.int 1 v]},toks:=tk}:=I.kept λb o e=>Heap.get?_push_of_some _ e
 refine ⟨(s.heap.push {cls:=.type "range",data:=.fields #[.int lo t,.int hi u,.int 1 v]}).objs.size,[(s.heap.push {cls:=.type "range",data:=.fields #[.int lo t,.int hi u,.int 1 v]}).objs.size],_,_,H,rfl,
  I1.kept (t':=tk) λb o e=>Heap.get?_push_of_some _ e,turn_range _ lo (hi - lo).toNat,?_,λb hb=>?_,q⟩
 ·have e1:lo+((0:Nat):Int) * 1=lo:=by simp
  have e2:(((hi - lo).toNat:Nat):Int) - ((0:Nat):Int)=Builtin.Range.rangeSize lo hi 1:=by rw [rangeSize_one]; split<;>omega
  show IsRangeIter _ _ (lo+((0:Nat):Int) * 1) ((((hi - lo).toNat:Nat):Int) - ((0:Nat):Int)) 1;rw [e1,e2];exact Heap.get?_push_size _ rfl
 ·have e:b=(s.heap.push {cls:=.type "range",data:=.fields #[.int lo t,.int hi u,.int 1 v]}).objs.size:=by simpa using hb
  subst e;exact I1.fpOk (Nat.le_refl _) (I1.hok.fresh (Nat.le_refl _))
noncomputable def iRng1 (ta:TA):TI:=λσ H R=>ta σ H λvs H1=>∃ j:Int,vs=[.int j]/\-(2 ^ 62)<=j/\j < 2 ^ 62/\R (Itr 0 j.toNat) H1
noncomputable def iRng2 (ta:TA):TI:=λσ H R=>ta σ H λvs H1=>∃ i j:Int,vs=[.int i,.int j]/\(-(2 ^ 62)<=i/\i < 2 ^ 62/\-(2 ^ 62)<=j/\j < 2 ^ 62)/\R (Itr i (j - i).toNat) H1
theorem yn {a:Expr} {ta:TA} {p pos:Pos} (hg:Gl X "range") (hm:X.mg "range"=none) (ha:PA X [a] ta) (hs:starEach [a] X.env=[(false,eval a X.env)]:=by rfl):PI X tg (.Call (.Name "range" p) [a] [] pos) (iRng1 ta):=by
 intro pins s σ H R I h;refine Call_ (YG I hg hm boot_range (PyProof.Rows.callWith_type1 (thn (ha pos pins s σ H _ I h) λus s1 ⟨vs,H1,I1,r1,q1⟩=>?_) hs rfl))
 obtain ⟨j,e,q1,q2,q⟩:=q1;subst e;cases r1 with
 |cons r rr=>
  cases rr
  obtain ⟨t,rfl⟩:=r;exact call_range_1 (range_it I1 (by omega) (by omega) q1 q2 (by simpa using q))
theorem Yy {a b:Expr} {ta:TA} {p pos:Pos} (hg:Gl X "range") (hm:X.mg "range"=none) (ha:PA X [a,b] ta) (hs:starEach [a,b] X.env=[(false,eval a X.env),(false,eval b X.env)]:=by rfl) (d8:starEach [b] X.env=[(false,eval b X.env)]:=by rfl) :
  PI X tg (.Call (.Name "range" p) [a,b] [] pos) (iRng2 ta):=by
 intro pins s σ H R I h;refine Call_ (YG I hg hm boot_range (PyProof.Rows.callWith_type1 (thn (ha pos pins s σ H _ I h) λus s1 ⟨vs,H1,I1,r1,q1⟩=>?_) (by rw [hs,d8]) (by rw [d8]; rfl)))
 obtain ⟨i,j,e,⟨q1,q2,q3,q4⟩,q⟩:=q1;subst e;cases r1 with
 |cons r rr=>
  cases rr with
  |cons r' rr=>
   cases rr
   obtain ⟨t,rfl⟩:=r;obtain ⟨t',rfl⟩:=r';exact call_range_2 (range_it I1 q1 q2 q3 q4 q)
noncomputable def tFor (wi:TI) (g:TG) (tb:TS):TS:=λD σ H=>wi σ H λJ H1=>∃ W:Nat->Nat->St->Hp->Prop,(∃ m,W 0 m σ H1)/\∀ i m σ H,W i m σ H->
 (J.stop i H/\D.nx σ H)\/(J.go i H/\∃ N:St->Hp->Prop,(∀ σ' H',N σ' H'->∃ m',m' < m/\W (i+1) m' σ' H')/\∀ x H',J.yld i H x H'->g x σ H' λσ2 H2=>tb {D with nx:=N,ct:=N,bk:=D.nx} σ2 H2)
noncomputable def pinsAt (fp:List Addr) (h:Heap):List (Addr × Obj):=fp.filterMap λb=>(h.get? b).map λo=>(b,o)
theorem ZD {fp:List Addr} {h:Heap} {b:Addr} {o:Obj} (hb:b∈fp) (e:h.get? b=some o):(b,o)∈pinsAt fp h:=List.mem_filterMap.mpr ⟨b,hb,by rw [e]; rfl⟩
theorem of_pinsAt {fp:List Addr} {h:Heap} {p:Addr × Obj} (hp:p∈pinsAt fp h):p.1∈fp/\h.get? p.1=some p.2:=by
 obtain ⟨b,hb,e⟩:=List.mem_filterMap.mp hp;cases q:h.get? b with
 |none=>rw [q] at e; cases e
 |some o=>
  rw [q] at e;have e':(b,o)=p:=Option.some.inj e;subst e';exact ⟨hb,q⟩
theorem Inv.pinned {pins:List (Addr × Obj)} {σ:St} {H:Hp} {s:Shared} {fp:List Addr} (I:Inv X pins σ H s) (hf:∀ b∈fp,FpOk X pins H b) (ho:∀ b∈fp,∃ o,s.heap.get? b=some o/\∀ v,o.data≠.cell v):Inv X (pins++pinsAt fp s.heap) σ H s:=
 I.pins_of λp hp=>(List.mem_append.mp hp).elim (λz=>I.pin p (List.mem_append_right _ z)) λz=>by
  obtain ⟨hb,e⟩:=of_pinsAt z;obtain ⟨f0,f1,f2,_⟩:=hf p.1 hb;obtain ⟨o,e',d⟩:=ho p.1 hb;rw [e] at e'; cases e'
  exact ⟨e,f0,f1,f2,d⟩
theorem Inv.unpinned {pins pl:List (Addr × Obj)} {σ:St} {H:Hp} {s:Shared} (I:Inv X (pins++pl) σ H s):Inv X pins σ H s:=I.pins_of λp hp=>I.pin p (List.mem_append_right _ (List.mem_append_left _ hp))
theorem yA {iter:Expr} {body:List Stmt} {wi:TI} {g:TG} {tb:TS} {pos:Pos} (hp:PassesOwn (model X.prog X.w) X.A X.env X.xe) (hc:X.calm=true) (hi:PI X tg iter wi) (hg:PG X tg g) (hb:PSs X body tb)
  (hs:∀ x,foldedSetIterable iter X.env x=pure x:=by intro _; rfl):PS X (.For tg iter body [] pos) (tFor wi g tb):=by
 intro pins s σ H D I h;refine wpAny_For (thn (hi pins s σ H _ I h) λv s1 h1=>thn h1 λitv s2 h2=>?_) hs
 obtain ⟨it,fp,tn,J,H2,e,I2,T,iX,f2,W,⟨m0,w0⟩,turn⟩:=h2;subst e;have stat:∀ {H':Hp},(∀ b∈fp,H' b=none)->∀ b∈fp,FpOk X pins H' b:=λhn b hb=>⟨hn b hb,(f2 b hb).2⟩
 refine codeAny_forLoop_any (λn s'=>∃ i σ' H',Inv X pins σ' H' s'/\tn i s'.heap/\(∀ b∈fp,H' b=none)/\W i n σ' H') ?_ m0 ⟨0,σ,H2,I2,iX,λb hb=>(f2 b hb).1,w0⟩
 rintro n s3 ⟨i,σ3,H3,I3,Gx,Gy,w3⟩;rcases turn i n σ3 H3 w3 with ⟨stop,qn⟩|⟨go,N,hN,step⟩
 ·refine wpAny_passesOwn hp (thn (T.done X rfl rfl rfl hc i pins s3 σ3 H3 X.xe I3 (stat Gy) Gx stop) λr s4 zz=>?_)
  obtain ⟨hr,I4⟩:=zz;subst hr;exact wpAny_execs_nil ⟨σ3,H3,I4,qn⟩
 ·refine wpAny_passesOwn hp (thn (T.item X rfl rfl rfl hc i pins s3 σ3 H3 X.xe I3 (stat Gy) Gx go) λr s4 zz=>?_)
  obtain ⟨u,hr,h4⟩:=zz;subst hr;refine wpAny_passesOwn hp (thn h4 λ_ s5 zz=>?_)
  obtain ⟨x,H5,I5,r5,y5,ql,Ka⟩:=zz;have Kb:=I5.pinned (stat Ka) (T.obj _ _ ql);refine wpAny_passesOwn hp (thn (hg _ s5 σ3 H5 x u _ Kb r5 (step x H5 y5)) λ_ s6 zz=>?_)
  obtain ⟨σ6,H6,I6,q6⟩:=zz;refine wpAny_passesOwn hp (thn (hb _ s6 σ6 H6 _ I6 q6) λf s7 q7=>?_)
  have again:∀ {σ7:St} {H7:Hp},Inv X (pins++pinsAt fp s5.heap) σ7 H7 s7->N σ7 H7->∃ m,m < n/\∃ i σ' H',Inv X pins σ' H' s7/\tn i s7.heap/\(∀ b∈fp,H' b=none)/\W i m σ' H':=λ{σ7 H7} I7 n7=>by
   obtain ⟨m',hm,w7⟩:=hN σ7 H7 n7;refine ⟨m',hm,i+1,σ7,H7,I7.unpinned,T.keep _ _ _ ql λb hb o e=>(I7.pin (b,o) (List.mem_append_right _ (List.mem_append_right _ (ZD hb e)))).1,λb hb=>?_,w7⟩
   obtain ⟨o,e,d⟩:=T.obj _ _ ql b hb;exact (I7.pin (b,o) (List.mem_append_right _ (List.mem_append_right _ (ZD hb e)))).2.1
  cases f with
  |next=>obtain ⟨σ7,H7,I7,n7⟩:=q7; exact again I7 n7
  |cont=>obtain ⟨σ7,H7,I7,n7⟩:=q7; exact again I7 n7
  |brk=>obtain ⟨σ7,H7,I7,q7⟩:=q7; exact ⟨σ7,H7,I7.unpinned,q7⟩
  |ret v=>obtain ⟨x7,σ7,H7,I7,r7,q7⟩:=q7; exact ⟨x7,σ7,H7,I7.unpinned,r7,q7⟩
end
theorem jS {K:PySem.W.Frag} {a:Addr} {xs:List V} {g:TG} {tb:TS} {D:Ends} {σ:St} {H:Hp} (Pv:Nat->St->Hp->Prop) (h0:Pv 0 σ H) (hl:∀ i σ H,i<=xs.length->Pv i σ H->SqL K H a xs)
  (hs:∀ i x σ H,xs[i]?=some x->Pv i σ H->g x σ H λσ2 H2=>tb {D with nx:=Pv (i+1),ct:=Pv (i+1),bk:=D.nx} σ2 H2) (hd:∀ σ H,Pv xs.length σ H->D.nx σ H) :
  ∃ W:Nat->Nat->St->Hp->Prop,(∃ m,W 0 m σ H)/\∀ i m σ H,W i m σ H->
   ((Itl K a).stop i H/\D.nx σ H)\/((Itl K a).go i H/\∃ N:St->Hp->Prop,(∀ σ' H',N σ' H'->∃ m',m' < m/\W (i+1) m' σ' H')/\∀ x H',(Itl K a).yld i H x H'->g x σ H' λσ2 H2=>tb {D with nx:=N,ct:=N,bk:=D.nx} σ2 H2):=by
 refine ⟨λi m σ H=>m=xs.length - i/\i<=xs.length/\Pv i σ H,⟨xs.length,by simp,Nat.zero_le _,h0⟩,?_⟩
 rintro i m σ H ⟨rfl,hi,p⟩;have q:=hl i σ H hi p;by_cases hlt:i < xs.length
 ·refine .inr ⟨⟨xs,xs[i],q,by simp [hlt]⟩,Pv (i+1),λσ' H' p'=>⟨xs.length - (i+1),by omega,rfl,hlt,p'⟩,λx H' y=>?_⟩
  obtain ⟨e,y⟩:=y;subst e;exact hs i x σ _ (y xs q) p
 ·have e:i=xs.length:=by omega
  subst e;exact .inl ⟨⟨xs,q,Nat.le_refl _⟩,hd σ H p⟩
theorem for_tup {K:PySem.W.Frag} {a:Addr} {xs:List V} {g:TG} {tb:TS} {D:Ends} {σ:St} {H:Hp} (Pv:Nat->St->Hp->Prop) (h0:Pv 0 σ H) (hl:∀ i σ H,i<=xs.length->Pv i σ H->SqT K H a xs)
  (hs:∀ i x σ H,xs[i]?=some x->Pv i σ H->g x σ H λσ2 H2=>tb {D with nx:=Pv (i+1),ct:=Pv (i+1),bk:=D.nx} σ2 H2) (hd:∀ σ H,Pv xs.length σ H->D.nx σ H) :
  ∃ W:Nat->Nat->St->Hp->Prop,(∃ m,W 0 m σ H)/\∀ i m σ H,W i m σ H->
   ((Itt K a).stop i H/\D.nx σ H)\/((Itt K a).go i H/\∃ N:St->Hp->Prop,(∀ σ' H',N σ' H'->∃ m',m' < m/\W (i+1) m' σ' H')/\∀ x H',(Itt K a).yld i H x H'->g x σ H' λσ2 H2=>tb {D with nx:=N,ct:=N,bk:=D.nx} σ2 H2):=by
 refine ⟨λi m σ H=>m=xs.length - i/\i<=xs.length/\Pv i σ H,⟨xs.length,by simp,Nat.zero_le _,h0⟩,?_⟩
 rintro i m σ H ⟨rfl,hi,p⟩;have q:=hl i σ H hi p;by_cases hlt:i < xs.length
 ·refine .inr ⟨⟨xs,xs[i],q,by simp [hlt]⟩,Pv (i+1),λσ' H' p'=>⟨xs.length - (i+1),by omega,rfl,hlt,p'⟩,λx H' y=>?_⟩
  obtain ⟨e,y⟩:=y;subst e;exact hs i x σ _ (y xs q) p
 ·have e:i=xs.length:=by omega
  subst e;exact .inl ⟨⟨xs,q,Nat.le_refl _⟩,hd σ H p⟩
theorem z7 {lo:Int} {n:Nat} {g:TG} {tb:TS} {D:Ends} {σ:St} {H:Hp} (Pv:Nat->St->Hp->Prop) (h0:Pv 0 σ H)
  (hs:∀ i σ H,i < n->Pv i σ H->g (.int (lo+i)) σ H λσ2 H2=>tb {D with nx:=Pv (i+1),ct:=Pv (i+1),bk:=D.nx} σ2 H2) (hd:∀ σ H,Pv n σ H->D.nx σ H) :
  ∃ W:Nat->Nat->St->Hp->Prop,(∃ m,W 0 m σ H)/\∀ i m σ H,W i m σ H->
   ((Itr lo n).stop i H/\D.nx σ H)\/((Itr lo n).go i H/\∃ N:St->Hp->Prop,(∀ σ' H',N σ' H'->∃ m',m' < m/\W (i+1) m' σ' H')/\∀ x H',(Itr lo n).yld i H x H'->g x σ H' λσ2 H2=>tb {D with nx:=N,ct:=N,bk:=D.nx} σ2 H2):=by
 refine ⟨λi m σ H=>m=n - i/\i<=n/\Pv i σ H,⟨n,by simp,Nat.zero_le _,h0⟩,?_⟩
 rintro i m σ H ⟨rfl,hi,p⟩;by_cases hlt:i < n
 ·refine .inr ⟨hlt,Pv (i+1),λσ' H' p'=>⟨n - (i+1),by omega,rfl,hlt,p'⟩,λx H' y=>?_⟩
  obtain ⟨e,y⟩:=y;subst e y;exact hs i σ _ hlt p
 ·have e:i=n:=by omega
  subst e;exact .inl ⟨Nat.le_refl _,hd σ H p⟩
end L2
namespace L2
open PySem PySem.Spec PyProof.Rows
noncomputable abbrev R2:=V->V->Hp->VK->Prop
noncomputable def OpR (X:Cx) (f:Value->Value->Sem Value) (r:R2):Prop:=
 ∀ (pins:List (Addr × Obj)) (s:Shared) (σ:St) (H:Hp) (x y:V) (v u:Value) (Q:VK),Inv X pins σ H s->RelV x v->RelV y u->r x y H Q->
  wpAny (model X.prog X.w) X.A (f v u) (EP X pins σ Q) X.xe s
noncomputable def UnR (X:Cx) (f:Value->Sem Value) (r:V->Hp->VK->Prop):Prop:=
 ∀ (pins:List (Addr × Obj)) (s:Shared) (σ:St) (H:Hp) (x:V) (v:Value) (Q:VK),Inv X pins σ H s->RelV x v->r x H Q->
  wpAny (model X.prog X.w) X.A (f v) (EP X pins σ Q) X.xe s
noncomputable def yx (X:Cx) (f:Value) (r:List V->Hp->VK->Prop):Prop:=
 ∀ (pins:List (Addr × Obj)) (s:Shared) (σ:St) (H:Hp) (xs:List V) (us:List Value) (Q:VK),Inv X pins σ H s->Vals xs us->r xs H Q->
  wpAny (model X.prog X.w) X.A (call f us) (EP X pins σ Q) X.xe s
noncomputable def tOp (r:R2) (ta tb:TE):TE:=λσ H Q=>ta σ H λx H1=>tb σ H1 λy H2=>r x y H2 Q
noncomputable def tUn (r:V->Hp->VK->Prop) (ta:TE):TE:=λσ H Q=>ta σ H λx H1=>r x H1 Q
noncomputable def rI (C:Int->Int->Prop) (g:Int->Int->V):R2:=λx y H Q=>∃ i j,x=.int i/\y=.int j/\C i j/\Q (g i j) H
noncomputable def rI0 (g:Int->Int->V):R2:=λx y H Q=>∃ i j,x=.int i/\y=.int j/\Q (g i j) H
noncomputable def rU (g:Int->V):V->Hp->VK->Prop:=λx H Q=>∃ i,x=.int i/\Q (g i) H
section
variable {X:Cx} {a b c:Expr} {ta tb tc:TE} {pos:Pos}
theorem binT (ha:PE X a ta) (hb:PE X b tb) {pins:List (Addr × Obj)} {s:Shared} {σ:St} {H:Hp} {R:V->V->Hp->Prop} (I:Inv X pins σ H s)
  (h:ta σ H λx H1=>tb σ H1 λy H2=>R x y H2) {Q:Value->Shared->Prop} {f:Value->Value->Sem Value}
  (hf:∀ v u s2 x y H2,Inv X pins σ H2 s2->RelV x v->RelV y u->R x y H2->wpAny (model X.prog X.w) X.A (f v u) Q X.xe s2) :
  wpAny (model X.prog X.w) X.A (eval a X.env) (λv s₁=>wpAny (model X.prog X.w) X.A (eval b X.env) (λu s₂=>wpAny (model X.prog X.w) X.A (f v u) Q X.xe s₂) X.xe s₁) X.xe s:=by
 refine thn (ha pins s σ H _ I h) λv s1 zz=>?_
 obtain ⟨x,H1,I1,r1,q1⟩:=zz;refine thn (hb pins s1 σ H1 _ I1 q1) λu s2 zz=>?_
 obtain ⟨y,H2,I2,r2,q2⟩:=zz;exact hf v u s2 x y H2 I2 r1 r2 q2
theorem zN {op:Operator} {r:R2} (ho:OpR X (binaryOp op) r) (ha:PE X a ta) (hb:PE X b tb):PE X (.BinOp a op b pos) (tOp r ta tb):=by
 intro pins s σ H Q I h;exact wpAny_BinOp (binT ha hb I h λv u s2 x y H2 I2 rx ry q=>ho pins s2 σ H2 x y v u Q I2 rx ry q)
theorem Yl {op:UnaryOp} {r:V->Hp->VK->Prop} (ho:UnR X (unaryOp op) r) (ha:PE X a ta):PE X (.UnaryOp op a pos) (tUn r ta):=by
 intro pins s σ H Q I h;exact UnaryOp_ (thn (ha pins s σ H _ I h) λv s1 ⟨x,H1,I1,r1,q1⟩=>ho pins s1 σ H1 x v Q I1 r1 q1)
theorem opI {f:Value->Value->Sem Value} {C:Int->Int->Prop} {g:Int->Int->Int}
  (rule:∀ (i j:Int) (t u:Tok) (s:Shared) (Q:Value->Shared->Prop) (E:Value->Shared->Prop),C i j->Q (.int (g i j) s.toks) {s with toks:=s.toks+1}->wpAny (model X.prog X.w) X.A (f (.int i t) (.int j u)) Q E s) :
  OpR X f (rI C λi j=>.int (g i j)):=by
 intro pins s σ H x y v u Q I rx ry h;obtain ⟨i,j,rfl,rfl,hc,q⟩:=h;obtain ⟨t,rfl⟩:=rx;obtain ⟨t',rfl⟩:=ry;exact rule i j t t' s _ _ hc ⟨.int (g i j),H,I.tok _,⟨_,rfl⟩,q⟩
theorem opI0 {f:Value->Value->Sem Value} {g:Int->Int->Int}
  (rule:∀ (i j:Int) (t u:Tok) (s:Shared) (Q:Value->Shared->Prop) (E:Value->Shared->Prop),Q (.int (g i j) s.toks) {s with toks:=s.toks+1}->wpAny (model X.prog X.w) X.A (f (.int i t) (.int j u)) Q E s) :
  OpR X f (rI0 λi j=>.int (g i j)):=by
 intro pins s σ H x y v u Q I rx ry h;obtain ⟨i,j,rfl,rfl,q⟩:=h;obtain ⟨t,rfl⟩:=rx;obtain ⟨t',rfl⟩:=ry;exact rule i j t t' s _ _ ⟨.int (g i j),H,I.tok _,⟨_,rfl⟩,q⟩
theorem opB0 {f:Value->Value->Sem Value} {g:Int->Int->Bool}
  (rule:∀ (i j:Int) (t u:Tok) (s:Shared) (Q:Value->Shared->Prop) (E:Value->Shared->Prop),Q (.bool (g i j)) s->wpAny (model X.prog X.w) X.A (f (.int i t) (.int j u)) Q E s) :
  OpR X f (rI0 λi j=>.bl (g i j)):=by
 intro pins s σ H x y v u Q I rx ry h;obtain ⟨i,j,rfl,rfl,q⟩:=h;obtain ⟨t,rfl⟩:=rx;obtain ⟨t',rfl⟩:=ry;exact rule i j t t' s _ _ ⟨.bl (g i j),H,I,rfl,q⟩
noncomputable def CPow (i j:Int):Prop:=0<=j/\j<=1000000/\i.natAbs < 2 ^ 64
theorem zm:OpR X (binaryOp .Add) (rI0 λi j=>.int (i+j)):=opI0 λ_ _ _ _ _ _ _ q=>add_int q
theorem jp:OpR X (binaryOp .Sub) (rI0 λi j=>.int (i - j)):=opI0 λ_ _ _ _ _ _ _ q=>sub_int q
theorem Ju:OpR X (binaryOp .Mod) (rI (λ_ j=>0 < j) λi j=>.int (i % j)):=opI λi j _ _ _ _ _ hc q=>by
 have h1:(0:Int) < j:=hc;exact mod_int' (by omega) (by rw [Int.fmod_eq_emod_of_nonneg i (by omega)]; exact q)
theorem op_pow:OpR X (binaryOp .Pow) (rI CPow λi j=>.int (i ^ j.toNat)):=opI λ_ _ _ _ _ _ _ hc q=>pow_int_small hc.1 hc.2.1 hc.2.2 q
theorem unI {f:Value->Sem Value} {g:Int->Int}
  (rule:∀ (i:Int) (t:Tok) (s:Shared) (Q:Value->Shared->Prop) (E:Value->Shared->Prop),Q (.int (g i) s.toks) {s with toks:=s.toks+1}->wpAny (model X.prog X.w) X.A (f (.int i t)) Q E s) :
  UnR X f (rU λi=>.int (g i)):=by
 intro pins s σ H x v Q I rx h;obtain ⟨i,rfl,q⟩:=h;obtain ⟨t,rfl⟩:=rx;exact rule i t s _ _ ⟨.int (g i),H,I.tok _,⟨_,rfl⟩,q⟩
theorem ZK:UnR X (unaryOp .USub) (rU λi=>.int (-i)):=unI λ_ _ _ _ _ q=>neg_int q
end
noncomputable def scal:V->V->Bool
 |.non,.non=>true|.non,.int _=>true|.int _,.non=>true|.non,.bl _=>true|.bl _,.non=>true|.non,.str _=>true|.str _,.non=>true
 |.int _,.int _=>true|.bl _,.bl _=>true|.str _,.str _=>true|.byt _,.byt _=>true
 |.int _,.str _=>true|.str _,.int _=>true|.bl _,.str _=>true|.str _,.bl _=>true
 |_,_=>false
noncomputable def rEq:R2:=λx y H Q=>scal x y=true/\Q (.bl (decide (x=y))) H
noncomputable def rNe:R2:=λx y H Q=>scal x y=true/\Q (.bl (!decide (x=y))) H
theorem dec_int {i j:Int}:decide (V.int i=V.int j)=(i == j):=by
 rw [Bool.eq_iff_iff];simp
theorem dec_bl {i j:Bool}:decide (V.bl i=V.bl j)=(i == j):=by
 rw [Bool.eq_iff_iff];simp
theorem dec_str {i j:Str}:decide (V.str i=V.str j)=(i == j):=by
 rw [Bool.eq_iff_iff];simp
theorem dec_byt {i j:Array UInt8}:decide (V.byt i=V.byt j)=(i.toList == j.toList):=by
 rw [Bool.eq_iff_iff];cases i
 cases j
 simp
section
variable {X:Cx} {a b c:Expr} {ta tb tc:TE} {pos:Pos}
theorem zk {pins:List (Addr × Obj)} {σ:St} {H:Hp} {s:Shared} {Q:VK} {k k':Bool} (I:Inv X pins σ H s) (q:Q (.bl k) H) (e:k=k'):EP X pins σ Q (.bool k') s:=by
 subst e;exact ⟨.bl k,H,I,rfl,q⟩
theorem ji:OpR X (compareOp .Eq) rEq:=by
 intro pins s σ H x y v u Q I rx ry h;obtain ⟨hs,q⟩:=h;cases x with
 |non=>
  cases rx
  cases y with
  |non=>cases ry; exact PySem.EqNone.eq_none_none (zk I q (by simp))
  |bl j=>cases ry; exact PySem.EqNone.eq_none_bool (zk I q (by simp))
  |int j=>obtain ⟨t',rfl⟩:=ry; exact PySem.EqNone.eq_none_int (zk I q (by simp))
  |str j=>obtain ⟨t',rfl⟩:=ry; exact PySem.EqNone.eq_none_str (zk I q (by simp))
  |_=>exact absurd (show false=true from hs) Bool.false_ne_true
 |bl i=>
  cases rx
  cases y with
  |non=>cases ry; exact PySem.EqNone.eq_bool_none (zk I q (by simp))
  |bl j=>cases ry; exact eq_bool (zk I q dec_bl)
  |str j=>obtain ⟨t',rfl⟩:=ry; exact PySem.EqMixed.eq_bool_str (zk I q (by simp))
  |_=>exact absurd (show false=true from hs) Bool.false_ne_true
 |int i=>
  obtain ⟨t,rfl⟩:=rx;cases y with
  |non=>cases ry; exact PySem.EqNone.eq_int_none (zk I q (by simp))
  |int j=>obtain ⟨t',rfl⟩:=ry; exact eq_int (zk I q dec_int)
  |str j=>obtain ⟨t',rfl⟩:=ry; exact PySem.EqMixed.eq_int_str (zk I q (by simp))
  |_=>exact absurd (show false=true from hs) Bool.false_ne_true
 |str i=>
  obtain ⟨t,rfl⟩:=rx;cases y with
  |non=>cases ry; exact PySem.EqNone.eq_str_none (zk I q (by simp))
  |bl j=>cases ry; exact PySem.EqMixed.eq_str_bool (zk I q (by simp))
  |int j=>obtain ⟨t',rfl⟩:=ry; exact PySem.EqMixed.eq_str_int (zk I q (by simp))
  |str j=>obtain ⟨t',rfl⟩:=ry; exact eq_str (zk I q dec_str)
  |_=>exact absurd (show false=true from hs) Bool.false_ne_true
 |byt i=>
  obtain ⟨t,rfl⟩:=rx;cases y with
  |byt j=>obtain ⟨t',rfl⟩:=ry; exact PySem.W.eq_bytes (zk I q dec_byt)
  |_=>exact absurd (show false=true from hs) Bool.false_ne_true
 |_=>cases y<;>exact absurd (show false=true from hs) Bool.false_ne_true
theorem Jt:OpR X (compareOp .NotEq) rNe:=by
 intro pins s σ H x y v u Q I rx ry h;obtain ⟨hs,q⟩:=h;cases x with
 |non=>
  cases rx
  cases y with
  |non=>cases ry; exact PySem.EqNone.ne_none_none (zk I q (by simp))
  |bl j=>cases ry; exact PySem.EqNone.ne_none_bool (zk I q (by simp))
  |int j=>obtain ⟨t',rfl⟩:=ry; exact PySem.EqNone.ne_none_int (zk I q (by simp))
  |str j=>obtain ⟨t',rfl⟩:=ry; exact PySem.EqNone.ne_none_str (zk I q (by simp))
  |_=>exact absurd (show false=true from hs) Bool.false_ne_true
 |bl i=>
  cases rx
  cases y with
  |non=>cases ry; exact PySem.EqNone.ne_bool_none (zk I q (by simp))
  |bl j=>cases ry; exact ne_bool (zk I q (congrArg not dec_bl))
  |str j=>obtain ⟨t',rfl⟩:=ry; exact PySem.EqMixed.ne_bool_str (zk I q (by simp))
  |_=>exact absurd (show false=true from hs) Bool.false_ne_true
 |int i=>
  obtain ⟨t,rfl⟩:=rx;cases y with
  |non=>cases ry; exact PySem.EqNone.ne_int_none (zk I q (by simp))
  |int j=>obtain ⟨t',rfl⟩:=ry; exact ne_int (zk I q (congrArg not dec_int))
  |str j=>obtain ⟨t',rfl⟩:=ry; exact PySem.EqMixed.ne_int_str (zk I q (by simp))
  |_=>exact absurd (show false=true from hs) Bool.false_ne_true
 |str i=>
  obtain ⟨t,rfl⟩:=rx;cases y with
  |non=>cases ry; exact PySem.EqNone.ne_str_none (zk I q (by simp))
  |bl j=>cases ry; exact PySem.EqMixed.ne_str_bool (zk I q (by simp))
  |int j=>obtain ⟨t',rfl⟩:=ry; exact PySem.EqMixed.ne_str_int (zk I q (by simp))
  |str j=>obtain ⟨t',rfl⟩:=ry; exact ne_str (zk I q (congrArg not dec_str))
  |_=>exact absurd (show false=true from hs) Bool.false_ne_true
 |byt i=>
  obtain ⟨t,rfl⟩:=rx;cases y with
  |byt j=>obtain ⟨t',rfl⟩:=ry; exact PySem.W.ne_bytes (zk I q (congrArg not dec_byt))
  |_=>exact absurd (show false=true from hs) Bool.false_ne_true
 |_=>cases y<;>exact absurd (show false=true from hs) Bool.false_ne_true
theorem Z5:OpR X (compareOp .Lt) (rI0 λi j=>.bl (decide (i < j))):=opB0 λ_ _ _ _ _ _ _ q=>lt_int q
theorem Jj:OpR X (compareOp .LtE) (rI0 λi j=>.bl (decide (i<=j))):=opB0 λ_ _ _ _ _ _ _ q=>le_int q
theorem op_gt:OpR X (compareOp .Gt) (rI0 λi j=>.bl (decide (j < i))):=opB0 λ_ _ _ _ _ _ _ q=>gt_int q
theorem YM:OpR X (compareOp .GtE) (rI0 λi j=>.bl (decide (j<=i))):=opB0 λ_ _ _ _ _ _ _ q=>ge_int q
theorem J4:OpR X (compareOp .Is) (λx y H Q=>y=.non/\Q (.bl (decide (x=.non))) H):=by
 intro pins s σ H x y v u Q I rx ry h;obtain ⟨rfl,q⟩:=h;cases ry
 refine is_none_gen (zk I q ?_);cases x<;>first
  | (cases rx; rfl)
  | (obtain ⟨t,rfl⟩:=rx; rfl)
theorem op_notN:OpR X (compareOp .IsNot) (λx y H Q=>y=.non/\Q (.bl (!decide (x=.non))) H):=by
 intro pins s σ H x y v u Q I rx ry h;obtain ⟨rfl,q⟩:=h;cases ry
 refine isnot_none_gen (zk I q ?_);cases x<;>first
  | (cases rx; rfl)
  | (obtain ⟨t,rfl⟩:=rx; rfl)
theorem zU (b:Expr) {op:CmpOp} (h:op≠.In:=by decide) (h2:op≠.NotIn:=by decide):behindInMarks op b=false:=by
 have e1:(op == CmpOp.In)=false:=by cases op<;>first|rfl|exact absurd rfl h
 have e2:(op == CmpOp.NotIn)=false:=by cases op<;>first|rfl|exact absurd rfl h2
 cases b<;>simp [behindInMarks,e1,e2]
theorem yy {op:CmpOp} {r:R2} (ho:OpR X (compareOp op) r) (ha:PE X a ta) (hb:PE X b tb) (hm:behindInMarks op b=false):PE X (.Compare a [op] [b] pos) (tOp r ta tb):=by
 intro pins s σ H Q I h;exact wpAny_Compare1 (binT ha hb I h λv u s2 x y H2 I2 rx ry q=>ho pins s2 σ H2 x y v u Q I2 rx ry q) hm
noncomputable def tTest (t:TE):TT:=λσ H Q=>t σ H λx H'=>∃ k,x=.bl k/\Q k H'
theorem zR {op:CmpOp} {r:R2} (ho:OpR X (compareOp op) r) (ha:PE X a ta) (hb:PE X b tb) (hm:behindInMarks op b=false):PT X (.Compare a [op] [b] pos) (tTest (tOp r ta tb)):=by
 intro pins s σ H Q I h
 refine wpAny_isTrue_Compare1 (thn (ha pins s σ H _ I h) λv s1 ⟨x,H1,I1,r1,q1⟩=>thn (hb pins s1 σ H1 _ I1 q1) λu s2 ⟨y,H2,I2,r2,q2⟩=>
  thn (ho pins s2 σ H2 x y v u _ I2 r1 r2 q2) λc s3 ⟨z,H3,I3,r3,k,e,q3⟩=>?_) hm
 subst e;cases r3
 exact wpAny_truthy_bool ⟨H3,I3,q3⟩
noncomputable def tChain (r r':R2) (ta tb tc:TE):TE:=λσ H Q=>ta σ H λx H1=>tb σ H1 λy H2=>r x y H2 λz H3=>∃ k,z=.bl k/\
 (if k=true then tc σ H3 λw' H4=>r' y w' H4 Q else Q (.bl false) H3)
theorem pe_chain {op op':CmpOp} {r r':R2} (ho:OpR X (compareOp op) r) (ho':OpR X (compareOp op') r') (ha:PE X a ta) (hb:PE X b tb) (hc:PE X c tc)
  (hm:lastMarks [op,op'] [b,c]=false:=by with_unfolding_all rfl):PE X (.Compare a [op,op'] [b,c] pos) (tChain r r' ta tb tc):=by
 intro pins s σ H Q I h
 refine Compare_chain (thn (ha pins s σ H _ I h) λv s1 ⟨x,H1,I1,r1,q1⟩=>chain_link (thn (hb pins s1 σ H1 _ I1 q1) λu s2 ⟨y,H2,I2,r2,q2⟩=>
  thn (ho pins s2 σ H2 x y v u _ I2 r1 r2 q2) λd s3 ⟨z,H3,I3,r3,k,e,q3⟩=>?_)) hm
 subst e;cases r3
 refine wpAny_truthy_bool ?_;cases k with
 |false=>exact ite_ff ⟨.bl false,H3,I3,rfl,q3⟩
 |true=>exact ite_tt (chain_last (thn (hc pins s3 σ H3 _ I3 q3) λw' s4 ⟨z',H4,I4,r4,q4⟩=>ho' pins s4 σ H4 y z' u w' Q I4 r2 r4 q4))
theorem pt_chain {op op':CmpOp} {r r':R2} (ho:OpR X (compareOp op) r) (ho':OpR X (compareOp op') r') (ha:PE X a ta) (hb:PE X b tb) (hc:PE X c tc)
  (hm:lastMarks [op,op'] [b,c]=false:=by with_unfolding_all rfl):PT X (.Compare a [op,op'] [b,c] pos) (tTest (tChain r r' ta tb tc)):=by
 intro pins s σ H Q I h
 refine isTrue_chain (thn (ha pins s σ H _ I h) λv s1 ⟨x,H1,I1,r1,q1⟩=>test_link (thn (hb pins s1 σ H1 _ I1 q1) λu s2 ⟨y,H2,I2,r2,q2⟩=>
  thn (ho pins s2 σ H2 x y v u _ I2 r1 r2 q2) λd s3 ⟨z,H3,I3,r3,k,e,q3⟩=>?_)) hm
 subst e;cases r3
 refine wpAny_truthy_bool ?_;cases k with
 |false=>
  obtain ⟨k',e',q'⟩:=q3;cases e'
  exact ite_ff ⟨H3,I3,q'⟩
 |true=>
  refine ite_tt (test_last (thn (hc pins s3 σ H3 _ I3 q3) λw' s4 ⟨z',H4,I4,r4,q4⟩=>thn (ho' pins s4 σ H4 y z' u w' _ I4 r2 r4 q4) λd' s5 zz=>?_))
  obtain ⟨z2,H5,I5,r5,k2,e2,q5⟩:=zz;subst e2;cases r5
  exact wpAny_truthy_bool ⟨H5,I5,q5⟩
theorem line63:(sizeLine:Nat) < 2 ^ 63:=by rw [sizeLine_eq]; decide
theorem Zn {x:V} {us:List Value} (r:Vals [x] us):∃ u,us=[u]/\RelV x u:=by
 cases r with
 |cons r1 r2=>cases r2; exact ⟨_,rfl,r1⟩
theorem vals2 {x y:V} {us:List Value} (r:Vals [x,y] us):∃ u w',us=[u,w']/\RelV x u/\RelV y w':=by
 cases r with
 |cons r1 r2=>
  cases r2 with
  |cons r3 r4=>cases r4; exact ⟨_,_,rfl,r1,r3⟩
theorem Yn:yx X (.builtin "abs") (λxs H Q=>∃ i,xs=[.int i]/\Q (.int (if i < 0 then -i else i)) H):=by
 intro pins s σ H xs us Q I r h;obtain ⟨i,rfl,q⟩:=h;obtain ⟨u,rfl,t,rfl⟩:=Zn r;exact call_abs_int λu tk=>⟨.int (if i < 0 then -i else i),H,I.tok _,⟨_,rfl⟩,q⟩
theorem call_max2 (hc:X.calm=true):yx X (.builtin "max") (λxs H Q=>∃ i j,xs=[.int i,.int j]/\Q (.int (if j > i then j else i)) H):=by
 intro pins s σ H xs us Q I r h;obtain ⟨i,j,rfl,q⟩:=h;obtain ⟨u,w',rfl,⟨t,rfl⟩,⟨t',rfl⟩⟩:=vals2 r;refine max_two_ints (I.ok.hd hc) λh' tk k=>⟨_,H,I.kept k,?_,q⟩
 by_cases hj:j > i
 ·rw [if_pos hj,if_pos hj]; exact ⟨_,rfl⟩
 ·rw [if_neg hj,if_neg hj]; exact ⟨_,rfl⟩
theorem call_min2 (hc:X.calm=true):yx X (.builtin "min") (λxs H Q=>∃ i j,xs=[.int i,.int j]/\Q (.int (if j < i then j else i)) H):=by
 intro pins s σ H xs us Q I r h;obtain ⟨i,j,rfl,q⟩:=h;obtain ⟨u,w',rfl,⟨t,rfl⟩,⟨t',rfl⟩⟩:=vals2 r;refine min_two_ints (I.ok.hd hc) λh' tk k=>⟨_,H,I.kept k,?_,q⟩
 by_cases hj:j < i
 ·rw [if_pos hj,if_pos hj]; exact ⟨_,rfl⟩
 ·rw [if_neg hj,if_neg hj]; exact ⟨_,rfl⟩
theorem call_int1:yx X (.type "int") (λxs H Q=>(∃ i,xs=[.int i]/\Q (.int i) H)\/∃ k,xs=[.bl k]/\Q (.int (if k then 1 else 0)) H):=by
 intro pins s σ H xs us Q I r h;rcases h with ⟨i,rfl,q⟩|⟨k,rfl,q⟩
 ·obtain ⟨u,rfl,t,rfl⟩:=Zn r;exact call_int_int ⟨.int i,H,I,⟨_,rfl⟩,q⟩
 ·obtain ⟨u,rfl,r1⟩:=Zn r;cases r1
  exact call_int_bool ⟨.int (if k then 1 else 0),H,I.tok _,⟨_,rfl⟩,q⟩
noncomputable def LenV (K:PySem.W.Frag) (x:V) (H:Hp) (n:Nat):Prop:=
 match x with
 |.str y=>y.length<=sizeLine/\n=y.length
 |.byt y=>y.size<=sizeLine/\n=y.size
 |.ref p=>(∃ xs,SqL K H p xs/\n=xs.length)\/∃ xs,SqT K H p xs/\n=xs.length
 |_=>False
theorem zo:yx X (.builtin "len") (λxs H Q=>∃ x n,xs=[x]/\LenV X.K x H n/\Q (.int n) H):=by
 intro pins s σ H xs us Q I r h;obtain ⟨x,n,rfl,e,q⟩:=h;obtain ⟨u,rfl,rx⟩:=Zn r;have hl:=line63;have hs:sizeLine=16777216:=sizeLine_eq;cases x with
 |str y=>
  obtain ⟨t,rfl⟩:=rx;obtain ⟨hy,e'⟩:y.length<=sizeLine/\n=y.length:=e;subst e';exact len_str (by omega) ⟨.int _,H,I.tok _,⟨_,rfl⟩,q⟩
 |byt y=>
  obtain ⟨t,rfl⟩:=rx;obtain ⟨hy,e'⟩:y.size<=sizeLine/\n=y.size:=e;subst e';exact PySem.W.len_bytes (by omega) ⟨.int _,H,I.tok _,⟨_,rfl⟩,q⟩
 |ref p=>
  cases rx
  have e':(∃ xs,SqL X.K H p xs/\n=xs.length)\/∃ xs,SqT X.K H p xs/\n=xs.length:=e;rcases e' with ⟨xs,hx,e'⟩|⟨xs,hx,e'⟩
  ·subst e';obtain ⟨its,r',pl,hz⟩:=I.list hx;have hlen:=r'.length;exact Calls.call_len_list pl.isList (by simp only [List.size_toArray]; omega) ⟨.int xs.length,H,I.tok _,⟨_,by simp only [List.size_toArray]; rw [hlen]⟩,q⟩
  ·subst e';obtain ⟨its,r',pl,hz⟩:=I.tuple hx;have hlen:=r'.length;exact len_tuple pl (by simp only [List.size_toArray]; omega) ⟨.int xs.length,H,I.tok _,⟨_,by simp only [List.size_toArray]; rw [hlen]⟩,q⟩
 |_=>exact (show False from e).elim
end
end L2
namespace L2
open PySem PySem.Spec PyProof.Rows
structure ObjM (h:Heap) (x dx C:Addr) (mA:Str->Option Value):Prop where
 obj:h.get? x=some (instObj C dx)
 ns:h.Ns1 dx mA
 ne:dx≠x
theorem lookIn_ns {h:Heap} {dx:Addr} {mA:Str->Option Value} (n:h.Ns1 dx mA):∃ od,h.get? dx=some od/\∀ name,lookIn name od=some (mA name):=by
 obtain ⟨o,es,ep,ho,hd,hk,_,hm⟩:=n;refine ⟨o,ho,λname=>?_⟩
 have e:=hm name;unfold nsFind findBy at e;rw [<- Array.find?_toList] at e;unfold lookIn;rw [hd];dsimp only;split
 ·rename_i y q
  rw [q] at e;exact congrArg some e
 ·rename_i q
  rw [q] at e;have a:es.toList.any (·.refKey)=false:=by
   rw [List.any_eq_false];intro y hy;obtain ⟨z,t,hkey⟩:=hk y (Array.mem_toList_iff.mp hy);simp [DictEntry.refKey,hkey]
  have a':¬ es.toList.any (·.refKey)=true:=by rw [a]; exact Bool.false_ne_true
  rw [if_neg a'];exact congrArg some e
theorem ObjM.look {h:Heap} {x dx C:Addr} {mA:Str->Option Value} (I:ObjM h x dx C mA):∃ od,InstAt h x (instObj C dx) C (some od)/\∀ name,lookIn name od=some (mA name):=
 let ⟨od,ho,hl⟩:=lookIn_ns I.ns
 ⟨od,⟨I.obj,rfl,rfl,ho⟩,hl⟩
section
variable {prog:Program} {w:World} {A:Around} {E:Value->Shared->Prop} {s:Shared} {K:PySem.W.Frag} {x dx C f:Addr} {mA:Str->Option Value} {name:Str} {v:Value}
theorem get_map {expr:Bool} {Q:Value->Shared->Prop} (X:K.In s.heap) (I:ObjM s.heap x dx C mA) (hg:plainGet K C name=true) (hh:hasDictIn K C=true)
  (ha:findIn K (.ref C) name=some none) (hv:mA name=some v) (hv':handedIn v=true) (h:Q v {s with toks:=s.toks+1}) :
  wpAny (model prog w) A (getAttr (.ref x) name expr) Q E s:=by
 obtain ⟨od,J,hl⟩:=I.look;exact PySem.W.get_value X J (plainGet_of hg).1 (PySem.W.findObj_own hh ha rfl (by rw [hl,hv])) hv' h
theorem get_meth {pl:Sem Bool} {Q:Value × List Value->Shared->Prop} (X:K.In s.heap) (I:ObjM s.heap x dx C mA) (hg:plainGet K C name=true)
  (hf:findIn K (.ref C) name=some (some (.ref f))) (ht:isFn K (.ref f)=true) (hv:mA name=none) (h:Q (.ref f,[.ref x]) s) :
  wpAny (model prog w) A (getMethod (.ref x) name pl) Q E s:=by
 obtain ⟨od,J,hl⟩:=I.look;exact PySem.W.method_fn X J (plainGet_of hg).1 (plainGet_of hg).2 hf (beq_iff_eq.mp ht) (by show (lookIn name od).map (·.isSome)=some false; rw [hl,hv]; rfl) h
theorem set_map {ns:List Str} {Q:Unit->Shared->Prop} (X:K.In s.heap) (I:ObjM s.heap x dx C mA)
  (hs:findIn K (.ref C) "__setattr__"=some (some (.builtin "object.__setattr__"))) (hp:plainOver K C=true) (ht:takerIn K C name=some none) (hh:hasDictIn K C=true)
  (hw:PySem.Within mA ns) (hsz:ns.length<=sizeLine)
  (h:∀ h',ObjM h' x dx C (λy=>if y=name then some v else mA y)->Heap.SameBut dx s.heap h'->Q () {s with heap:=h',toks:=s.toks+2}) :
  wpAny (model prog w) A (setAttr (.ref x) name v) Q E s:=by
 obtain ⟨od,J,hl⟩:=I.look;refine set_plain X J hs (PySem.W.osa_open (s:={s with toks:=s.toks+1}) (r:=none) X J hp ht λb=>?_)
 obtain ⟨cd,hc,hd'⟩:=any_some hh;have hx:s.heap.get? x=some ⟨.ref C,some dx,.plain,#[]⟩:=I.obj;refine wpAny_bind (wpAny_pure (wpAny_bind (wpAny_bind (wpAny_loadPart hx (wpAny_bind (PySem.W.Looks.here (s:={s with toks:=s.toks+1}) (looks_clsIn X hc) ?_))))))
 rw [hd'];refine wpAny_pure (a:=some dx) (wpAny_bind (wpAny_pure (wpAny_bind ?_)));refine wpAny_nsSet1 (s:={s with toks:=s.toks+1}) I.ns λh' gf d8=>?_
 obtain ⟨oD,esD,epD,hoD,hdD,hcD⟩:=gf.count (PySem.Within.cons name v hw);refine wpAny_bind (wpAny_lookBehind hoD (by rw [hdD]; exact pastItsLine_dict (Nat.le_trans hcD (by rw [List.length_cons]; omega))) ?_)
 exact wpAny_pure (h _ ⟨(d8.2 _ (Ne.symm I.ne)).trans I.obj,gf,I.ne⟩ d8)
theorem make_map {R:Result->Shared->Prop} {vs:List Value} {kw:List (Str × Value)} (X:K.In s.heap) (hm:makesIn K C=true)
  (hi:findIn K (.ref C) "__init__"=some (some (.ref f))) (hf:typeIn K (.ref f)=some (.type "function"))
  (h:codeAny (model prog w) (A.under (.builtin "type.__call__" ⟨.ref C::vs,kw⟩)) (.call (.ref f) ⟨.ref (s.heap.objs.size+1)::vs,kw⟩) (PySem.W.InitBack (s.heap.objs.size+1) R)
   {s with heap:=(s.heap.push emptyDict).push (instObj C s.heap.objs.size)}) :
  codeAny (model prog w) A (.call (.ref C) ⟨vs,kw⟩) R s:=by
 obtain ⟨hh,g,d,t,os⟩:=s;exact PySem.W.make_core (PySem.W.makes_of X hm) (looks_findIn X hi) (λself=>PySem.W.bind_fn X self hf) (.inl rfl) h
end
noncomputable def putF (f:Str) (v:V):List (Str × V)->List (Str × V)
 |[]=>[(f,v)]
 | (g,x)::r=>if g=f then (g,v)::r else (g,x)::putF f v r
theorem Zb (f g:Str) (v:V):∀ fs:List (Str × V),(putF f v fs).lookup g=if g=f then some v else fs.lookup g
 |[]=>by
  show List.lookup g [(f,v)]=_;by_cases h:g=f
  ·have hb:(g == f)=true:=beq_iff_eq.mpr h;simp only [List.lookup,hb,if_pos h]
  ·have hb:(g == f)=false:=beq_eq_false_iff_ne.mpr h;simp only [List.lookup,hb,if_neg h]
 | (k,x)::r=>by
  have ih:=Zb f g v r;rw [show putF f v ((k,x)::r)=(if k=f then (k,v)::r else (k,x)::putF f v r) from rfl]
  by_cases hk:k=f
  ·rw [if_pos hk];by_cases h:g=k
   ·have hb:(g == k)=true:=beq_iff_eq.mpr h;simp only [List.lookup,hb,if_pos (h.trans hk)]
   ·have hb:(g == k)=false:=beq_eq_false_iff_ne.mpr h;simp only [List.lookup,hb,if_neg (λe:g=f=>h (e.trans hk.symm))]
  ·rw [if_neg hk];by_cases h:g=k
   ·have hb:(g == k)=true:=beq_iff_eq.mpr h;simp only [List.lookup,hb,if_neg (λe:g=f=>hk (h.symm.trans e))]
   ·have hb:(g == k)=false:=beq_eq_false_iff_ne.mpr h;simp only [List.lookup,hb];exact ih
theorem jz (f:Str) (v:V):∀ fs:List (Str × V),f∈(putF f v fs).map (·.1)/\∀ g,g∈fs.map (·.1)->g∈(putF f v fs).map (·.1)
 |[]=>⟨by simp [putF],λg h=>by simp at h⟩
 | (k,x)::r=>by
  obtain ⟨i1,i2⟩:=jz f v r;rw [show putF f v ((k,x)::r)=(if k=f then (k,v)::r else (k,x)::putF f v r) from rfl]
  by_cases hk:k=f
  ·rw [if_pos hk];subst hk;exact ⟨by simp,λg h=>by simpa using h⟩
  ·rw [if_neg hk];refine ⟨?_,λg h=>?_⟩
   ·rw [List.map_cons];exact List.mem_cons_of_mem _ i1
   ·rw [List.map_cons] at h ⊢;rcases List.mem_cons.mp h with e|e
    ·exact List.mem_cons.mpr (.inl e)
    ·exact List.mem_cons_of_mem _ (i2 g e)
theorem JI (f:Str) (v:V):∀ fs:List (Str × V),(putF f v fs).length<=fs.length+1
 |[]=>by simp [putF]
 | (k,x)::r=>by
  have ih:=JI f v r;rw [show putF f v ((k,x)::r)=(if k=f then (k,v)::r else (k,x)::putF f v r) from rfl]
  by_cases hk:k=f
  ·rw [if_pos hk,List.length_cons,List.length_cons]; omega
  ·rw [if_neg hk,List.length_cons,List.length_cons]; omega
theorem RelO.some_of {v:V} {o:Option Value} (r:RelO (some v) o):∃ u,o=some u/\RelV v u:=by
 cases o with
 |none=>exact (show False from r).elim
 |some u=>exact ⟨u,rfl,r⟩
theorem RelO.none_of {o:Option Value} (r:RelO none o):o=none:=by
 cases o with
 |none=>rfl
 |some u=>exact (show False from r).elim
theorem handed_of {v:V} {u:Value} (r:RelV v u):handedIn u=true:=by
 cases v with
 |non=>cases (show u=Value.none from r); rfl
 |bl b=>cases (show u=Value.bool b from r); rfl
 |int i=>obtain ⟨t,e⟩:=(show ∃ t,u=Value.int i t from r); cases e; rfl
 |str x=>obtain ⟨t,e⟩:=(show ∃ t,u=Value.str x t from r); cases e; rfl
 |byt b=>obtain ⟨t,e⟩:=(show ∃ t,u=Value.bytes b t from r); cases e; rfl
 |flt b=>obtain ⟨t,e⟩:=(show ∃ t,u=Value.float b t from r); cases e; rfl
 |ref a=>cases (show u=Value.ref a from r); rfl
 |ty n=>cases (show u=Value.type n from r); rfl
section
variable {P:Program} {w:World} {H H':Hp} {h h':Heap} {a C dx:Addr} {fs fs':List (Str × V)}
theorem JT (hok:HOk P w H h) (e:H a=some (.ins C dx fs)):∃ mA,ObjM h a dx C mA/\(∀ f,RelO (fs.lookup f) (mA f))/\PySem.Within mA (fs.map (·.1))/\fs.length<=1000/\H dx=some (.own a):=by
 obtain ⟨d,z,ne,ob,mA,n,r,q⟩:=(show zg P w H h a (.ins C dx fs) from hok a _ e);exact ⟨mA,⟨ob,n,ne⟩,r,q,z,d⟩
end
structure Cls (K:PySem.W.Frag) (C:Addr):Prop where
 pg:plainGet K C Str.empty=true
 hd:hasDictIn K C=true
 po:plainOver K C=true
 sa:findIn K (.ref C) "__setattr__"=some (some (.builtin "object.__setattr__"))
theorem Cls.get {K:PySem.W.Frag} {C:Addr} (c:Cls K C) (f:Str):plainGet K C f=true:=c.pg
noncomputable def yB (K:PySem.W.Frag) (C:Addr) (f:Str):Prop:=findIn K (.ref C) f=some none
theorem yB.taker {K:PySem.W.Frag} {C:Addr} {f:Str} (n:yB K C f):takerIn K C f=some none:=by
 unfold takerIn;rw [show findIn K (.ref C) f=some none from n];rfl
structure Meth (K:PySem.W.Frag) (C:Addr) (m:Str) (f:Addr):Prop where
 at_:findIn K (.ref C) m=some (some (.ref f))
 fn:isFn K (.ref f)=true
 kp:keepIn K (.ref f)=true
section
variable {X:Cx} {pins:List (Addr × Obj)} {σ:St} {H:Hp} {s:Shared} {a C dx:Addr} {fs:List (Str × V)} {f:Str} {v:V} {A:Around} {E:Value->Shared->Prop}
theorem Jk {b:Bool} {Q:Value->Shared->Prop} (I:Inv X pins σ H s) (e:H a=some (.ins C dx fs)) (c:Cls X.K C) (n:yB X.K C f) (l:fs.lookup f=some v)
  (h:∀ u s',Inv X pins σ H s'->RelV v u->Q u s'):wpAny (model X.prog X.w) A (getAttr (.ref a) f b) Q E s:=by
 obtain ⟨mA,O,r,_,_,_⟩:=JT I.hok e;obtain ⟨u,hu,ru⟩:=RelO.some_of (v:=v) (o:=mA f) (by rw [<- l]; exact r f)
 exact get_map I.kIn O (c.get f) c.hd n hu (handed_of ru) (h u _ (I.tok _) ru)
theorem J3 {m:Str} {g:Addr} {pl:Sem Bool} {Q:Value × List Value->Shared->Prop} (I:Inv X pins σ H s) (e:H a=some (.ins C dx fs)) (c:Cls X.K C) (k:Meth X.K C m g) (l:fs.lookup m=none)
  (h:Q (.ref g,[.ref a]) s):wpAny (model X.prog X.w) A (getMethod (.ref a) m pl) Q E s:=by
 obtain ⟨mA,O,r,_,_,_⟩:=JT I.hok e;have hn:mA m=none:=RelO.none_of (by rw [<- l]; exact r m)
 exact get_meth I.kIn O (c.get m) k.at_ k.fn hn h
theorem Ji {y:V} {u:Value} {Q:Unit->Shared->Prop} (I:Inv X pins σ H s) (e:H a=some (.ins C dx fs)) (c:Cls X.K C) (n:yB X.K C f) (hl:fs.length < 1000) (ry:RelV y u)
  (h:∀ s',Inv X pins σ (upd H a (.ins C dx (putF f y fs))) s'->Q () s'):wpAny (model X.prog X.w) A (setAttr (.ref a) f u) Q E s:=by
 obtain ⟨mA,O,r,wi,_,ho⟩:=JT I.hok e;have hz:(fs.map (·.1)).length<=sizeLine:=by rw [List.length_map,sizeLine_eq]; omega
 refine set_map I.kIn O c.sa c.po n.taker c.hd wi hz λh' O' sb=>h _ ?_
 have hd:∃ o,h'.get? dx=some o:=let ⟨o,_,_,e',_⟩:=O'.ns; ⟨o,e'⟩;refine I.write (x:=a) (e:=dx) (by rw [e]; exact True.intro) (.inr ho) (λb q hb z=>(sb.2 b hb).trans z) hd ?_
 refine ⟨by rw [zV O.ne]; exact ho,?_,O.ne,O'.obj,_,O'.ns,λg=>?_,λg hg=>?_⟩
 ·have:=JI f y fs; omega
 ·show RelO ((putF f y fs).lookup g) (if g=f then some u else mA g)
  rw [Zb];by_cases q:g=f
  ·rw [if_pos q,if_pos q]; exact ry
  ·rw [if_neg q,if_neg q]; exact r g
 ·by_cases q:g=f
  ·rw [q]; exact (jz f y fs).1
  ·refine (jz f y fs).2 g (wi g λz=>hg ?_)
   show (if g=f then some u else mA g)=none
   rw [if_neg q]; exact z
theorem Inv.made (I:Inv X pins σ H s):Inv X pins σ (upd (upd H s.heap.objs.size (.own (s.heap.objs.size+1))) (s.heap.objs.size+1) (.ins C s.heap.objs.size []))
  {s with heap:=(s.heap.push emptyDict).push (instObj C s.heap.objs.size)}:=by
 have e1:(s.heap.push emptyDict).get? s.heap.objs.size=some emptyDict:=Heap.get?_push_size s.heap rfl;have e2:((s.heap.push emptyDict).push (instObj C s.heap.objs.size)).get? (s.heap.objs.size+1)=some (instObj C s.heap.objs.size):=by
  have:=Heap.get?_push_size (s.heap.push emptyDict) (o:=instObj C s.heap.objs.size) rfl;rwa [Heap.size_push] at this
 have e3:(s.heap.push emptyDict).Ns s.heap.objs.size (λ_=>none):=⟨emptyDict,#[],_,e1,rfl,(λe he=>absurd he (by simp)),λ_=>rfl⟩
 have I1:=I.laid (a:=s.heap.objs.size) (o:=.own (s.heap.objs.size+1)) (h':=s.heap.push emptyDict) (t':=s.toks) (λb u q=>Heap.get?_push_of_some _ q) (Nat.le_refl _) ⟨_,e1⟩
 refine I1.laid (a:=s.heap.objs.size+1) (o:=.ins C s.heap.objs.size []) (t':=s.toks) (λb u q=>Heap.get?_push_of_some _ q) (Nat.le_of_eq (Heap.size_push _ _)) ?_
 have ne:s.heap.objs.size≠s.heap.objs.size+1:=Nat.ne_of_lt (Nat.lt_succ_self _);refine ⟨by rw [zV ne,zb],Nat.zero_le _,ne,e2,λ_=>none,(Heap.Ns1.of_empty e3).at λo q=>Heap.get?_push_of_some _ q,λ_=>True.intro,λy hy=>absurd rfl hy⟩
theorem attr_of {prog:Program} {w:World} {env:Env} {e:Expr} {f:Str} {pos:Pos} {s:Shared} {Q:Value->Shared->Prop} (hb:attributeBase e f env (eval e env)=eval e env)
  (h:wpAny (model prog w) A (eval e env) (λo s₁=>wpAny (model prog w) A (getAttr o f true) Q E s₁) E s):wpAny (model prog w) A (eval (.Attribute e f pos) env) Q E s:=
 Attribute_any_ h (by rw [arm_eval_Attribute,hb])
end
noncomputable def InOp (X:Cx) (op:Operator) (rd:V->V->Hp->VK->Prop):Prop:=
 ∀ (pins:List (Addr × Obj)) (s:Shared) (σ:St) (H:Hp) (x y:V) (u v:Value) (Q:VK),Inv X pins σ H s->RelV x u->RelV y v->rd x y H Q->wpAny (model X.prog X.w) X.A (inplaceOp op u v) (EP X pins σ Q) X.xe s
section
variable {X:Cx} {o e value:Expr} {f:Str} {pos pos' tpos:Pos} {ta tv:TE}
noncomputable def rAdd:V->V->Hp->VK->Prop:=λx y H Q=>∃ i j,x=.int i/\y=.int j/\Q (.int (i+j)) H
theorem in_add:InOp X .Add rAdd:=by
 rintro pins s σ H x y u v Q I rx ry ⟨i,j,rfl,rfl,q⟩;obtain ⟨t,rfl⟩:=(show ∃ t,u=Value.int i t from rx);obtain ⟨t',rfl⟩:=(show ∃ t',v=Value.int j t' from ry);exact PyProof.Rows.iadd_int ⟨.int (i+j),H,I.tok _,⟨_,rfl⟩,q⟩
end
section
variable {X:Cx} {pins:List (Addr × Obj)} {σ:St} {H:Hp} {s:Shared} {A:Around} {E:Value->Shared->Prop} {Q:Value->Shared->Prop} {c:Value} {b:Bool}
inductive TyOf (K:PySem.W.Frag) (H:Hp):V->Value->Prop where
 |non:TyOf K H .non (.type "NoneType")
 |bl (x:Bool):TyOf K H (.bl x) (.type "bool")
 |int (i:Int):TyOf K H (.int i) (.type "int")
 |str (x:Str):TyOf K H (.str x) (.type "str")
 |flt (x:UInt64):TyOf K H (.flt x) (.type "float")
 |lst {a:Addr} {xs:List V} (e:H a=some (.lst xs)):TyOf K H (.ref a) (.type "list")
 |frz {a:Addr} {o:Obj} {xs:List V} (e:H a=some (.frz o (.lst xs))):TyOf K H (.ref a) (.type "list")
 |tup {a:Addr} {xs:List V} (e:H a=some (.tup xs)):TyOf K H (.ref a) (.type "tuple")
 |dK {a:Addr} {kvs:List (Key × V)} (e:H a=some (.dK kvs)):TyOf K H (.ref a) (.type "dict")
 |dT {a:Addr} {kvs:List (List Key × V)} (e:H a=some (.dT kvs)):TyOf K H (.ref a) (.type "dict")
 |ins {a C dx:Addr} {fs:List (Str × V)} (e:H a=some (.ins C dx fs)) (cl:Cls K C) (ha:findIn K (.ref C) "__class__"=some (some (.builtin "object.__class__")))
   (hn:specialIn K (.builtin "object.__class__") "__get__"=some (some (.builtin "getset_descriptor.__get__"))) (htk:takesIn K (.builtin "object.__class__")=some true)
   (hm:mroIn K C (.type "object")=some true):TyOf K H (.ref a) (.ref C)
theorem isinst_ok {x:V} {u t:Value} (I:Inv X pins σ H s) (rx:RelV x u) (ty:TyOf X.K H x t) (e:kitOne X.K t c=some b) (h:∀ tk,Q (.bool b) {s with toks:=tk}) :
  wpAny (model X.prog X.w) A (call (.builtin "isinstance") [u,c]) Q E s:=by
 cases ty with
 |non=>cases (show u=Value.none from rx); exact kia_one PySem.W.kitx_none I.kIn True.intro e (λz=>nomatch z) h
 |bl y=>cases (show u=Value.bool y from rx); exact kia_one PySem.W.kitx_bool I.kIn True.intro e (λz=>nomatch z) h
 |int i=>obtain ⟨t,q⟩:=(show ∃ t,u=Value.int i t from rx); cases q; exact kia_one PySem.W.kitx_int I.kIn True.intro e (λz=>nomatch z) h
 |str y=>obtain ⟨t,q⟩:=(show ∃ t,u=Value.str y t from rx); cases q; exact kia_one PySem.W.kitx_str I.kIn True.intro e (λz=>nomatch z) h
 |flt y=>obtain ⟨t,q⟩:=(show ∃ t,u=Value.float y t from rx); cases q; exact kia_one PySem.W.kitx_float I.kIn True.intro e (λz=>nomatch z) h
 |@lst a xs ea=>
  cases (show u=Value.ref a from rx)
  obtain ⟨_,_,n,_,h1⟩:=(show zg X.prog X.w H s.heap a (.lst xs) from I.hok a _ ea);exact kia_one PySem.W.kitx_list I.kIn ⟨_,h1,rfl⟩ e (λz=>nomatch z) h
 |@frz a ob xs ea=>
  cases (show u=Value.ref a from rx)
  obtain ⟨_,_,_,n,_,h1⟩:=(show zg X.prog X.w H s.heap a (.frz ob (.lst xs)) from I.hok a _ ea);exact kia_one PySem.W.kitx_list I.kIn ⟨_,h1,rfl⟩ e (λz=>nomatch z) h
 |@tup a xs ea=>
  cases (show u=Value.ref a from rx)
  obtain ⟨_,_,_,p⟩:=(show zg X.prog X.w H s.heap a (.tup xs) from I.hok a _ ea);obtain ⟨o,h1,h2,_⟩:=p;exact kia_one PySem.W.kitx_tuple I.kIn ⟨o,h1,h2⟩ e (λz=>nomatch z) h
 |@dK a kvs ea=>
  cases (show u=Value.ref a from rx)
  obtain ⟨_,_,vs,_,p⟩:=(show zg X.prog X.w H s.heap a (.dK kvs) from I.hok a _ ea);obtain ⟨o,es,ep,h1,h2,_⟩:=p;exact kia_one PySem.W.kitx_dict I.kIn ⟨o,h1,h2.1⟩ e (λz=>nomatch z) h
 |@dT a kvs ea=>
  cases (show u=Value.ref a from rx)
  obtain ⟨_,_,xs,_,o,es,ep,h1,h2,_⟩:=(show zg X.prog X.w H s.heap a (.dT kvs) from I.hok a _ ea);exact kia_one PySem.W.kitx_dict I.kIn ⟨o,h1,h2.1⟩ e (λz=>nomatch z) h
 |@ins a C dx fs ea cl ha hn htk hm=>
  cases (show u=Value.ref a from rx)
  obtain ⟨mA,O,_⟩:=JT I.hok ea;obtain ⟨od,J,_⟩:=O.look;exact kia_one (PySem.W.kitx_own (cl.get _) cl.hd ha hn htk hm) I.kIn J e (λz=>nomatch z) h
end
end L2
namespace L2
open PySem PySem.Spec PyProof.Rows
structure Room (k:Nat) (A:Around):Prop where
 hd:A.handled=none
 dp:A.depth+3 * k+5 < recursionLimit
 un:A.units+16 * k+200 < cLine
theorem Room.mono {j k:Nat} {A:Around} (r:Room k A) (h:j<=k):Room j A:=⟨r.hd,by have:=r.dp; omega,by have:=r.un; omega⟩
theorem Room.deeper {k:Nat} {A:Around} (r:Room (k+1) A) (env:Env):Room k (A.deeper env):=
 ⟨r.hd,by have:=r.dp; show A.depth+1+3 * k+5 < _; omega,by have:=r.un; show A.units+3+16 * k+200 < _; omega⟩
theorem make_depth {A:Around} {C:Addr} {us:List Value} {kw:List (Str × Value)}:(A.under (.builtin "type.__call__" ⟨.ref C::us,kw⟩)).depth=A.depth+1:=by
 first|rfl|simp [Around.under,Code.weight,Code.isCreation,Code.isGuard,Code.isCaller,Code.frames,Code.isFrame,guardIds]
theorem make_units {A:Around} {C:Addr} {us:List Value} {kw:List (Str × Value)}:(A.under (.builtin "type.__call__" ⟨.ref C::us,kw⟩)).units=A.units+1:=by
 first|rfl|simp [Around.under,Code.cUnits,Code.frames,Code.isFrame]
theorem Room.make {k:Nat} {A:Around} (r:Room (k+1) A) (C:Addr) (us:List Value) (kw:List (Str × Value)):Room k (A.under (.builtin "type.__call__" ⟨.ref C::us,kw⟩)):=
 ⟨r.hd,by have:=r.dp; rw [make_depth]; omega,by have:=r.un; rw [make_units]; omega⟩
theorem Room.depth {k:Nat} {A:Around} (r:Room k A):A.depth < recursionLimit:=by have:=r.dp; omega
noncomputable def tNil:TA:=λ_ H Q=>Q [] H
noncomputable def yV (ta:TE) (tr:TA):TA:=λσ H Q=>ta σ H λx H1=>tr σ H1 λxs H2=>Q (x::xs) H2
section
variable {X:Cx} {e:Expr} {es:List Expr} {te:TE} {t:TA} {pos:Pos}
theorem zB:PA X [] tNil:=λ_ _ _ _ H Q I h=>Calls.spliced_nil ⟨[],H,I,.nil,h⟩
theorem zA (ha:PE X e te) (hr:PA X es t) (hs:starEach (e::es) X.env=(false,eval e X.env)::starEach es X.env:=by rfl):PA X (e::es) (yV te t):=by
 intro pos pins s σ H Q I h;rw [hs];show wpAny _ _ (spliced ((false,eval e X.env)::backTo pos (starEach es X.env))) _ _ s;refine Calls.spliced_cons (thn (ha pins s σ H _ I h) λu s1 zz=>?_)
 obtain ⟨x,H1,I1,r1,q1⟩:=zz;exact thn (hr pos pins s1 σ H1 _ I1 q1) λus s2 ⟨xs,H2,I2,r2,q2⟩=>⟨x::xs,H2,I2,.cons r1 r2,q2⟩
noncomputable def tTup (t:TA):TE:=λσ H Q=>t σ H λxs H1=>xs.length<=sizeLine/\∀ p,H1 p=none->Q (.ref p) (upd H1 p (.tup xs))
noncomputable def tLst (t:TA):TE:=λσ H Q=>t σ H λxs H1=>xs.length<=sizeLine/\∀ p,H1 p=none->Q (.ref p) (upd H1 p (.lst xs))
theorem zP {x1} (h:PA X es t):PE X (.Tuple es x1 pos) (tTup t):=by
 intro pins s σ H Q I hq;refine wpAny_Tuple_spliced (thn (h pos pins s σ H _ I hq) λus s1 ⟨xs,H1,I1,r,z,q⟩=>⟨by rw [<- r.length]; exact z,?_⟩)
 have hf:H1 s1.heap.objs.size=none:=I1.hok.fresh (Nat.le_refl _);refine ⟨.ref s1.heap.objs.size,upd H1 s1.heap.objs.size (.tup xs),I1.laid (t':=s1.toks) (λb u e=>Heap.get?_push_of_some _ e) (Nat.le_refl _) ?_,rfl,q _ hf⟩
 exact ⟨z,us,r,⟨_,Heap.get?_push_size _ rfl,rfl,_,rfl⟩⟩
theorem zv (h:PA X es t):PE X (.List es pos) (tLst t):=by
 intro pins s σ H Q I hq;refine wpAny_List_spliced (thn (h pos pins s σ H _ I hq) λus s1 ⟨xs,H1,I1,r,z,q⟩=>⟨by rw [<- r.length]; exact z,?_⟩)
 have hf:H1 s1.heap.objs.size=none:=I1.hok.fresh (Nat.le_refl _);refine ⟨.ref s1.heap.objs.size,upd H1 s1.heap.objs.size (.lst xs),I1.laid (t':=s1.toks) (λb u e=>Heap.get?_push_of_some _ e) (Nat.le_refl _) ?_,rfl,q _ hf⟩
 exact ⟨z,us,0,r,Heap.get?_push_size _ rfl⟩
end
noncomputable abbrev Sp:=List V->Hp->VK->XK->Prop
noncomputable abbrev CXT:=List Env->Hp->Shared->XK->Value->Shared->Prop
structure Env0 (P:Program) (w:World) (K:PySem.W.Frag) (mg:Str->Option Value) (base:Heap) (A:Around) (outer:List Env) (s:Shared) (H:Hp):Prop where
 frames:A.frames=some outer
 mod:Mod K mg base
 bs:∀ b o,base.get? b=some o->s.heap.get? b=some o/\H b=none
 bsz:base.objs.size<=s.heap.objs.size
 funs:s.heap.FunFrames base outer
 frf:∀ b∈frs outer,H b=none
 hok:HOk P w H s.heap
 bare:AllBare s.gens
noncomputable def CE (outer:List Env) (P:Program) (w:World) (H:Hp) (s:Shared) (Q:VK) (u:Value) (s':Shared):Prop:=
 ∃ v H',s'.os=s.os/\AllBare s'.gens/\Un (frs outer) [] H H' s.heap s'.heap/\HOk P w H' s'.heap/\RelV v u/\Q v H'
noncomputable def CR (CX:CXT) (outer:List Env) (P:Program) (w:World) (H:Hp) (s:Shared) (Q:VK) (E:XK) (r:Result) (s':Shared):Prop:=
 match r with
 |.ok (.ret u)=>CE outer P w H s Q u s'
 |.ok _=>False
 |.error e=>CX outer H s E e s'
structure FnOk (P:Program) (w:World) (K:PySem.W.Frag) (mg:Str->Option Value) (base:Heap) (CX:CXT) (k:Nat) (f:Addr) (fd:FuncData) (ps:List Str) (sp:Sp):Prop where
 len:∀ vs H Q E,sp vs H Q E->vs.length=ps.length
 run:∀ (A:Around) (outer:List Env) (s:Shared) (H:Hp) (args:Args) (us:List Value) (vs:List V) (Q:VK) (E:XK),Room k A->Env0 P w K mg base A outer s H->BindsTo s fd args (ps.zip us)->Vals vs us->sp vs H Q E->
  codeAny (model P w) A (.call (.ref f) args) (CR CX outer P w H s Q E) s
theorem FnOk.imp {P:Program} {w:World} {K:PySem.W.Frag} {mg:Str->Option Value} {base:Heap} {CX:CXT} {k:Nat} {f:Addr} {fd:FuncData} {ps:List Str} {sp sp':Sp} (F:FnOk P w K mg base CX k f fd ps sp)
  (h:∀ vs H Q E,sp' vs H Q E->sp vs H Q E):FnOk P w K mg base CX k f fd ps sp':=
 ⟨λvs H Q E q=>F.len vs H Q E (h _ _ _ _ q),λA outer s H args us vs Q E hr he hb hv hs=>F.run A outer s H args us vs Q E hr he hb hv (h _ _ _ _ hs)⟩
theorem Env0.make {P:Program} {w:World} {K:PySem.W.Frag} {mg:Str->Option Value} {base:Heap} {A:Around} {outer:List Env} {s:Shared} {H:Hp} (e:Env0 P w K mg base A outer s H) (C:Addr) (us:List Value) (kw:List (Str × Value)) :
  Env0 P w K mg base (A.under (.builtin "type.__call__" ⟨.ref C::us,kw⟩)) outer s H:=⟨by first|exact e.frames|(simpa [Around.under,Code.envs,Code.isFrame,pushEnvs] using e.frames),e.mod,e.bs,e.bsz,e.funs,e.frf,e.hok,e.bare⟩
section
variable {X:Cx} {pins:List (Addr × Obj)} {σ:St} {H:Hp} {s s':Shared}
theorem Inv.env0 (I:Inv X pins σ H s):Env0 X.prog X.w X.K X.mg X.base X.A X.stack s H:=
 ⟨I.ok.frames,I.ok.mod,I.bs,Nat.le_trans I.ok.bsz I.sz,I.stack,I.stkFree,I.hok,I.bare⟩
theorem Inv.after {Q:VK} {u:Value} (I:Inv X pins σ H s) (h:CE X.stack X.prog X.w H s Q u s'):EP X pins σ Q u s':=by
 obtain ⟨v,H',os,bare,un,hok,r,q⟩:=h;obtain ⟨hh,g,d,t,os'⟩:=s';obtain rfl:os'=s.os:=os;exact ⟨v,H',I.call (h':=hh) (g':=g) (d':=d) (t':=t) (ch:=[]) un hok bare (λb z=>absurd z (by simp)),r,q⟩
end
noncomputable def tCall (sp:Sp) (dvs:List V) (E:XK) (t:TA):TE:=λσ H Q=>t σ H λvs H1=>sp (vs++dvs) H1 Q E
noncomputable def tMeth (C:Addr) (m:Str) (sp:Sp) (dvs:List V) (E:XK) (ta:TE) (t:TA):TE:=λσ H Q=>ta σ H λx H1=>∃ a dx fs,x=.ref a/\H1 a=some (.ins C dx fs)/\fs.lookup m=none/\
 t σ H1 λvs H2=>sp (x::(vs++dvs)) H2 Q E
noncomputable def tMake (C:Addr) (sp:Sp) (dvs:List V) (E:XK) (t:TA):TE:=λσ H Q=>t σ H λvs H1=>∀ x dx,H1 x=none->H1 dx=none->dx≠x->
 sp (.ref x::(vs++dvs)) (upd (upd H1 dx (.own x)) x (.ins C dx [])) (λv H2=>v=.non/\Q (.ref x) H2) E
noncomputable def jP (K:PySem.W.Frag) (fd:FuncData) (ps:List Str) (ds:List Value):Prop:=
 ∀ (s:Shared) (us:List Value),K.In s.heap->(us++ds).length=ps.length->BindsTo s fd ⟨us,[]⟩ (ps.zip (us++ds))
theorem jP.all {K:PySem.W.Frag} {fd:FuncData} {ps:List Str} (h:∀ us:List Value,us.length=ps.length->bindArgs fd ⟨us,[]⟩=pure (ps.zip us)):jP K fd ps []:=λs us _ hl=>by
 rw [List.append_nil] at hl ⊢;exact .of_eq (h us hl)
noncomputable def yc (CX:CXT) (X:Cx) (E:XK):Prop:=∀ (pins:List (Addr × Obj)) (σ:St) (H:Hp) (s:Shared) (e:Value) (s':Shared),Inv X pins σ H s->CX X.stack H s E e s'->X.xe e s'
section
variable {X:Cx} {CX:CXT} {k:Nat} {f C:Addr} {fd:FuncData} {ps:List Str} {sp:Sp} {dvs:List V} {ds:List Value} {E:XK} {x m:Str} {p pos apos:Pos} {e o:Expr} {es:List Expr} {ta:TE} {t:TA}
theorem run_fn {pins:List (Addr × Obj)} {σ:St} {H:Hp} {s:Shared} {Q:VK} {us:List Value} {vs:List V} (F:FnOk X.prog X.w X.K X.mg X.base CX k f fd ps sp) (hr:Room k X.A) (hb:jP X.K fd ps ds) (hd:Vals dvs ds) (hx:yc CX X E)
  (I:Inv X pins σ H s) (r:Vals vs us) (h:sp (vs++dvs) H Q E):wpAny (model X.prog X.w) X.A (call (.ref f) us) (EP X pins σ Q) X.xe s:=by
 have r2:Vals (vs++dvs) (us++ds):=r.append hd;have hl:(us++ds).length=ps.length:=by rw [<- r2.length]; exact F.len _ _ _ _ h
 refine wpAny_call (codeAny_mono (F.run X.A X.stack s H ⟨us,[]⟩ (us++ds) (vs++dvs) Q E hr I.env0 (hb s us I.kIn hl) r2 h) λr s' hq=>?_)
 cases r with
 |error e=>exact hx pins σ H s e s' I hq
 |ok fl=>
  cases fl with
  |ret u=>exact I.after hq
  |next=>exact False.elim hq
  |brk=>exact False.elim hq
  |cont=>exact False.elim hq
theorem pe_call (F:FnOk X.prog X.w X.K X.mg X.base CX k f fd ps sp) (hr:Room k X.A) (hg:Gl X x) (hm:X.mg x=some (.ref f)) (hk:keepIn X.K (.ref f)=true) (hb:jP X.K fd ps ds) (hd:Vals dvs ds) (hx:yc CX X E)
  (ha:PA X (e::es) t) (hdb:(x == ("__debug__" : Str))=false:=by decide) (he:starEach (e::es) X.env=(false,eval e X.env)::starEach es X.env:=by rfl) (hpl:(backTo pos (starEach es X.env)).any (·.1)=false:=by rfl) :
  PE X (.Call (.Name x p) (e::es) [] pos) (tCall sp dvs E t):=by
 intro pins s σ H Q I h;refine wpAny_Call_Name_kw (ZM I hg hm ?_ hdb);refine callWith_K (h₀:=X.base) I.ok.mod.kin hk (thn (ha pos pins s σ H _ I h) λus s1 ⟨vs,H1,I1,r,q⟩=>⟨I1.kIn,?_⟩) he hpl
 exact run_fn F hr hb hd hx I1 r q
theorem pe_meth {pl:Sem Bool} (he:PE X o ta) (c:Cls X.K C) (hm:Meth X.K C m f) (F:FnOk X.prog X.w X.K X.mg X.base CX k f fd ps sp) (hr:Room k X.A) (hb:jP X.K fd ps ds) (hd:Vals dvs ds) (hx:yc CX X E) (ha:PA X (e::es) t)
  (hst:starEach (e::es) X.env=(false,eval e X.env)::starEach es X.env:=by rfl) (hpl:(backTo pos (starEach es X.env)).any (·.1)=false:=by rfl)
  (ht:eval (.Call (.Attribute o m apos) (e::es) [] pos) X.env=(do
   let ov <- eval o X.env
   standAt apos.atName
   let (f,first) <- holding [ov] (getMethod ov m pl)
   callWith pos f first (backTo pos (starEach (e::es) X.env)) (backToKw pos (keywordEach [] X.env))):=by rfl) :
  PE X (.Call (.Attribute o m apos) (e::es) [] pos) (tMeth C m sp dvs E ta t):=by
 intro pins s σ H Q I h;refine methodCall_KW (pl:=pl) (thn (he pins s σ H _ I h) λu s1 ⟨x,H1,I1,rx,a,dx,fs,ex,ea,l,q⟩=>?_) ht
 subst ex;obtain rfl:u=Value.ref a:=rx;refine J3 I1 ea c hm l ?_;refine callWith_K (first:=[.ref a]) (h₀:=X.base) I.ok.mod.kin hm.kp (thn (ha pos pins s1 σ H1 _ I1 q) λus s2 ⟨vs,H2,I2,r,q2⟩=>⟨I2.kIn,?_⟩) hst hpl
 exact run_fn (us:=.ref a::us) (vs:=.ref a::vs) F hr hb hd hx I2 (.cons rfl r) q2
theorem pe_meth0 {pl:Sem Bool} (he:PE X o ta) (c:Cls X.K C) (hm:Meth X.K C m f) (F:FnOk X.prog X.w X.K X.mg X.base CX k f fd ps sp) (hr:Room k X.A) (hb:jP X.K fd ps ds) (hd:Vals dvs ds) (hx:yc CX X E)
  (ht:eval (.Call (.Attribute o m apos) [] [] pos) X.env=(do
   let ov <- eval o X.env
   standAt apos.atName
   let (f,first) <- holding [ov] (getMethod ov m pl)
   callWith pos f first (backTo pos (starEach [] X.env)) (backToKw pos (keywordEach [] X.env))):=by rfl) :
  PE X (.Call (.Attribute o m apos) [] [] pos) (tMeth C m sp dvs E ta tNil):=by
 intro pins s σ H Q I h;refine methodCall_KW (pl:=pl) (thn (he pins s σ H _ I h) λu s1 ⟨x,H1,I1,rx,a,dx,fs,ex,ea,l,q⟩=>?_) ht
 subst ex;obtain rfl:u=Value.ref a:=rx;refine J3 I1 ea c hm l ?_;exact PySem.W.callWith_K0 (first:=[.ref a]) I1.kIn hm.kp (run_fn (us:=[.ref a]) (vs:=[.ref a]) F hr hb hd hx I1 (.cons rfl .nil) q)
structure Mk (K:PySem.W.Frag) (C f:Addr):Prop where
 makes:makesIn K C=true
 init:findIn K (.ref C) "__init__"=some (some (.ref f))
 fn:isFn K (.ref f)=true
 kp:keepIn K (.ref C)=true
theorem run_make {pins:List (Addr × Obj)} {σ:St} {H:Hp} {s:Shared} {Q:VK} {us:List Value} {vs:List V} (M:Mk X.K C f) (F:FnOk X.prog X.w X.K X.mg X.base CX k f fd ps sp) (hr:Room (k+1) X.A) (hb:jP X.K fd ps ds) (hd:Vals dvs ds)
  (hx:yc CX X E) (I:Inv X pins σ H s) (r:Vals vs us)
  (h:∀ x dx,H x=none->H dx=none->dx≠x->sp (.ref x::(vs++dvs)) (upd (upd H dx (.own x)) x (.ins C dx [])) (λv H2=>v=.non/\Q (.ref x) H2) E) :
  wpAny (model X.prog X.w) X.A (call (.ref C) us) (EP X pins σ Q) X.xe s:=by
 have hq:=h (s.heap.objs.size+1) s.heap.objs.size (I.hok.fresh (Nat.le_succ _)) (I.hok.fresh (Nat.le_refl _)) (Nat.ne_of_lt (Nat.lt_succ_self _));have I2:=Inv.made (C:=C) I;have r2:Vals (V.ref (s.heap.objs.size+1)::(vs++dvs)) (Value.ref (s.heap.objs.size+1)::(us++ds)):=.cons rfl (r.append hd);have hl:(Value.ref (s.heap.objs.size+1)::us++ds).length=ps.length:=by
  have e:=r2.length;rw [F.len _ _ _ _ hq] at e;exact e.symm
 refine wpAny_call (make_map (f:=f) I.kIn M.makes M.init (beq_iff_eq.mp M.fn) (codeAny_mono (F.run _ X.stack _ _ ⟨Value.ref (s.heap.objs.size+1)::us,[]⟩ (Value.ref (s.heap.objs.size+1)::(us++ds)) _ _ E (hr.make C us [])
  (I2.env0.make C us []) (hb _ (Value.ref (s.heap.objs.size+1)::us) I2.kIn hl) r2 hq) λr s' hq'=>?_))
 cases r with
 |error e=>exact hx pins σ _ _ e s' I2 hq'
 |ok fl=>
  cases fl with
  |ret u=>
   obtain ⟨v,H',I3,rv,ev,q3⟩:=I2.after hq';subst ev;exact ⟨rv,⟨V.ref (s.heap.objs.size+1),H',I3,rfl,q3⟩⟩
  |next=>exact False.elim hq'
  |brk=>exact False.elim hq'
  |cont=>exact False.elim hq'
theorem pe_make (M:Mk X.K C f) (F:FnOk X.prog X.w X.K X.mg X.base CX k f fd ps sp) (hr:Room (k+1) X.A) (hg:Gl X x) (hm:X.mg x=some (.ref C)) (hb:jP X.K fd ps ds) (hd:Vals dvs ds) (hx:yc CX X E)
  (ha:PA X (e::es) t) (hdb:(x == ("__debug__" : Str))=false:=by decide) (he:starEach (e::es) X.env=(false,eval e X.env)::starEach es X.env:=by rfl) (hpl:(backTo pos (starEach es X.env)).any (·.1)=false:=by rfl) :
  PE X (.Call (.Name x p) (e::es) [] pos) (tMake C sp dvs E t):=by
 intro pins s σ H Q I h;refine wpAny_Call_Name_kw (ZM I hg hm ?_ hdb);refine callWith_K (h₀:=X.base) I.ok.mod.kin M.kp (thn (ha pos pins s σ H _ I h) λus s1 ⟨vs,H1,I1,r,q⟩=>⟨I1.kIn,?_⟩) he hpl
 exact run_make M F hr hb hd hx I1 r q
end
section
variable {X:Cx} {CX:CXT} {k:Nat} {f C:Addr} {fd:FuncData} {ps ks:List Str} {sp:Sp} {E:XK} {x m:Str} {p pos apos kpos:Pos} {e o:Expr} {es:List Expr} {kws:List Keyword} {te ta:TE} {t tk:TA} {nm:Option Str}
variable {g:List Value->List Value->List Value} {gV:List V->List V->List V}
end
structure FnScope (N P:List Str) (sc:Scope):Prop where
 kind:sc.kind=.function:=by rfl
 co:sc.isCoroutine=false:=by rfl
 gen:sc.isGenerator=false:=by rfl
 nd:N.Nodup:=by decide+kernel
 pre:N.take P.length=P:=by rfl
 par:∀ x∈P,sc.names.lookup x=some .local\/sc.names.lookup x=some .cell:=by decide+kernel
 nofree:∀ y∈sc.names,y.2≠.free:=by decide+kernel
theorem bindL_out {kindOf:Str->Option NameKind} {x:Str}:∀ {binds:List (Str × Value)} {m:Str->Option Value},(∀ v,(x,v)∉binds)->bindL kindOf binds m x=m x
 |[],_,_=>rfl
 | (n,v)::r,m,h=>by
  unfold bindL;rw [bindL_out λw hw=>h w (List.mem_cons_of_mem _ hw)]
  split
  ·have:x≠n:=by rintro rfl; exact h v List.mem_cons_self
   simp [this]
  ·rfl
theorem bindC_out {kindOf:Str->Option NameKind} {x:Str}:∀ {binds:List (Str × Value)} {m:Str->Option Value},(∀ v,(x,v)∉binds)->bindC kindOf binds m x=m x
 |[],_,_=>rfl
 | (n,v)::r,m,h=>by
  unfold bindC;rw [bindC_out λw hw=>h w (List.mem_cons_of_mem _ hw)]
  split
  ·rfl
  ·have:x≠n:=by rintro rfl; exact h v List.mem_cons_self
   simp [this]
theorem bindL_get {kindOf:Str->Option NameKind} {x:Str} {v:Value}:∀ {P:List Str} {vs:List Value} {i:Nat} {m:Str->Option Value},P.Nodup->P[i]?=some x->vs[i]?=some v->kindOf x=some .local->
  bindL kindOf (P.zip vs) m x=some v
 |[],_,_,_,_,h,_,_=>by simp at h
 |_::_,[],_,_,_,_,h,_=>by simp at h
 |p::P,w::vs,0,m,nd,h1,h2,hk=>by
  simp at h1 h2; subst h1; subst h2;show bindL kindOf ((p,w)::P.zip vs) m p=_;unfold bindL;rw [bindL_out λv hv=>(List.nodup_cons.mp nd).1 (List.of_mem_zip hv).1,if_pos hk]
  simp
 |p::P,w::vs,i+1,m,nd,h1,h2,hk=>by
  show bindL kindOf ((p,w)::P.zip vs) m x=_;unfold bindL;exact bindL_get (i:=i) (List.nodup_cons.mp nd).2 (by simpa using h1) (by simpa using h2) hk
theorem bindC_get {kindOf:Str->Option NameKind} {x:Str} {v:Value}:∀ {P:List Str} {vs:List Value} {i:Nat} {m:Str->Option Value},P.Nodup->P[i]?=some x->vs[i]?=some v->kindOf x≠some .local->
  bindC kindOf (P.zip vs) m x=some v
 |[],_,_,_,_,h,_,_=>by simp at h
 |_::_,[],_,_,_,_,h,_=>by simp at h
 |p::P,w::vs,0,m,nd,h1,h2,hk=>by
  simp at h1 h2; subst h1; subst h2;show bindC kindOf ((p,w)::P.zip vs) m p=_;unfold bindC;rw [bindC_out λv hv=>(List.nodup_cons.mp nd).1 (List.of_mem_zip hv).1,if_neg hk]
  simp
 |p::P,w::vs,i+1,m,nd,h1,h2,hk=>by
  show bindC kindOf ((p,w)::P.zip vs) m x=_;unfold bindC;exact bindC_get (i:=i) (List.nodup_cons.mp nd).2 (by simpa using h1) (by simpa using h2) hk
noncomputable def Zl (N:List Str) (vs:List V):St:=vs.map some++List.replicate (N.length - vs.length) none
noncomputable def cxOf (CX:CXT) (P:Program) (w:World) (K:PySem.W.Frag) (mg:Str->Option Value) (base:Heap) (N:List Str) (qual:Str) (scope:Scope) (f:Addr) (cd:Value) (A:Around) (outer:List Env) (s:Shared) (H:Hp) (E:XK):Cx where
 prog:=P
 w:=w
 K:=K
 mg:=mg
 base:=base
 A:=A.deeper (envOfC qual scope s.heap.objs.size f cd)
 N:=N
 s₀:=s
 H₀:=H
 env:=envOfC qual scope s.heap.objs.size f cd
 outer:=outer
 stack:=envOfC qual scope s.heap.objs.size f cd::outer
 ex:=[]
 calm:=true
 fn:=λ_=>true
 pn:=[]
 xe:=λe s'=>wpAny (model P w) (A.deeper (envOfC qual scope s.heap.objs.size f cd)) (leaving (envOfC qual scope s.heap.objs.size f cd) e) (λ_ s''=>CX outer H s E e s'') (λe' s''=>CX outer H s E e' s'') s'
theorem cell_has {sc:Scope} {n:Nat} {x:Str} (h:sc.names.lookup x=some .cell):∃ c,(cellsFrom n sc.names []).lookup x=some c:=by
 have q:=PySem.W.cellsFrom_some sc.names n [] (.inl h);exact Option.isSome_iff_exists.mp q
theorem inv_start {CX:CXT} {P:Program} {w:World} {K:PySem.W.Frag} {mg:Str->Option Value} {base:Heap} {N ps:List Str} {qual:Str} {scope:Scope} {f:Addr} {cd:Value} {A:Around} {outer:List Env} {s s1:Shared} {H:Hp} {E:XK} {us:List Value} {vs:List V}
  (S:FnScope N ps scope) (hd:A.handled=none) (e0:Env0 P w K mg base A outer s H) (hl:vs.length=ps.length) (r:Vals vs us)
  (x:InCallC s s.heap.objs.size (bindL (envOfC qual scope s.heap.objs.size f cd).kindOf (ps.zip us) λ_=>none) (cellsFrom (s.heap.objs.size+1) scope.names []) (bindC (envOfC qual scope s.heap.objs.size f cd).kindOf (ps.zip us) λ_=>none) s1) :
  Inv (cxOf CX P w K mg base N qual scope f cd A outer s H E) [] (Zl N vs) H s1:=by
 have hpl:ps.length<=N.length:=by have:=congrArg List.length S.pre; rw [List.length_take] at this; omega
 obtain ⟨h1,tk,rfl,hk⟩:=x.done;have noA:∀ b:Addr,b∉(cxOf CX P w K mg base N qual scope f cd A outer s H E).ex:=λb z=>absurd (show b∈([]:List Addr) from z) (by simp)
 refine ⟨⟨e0.mod,S.kind,rfl,rfl,Nat.le_refl _,λy z c h1 h2=>?_,λy hy=>?_,λy c _ h=>?_,λ_=>hd,Around.frames_deeper e0.frames,.inr ⟨rfl,rfl⟩,λb z=>absurd z (noA b),e0.bs,e0.bsz,λb _ _=>noA b,λb z=>absurd z (noA b),e0.funs,e0.frf⟩,
  rfl,e0.bare,Un.kept hk,⟨_,x.toInCall.ns,λi y v h1 h2 h3=>?_⟩,λy c h=>⟨_,x.cell y c h⟩,e0.hok.fresh (Nat.le_refl _),λy c h=>?_,λp hp=>absurd (show p∈([]:List (Addr × Obj)) from hp) (by simp),e0.hok.kept hk,?_⟩
 ·exact name_of_addr x.apart (PySem.mem_of_lookup h1) (PySem.mem_of_lookup h2)
 ·have hy:scope.names.lookup y=some .cell\/scope.names.lookup y=some .free:=hy;rcases hy with hy|hy
  ·exact cell_has hy
  ·exact absurd rfl (S.nofree _ (PySem.mem_of_lookup hy))
 ·exact Nat.le_of_lt (x.above y c (PySem.mem_of_lookup h))
 ·have hi:i < vs.length:=by
   unfold Zl at h2;by_cases hi:i < vs.length
   ·exact hi
   ·rw [List.getElem?_append_right (by simpa using hi)] at h2
    rw [List.getElem?_replicate] at h2;split at h2<;>cases h2
  have ha:vs[i]?=some v:=by
   unfold Zl at h2;rw [List.getElem?_append_left (by simpa using hi),List.getElem?_map] at h2
   cases e:vs[i]? with
   |none=>rw [e] at h2; cases h2
   |some a=>rw [e] at h2; cases h2; rfl
  obtain ⟨u,hu,rv⟩:=r.get ha;have hp:ps[i]?=some y:=by
   rw [<- S.pre,List.getElem?_take_of_lt (by omega)]; exact h1
  have ndP:ps.Nodup:=by rw [<- S.pre]; exact S.nd.sublist (List.take_sublist _ _)
  refine ⟨u,rv,?_⟩;rcases S.par y (List.mem_of_getElem? hp) with k|k
  ·exact .inl ⟨k,bindL_get ndP hp hu k⟩
  ·obtain ⟨c,e⟩:=cell_has (n:=s.heap.objs.size+1) k;refine .inr ⟨.inl k,c,e,?_⟩;have q:=x.cell y c e;rw [bindC_get ndP hp hu (by show scope.names.lookup y≠_; rw [k]; decide)] at q
   exact q
 ·exact e0.hok.fresh (Nat.le_of_lt (x.above y c (PySem.mem_of_lookup h)))
 ·unfold Zl;show _=N.length;rw [List.length_append,List.length_map,List.length_replicate];omega
theorem fn_of {CX:CXT} {P:Program} {w:World} {K:PySem.W.Frag} {mg:Str->Option Value} {base:Heap} {k:Nat} {f:Addr} {name qual:Str} {params:Arguments} {body:List Stmt} {scope:Scope} {dV kV doc pm cdv ct oc:Value} {an od:Option Addr}
  {osl:Array (Option Value)} {N ps:List Str} {sp:Sp} (lk:K.lookup f=some ⟨oc,od,.func (fnOf name qual params body scope dV kV doc pm an cdv ct),osl⟩) (hcd:codeIn K cdv qual=true) (S:FnScope N ps scope)
  (len:∀ vs H Q E,sp vs H Q E->vs.length=ps.length)
  (hbody:∀ (A:Around) (outer:List Env) (s:Shared) (H:Hp) (vs:List V) (Q:VK) (E:XK),Room k (A.deeper (envOfC qual scope s.heap.objs.size f cdv))->sp vs H Q E->
   ∃ t,PSs (cxOf CX P w K mg base N qual scope f cdv A outer s H E) body t/\t {nx:=λ_ H'=>Q .non H',rt:=Q} (Zl N vs) H) :
  FnOk P w K mg base CX (k+1) f (fnOf name qual params body scope dV kV doc pm an cdv ct) ps sp:=by
 refine ⟨len,λA outer s H args us vs Q E hr e0 hb r hsp=>?_⟩
 have hl:=len _ _ _ _ hsp;have KX:K.In s.heap:=e0.mod.kin.keeps λb o e=>(e0.bs b o e).1
 have lim:s.heap.NoLimit:=e0.mod.nolimit.keeps λb o e=>(e0.bs b o e).1
 have hkind:∀ y∈ps.zip us,scope.names.lookup y.1=some .local\/(scope.names.lookup y.1=some .cell/\((cellsFrom (s.heap.objs.size+1) scope.names []).lookup y.1).isSome=true):=λ⟨n,v⟩ hy=>by
  rcases S.par n (List.of_mem_zip hy).1 with q|q
  ·exact .inl q
  ·exact .inr ⟨q,PySem.W.cellsFrom_some _ _ _ (.inl q)⟩
 refine codeAny_call_function hr.depth (KX _ _ lk) rfl S.co S.gen rfl (PySem.W.codeRec_of KX hcd) (hb _ _ _ _ ?_);refine wpAny_newFunctionEnv_cells S.kind hkind λenv he s1 x=>?_
 subst he;refine ⟨lim.keeps x.toInCall.keep,codeAny_func ?_⟩;obtain ⟨t,ht,hq⟩:=hbody A outer s H vs Q E (hr.deeper _) hsp;have I:Inv (cxOf CX P w K mg base N qual scope f cdv A outer s H E) [] (Zl N vs) H s1:=inv_start S hr.hd e0 hl r x;refine wpAny_mono (ht [] s1 (Zl N vs) H _ I hq) (λfl s' hs=>?_) λe s' hs=>hs
 have fin:∀ {σ':St} {H':Hp} {v:V} {u:Value},Inv (cxOf CX P w K mg base N qual scope f cdv A outer s H E) [] σ' H' s'->RelV v u->Q v H'->CE outer P w H s Q u s':=
  λ{σ' H' v u} J rv q=>⟨v,H',J.os,J.bare,J.base,J.hok,rv,q⟩
 cases fl with
 |ret u=>
  obtain ⟨v,σ',H',J,rv,q⟩:=hs;exact fin J rv q
 |next=>
  obtain ⟨σ',H',J,q⟩:=hs;exact fin (v:=V.non) (u:=Value.none) J rfl q
 |brk=>
  obtain ⟨_,_,_,q⟩:=hs;exact False.elim q
 |cont=>
  obtain ⟨_,_,_,q⟩:=hs;exact False.elim q
end L2
namespace L2
open PySem PySem.Spec PyProof.Rows
section
variable {X:Cx} {x:Str} {p pos:Pos} {e:Expr} {es:List Expr} {t:TA} {id T:String} {r:List V->Hp->VK->Prop}
noncomputable def tCB (r:List V->Hp->VK->Prop) (t:TA):TE:=λσ H Q=>t σ H λvs H1=>r vs H1 Q
theorem zS (hc:yx X (.builtin id) r) (hg:Gl X x) (hm:X.mg x=none) (hv:bootBuiltins x=some (.builtin id)) (ha:PA X (e::es) t) (hn:x≠"__name__":=by decide) (hdb:(x == ("__debug__" : Str))=false:=by decide)
  (he:starEach (e::es) X.env=(false,eval e X.env)::starEach es X.env:=by rfl) (hpl:(backTo pos (starEach es X.env)).any (·.1)=false:=by rfl):PE X (.Call (.Name x p) (e::es) [] pos) (tCB r t):=by
 intro pins s σ H Q I h;refine wpAny_Call_Name_kw (YG I hg hm hv ?_ hn hdb);exact PyProof.Rows.callWith_builtin1 (thn (ha pos pins s σ H _ I h) λus s1 ⟨vs,H1,I1,r1,q1⟩=>hc pins s1 σ H1 vs us Q I1 r1 q1) he hpl
theorem yX (hc:yx X (.type T) r) (hg:Gl X x) (hm:X.mg x=none) (hv:bootBuiltins x=some (.type T)) (ha:PA X (e::es) t) (hn:x≠"__name__":=by decide) (hdb:(x == ("__debug__" : Str))=false:=by decide)
  (he:starEach (e::es) X.env=(false,eval e X.env)::starEach es X.env:=by rfl) (hpl:(backTo pos (starEach es X.env)).any (·.1)=false:=by rfl):PE X (.Call (.Name x p) (e::es) [] pos) (tCB r t):=by
 intro pins s σ H Q I h;refine wpAny_Call_Name_kw (YG I hg hm hv ?_ hn hdb);exact PyProof.Rows.callWith_type1 (thn (ha pos pins s σ H _ I h) λus s1 ⟨vs,H1,I1,r1,q1⟩=>hc pins s1 σ H1 vs us Q I1 r1 q1) he hpl
end
end L2
namespace HT
open PySem PyProof.Rows
section
open PySem.SeqAt
open PySem.AutoSeq1 (wpAny_loadPart')
open PySem.MeetsSeq PySem.MeetsSeq2 PySem.MeetsSeq3
end
section
variable {prog:Program} {w:World} {A:Around} {E:Value->Shared->Prop} {s:Shared}
theorem cat_tup {t b:Addr} {vs ws:List Value} {Q:Value->Shared->Prop} (ht:IsTup s.heap t vs.toArray) (hb:IsTup s.heap b ws.toArray) (hv:vs≠[])
  (h1:ws=[]->Q (.ref t) s) (h2:ws≠[]->Q (.ref s.heap.objs.size) {s with heap:=s.heap.push {cls:=.type "tuple",data:=.seq (vs++ws).toArray}})
  (hsz:vs.length+ws.length<=sizeLine):wpAny (model prog w) A (binaryOp .Add (.ref t) (.ref b)) Q E s:=by
 obtain ⟨⟨cls,dd,data,sl⟩,ho,hc,n,hd⟩:=id ht;obtain ⟨⟨qm,nY,data2,iH⟩,ho2,hc2,n2,gh⟩:=id hb;simp only at hc hd hc2 gh;subst hc hd hc2 gh;have e:vs.toArray++ws.toArray=(vs++ws).toArray:=by simp
 by_cases hw:ws=[]
 ·exact concat_meets ⟨_,ho,rfl⟩ ⟨_,ho2,rfl⟩ noFill_tuple_add seq_tuple_add PySem.F.slot_tuple_add PySem.F.entry_tuple_add (PySem.F.args_tuple_add_2 _ _)
   (tuple_addW1 t b vs.toArray ws.toArray n n2 dd nY sl iH (by simpa using hv) (by simp [hw])) ⟨ho,ho2,h1 hw⟩
 ·refine concat_meets ⟨_,ho,rfl⟩ ⟨_,ho2,rfl⟩ noFill_tuple_add seq_tuple_add PySem.F.slot_tuple_add PySem.F.entry_tuple_add (PySem.F.args_tuple_add_2 _ _)
   (tuple_addW2 t b vs.toArray ws.toArray n n2 dd nY sl iH (by simpa using hv) (by simpa using hw) (by rw [List.size_toArray,List.size_toArray]; exact hsz)) ⟨ho,ho2,?_⟩
  rw [e];exact h2 hw
noncomputable def sIx (n d:Nat):Option Int->Nat
 |none=>d
 |some v=>if v < 0 then (v+(n:Int)).toNat else min v.toNat n
theorem sIx_none (n d:Nat):sIx n d none=d:=rfl
theorem sIx_nat (n d k:Nat):sIx n d (some (k:Int))=min k n:=by
 show (if (k:Int) < 0 then ((k:Int)+(n:Int)).toNat else min (k:Int).toNat n)=min k n
 rw [if_neg (by omega),Int.toNat_natCast]
theorem sIx_le (n d:Nat) (hd:d<=n) (o:Option Int):sIx n d o<=n:=by
 cases o with
 |none=>exact hd
 |some v=>
  show (if v < 0 then (v+(n:Int)).toNat else min v.toNat n)<=n
  by_cases hv:v < 0
  ·rw [if_pos hv]; omega
  ·rw [if_neg hv]; exact Nat.min_le_right _ _
theorem clip_eq (v:Int) (n d:Nat):(if v < 0 then max (v+(n:Int)) 0 else min v (n:Int))=((sIx n d (some v):Nat):Int):=by
 show (if v < 0 then max (v+(n:Int)) 0 else min v (n:Int))=(((if v < 0 then (v+(n:Int)).toNat else min v.toNat n):Nat):Int)
 by_cases hv:v < 0
 ·simp only [if_pos hv]; omega
 ·simp only [if_neg hv]; omega
theorem adjust_gen (lo hi:Option Int) (n:Nat):Builtin.Slice.sliceAdjust lo hi 1 (n:Int)=(((sIx n 0 lo:Nat):Int),((sIx n n hi:Nat):Int)):=by
 have h1:¬ ((1:Int) < 0):=by omega
 unfold Builtin.Slice.sliceAdjust;simp only [h1,if_false];refine Prod.ext ?_ ?_
 ·cases lo with
  |none=>rfl
  |some v=>exact clip_eq v n 0
 ·cases hi with
  |none=>rfl
  |some v=>exact clip_eq v n n
theorem places_gen (i j:Nat):Builtin.Slice.slicePlaces (i:Int) (j:Int) 1=j - i:=by
 unfold Builtin.Slice.slicePlaces;have h1:(1:Int) > 0:=by omega
 simp only [h1,if_true,Int.ediv_one];split<;>omega
theorem J5 {v:Value} {o:Option Int} {Q:Option Int->Shared->Prop} (p:IsPart v o) (h:Q o s):wpAny (model prog w) A (Builtin.Slice.slicePartIndex v) Q E s:=by
 cases p with
 |none=>exact slicePart_none h
 |int i t=>exact slicePart_int h
theorem sliceApplied_gen {sl:Addr} {vl vu:Value} {lo hi:Option Int} {n:Nat} {Q:Int × Int × Nat->Shared->Prop} (hs:s.heap.IsSliceOf sl vl vu .none) (pl:IsPart vl lo) (pu:IsPart vu hi)
  (h:Q (((sIx n 0 lo:Nat):Int),1,sIx n n hi - sIx n 0 lo) s):wpAny (model prog w) A (Builtin.Slice.sliceApplied (.ref sl) (pure (n:Int))) Q E s:=by
 obtain ⟨os,hos,hcs,hds⟩:=id hs;unfold Builtin.Slice.sliceApplied Builtin.Slice.sliceFields;refine wpAny_bind (wpAny_bind (wpAny_field hos hds (x:=vl) rfl (wpAny_bind (wpAny_field hos hds (x:=vu) rfl (wpAny_bind (wpAny_field hos hds (x:=.none) rfl (wpAny_pure ?_)))))));refine wpAny_bind (slicePart_none ?_);show wpAny _ _ (if ((1:Int) == 0)=true then _ else _) _ _ s
 rw [if_neg (by decide)]
 refine wpAny_bind (J5 pl (wpAny_bind (J5 pu (wpAny_bind (wpAny_pure ?_)))));show wpAny _ _ (match Builtin.Slice.sliceAdjust lo hi 1 (n:Int) with|(lo,hi)=>pure (lo,(1:Int),Builtin.Slice.slicePlaces lo hi 1)) _ _ s
 rw [adjust_gen lo hi n];show wpAny _ _ (pure (((sIx n 0 lo:Nat):Int),(1:Int),Builtin.Slice.slicePlaces ((sIx n 0 lo:Nat):Int) ((sIx n n hi:Nat):Int) 1)) _ _ s;rw [places_gen];exact wpAny_pure h
theorem pick_gen (xs:Array Value) (i k:Nat):((List.range k).filterMap λ(m:Nat)=>xs[((i:Int)+(m:Int) * 1).toNat]?).toArray=((xs.toList.drop i).take k).toArray:=by
 have e:(λ(m:Nat)=>xs[((i:Int)+(m:Int) * 1).toNat]?)=λm=>xs[i+m]?:=by
  funext m
  have:((i:Int)+(m:Int) * 1).toNat=i+m:=by omega
  rw [this]
 rw [e];have:=pick_run xs i k;rw [List.filterMap_map] at this;have e2:((λx=>xs[x]?) ∘ λx=>i+x)=λm=>xs[i+m]?:=rfl
 rw [e2] at this;rw [this]
theorem getItem_tuple_cut {t sl:Addr} {items:Array Value} {vl vu:Value} {lo hi:Option Int} {Q:Value->Shared->Prop} (ht:IsTup s.heap t items) (hs:s.heap.IsSliceOf sl vl vu .none) (pl:IsPart vl lo) (pu:IsPart vu hi)
  (hw:¬ (sIx items.size 0 lo=0/\sIx items.size items.size hi=items.size))
  (h:Q (.ref s.heap.objs.size) {s with heap:=s.heap.push {cls:=.type "tuple",data:=.seq ((items.toList.drop (sIx items.size 0 lo)).take (sIx items.size items.size hi - sIx items.size 0 lo)).toArray}})
  (hsz:items.size<=sizeLine):wpAny (model prog w) A (getItem (.ref t) (.ref sl)) Q E s:=by
 have htake:sizeOk (.seq ((items.toList.drop (sIx items.size 0 lo)).take (sIx items.size items.size hi - sIx items.size 0 lo)).toArray):=by
  show ((items.toList.drop (sIx items.size 0 lo)).take (sIx items.size items.size hi - sIx items.size 0 lo)).toArray.size<=sizeLine;rw [List.size_toArray,List.length_take,List.length_drop,Array.length_toList];omega
 have hj:sIx items.size items.size hi<=items.size:=sIx_le _ _ (Nat.le_refl _) hi;obtain ⟨os,hos,hcs,hds⟩:=id hs;have hTs:s.TypeIs (.ref sl) "slice":=⟨os,hos,hcs⟩;unfold getItem
 try with_reducible refine wpAny_holding ?_
 first|refine wpAny_bind (wpAny_pure ?_)|skip
 refine wpAny_bind (wpAny_sequenceKey ht.typeIs (by decide) ?_)
 refine wpAny_bind (wpAny_callSpecial?_slot (name:=Str.ofString "__getitem__") ht.typeIs PyProof.Rows.slot_tuple_getitem
  (wpAny_call_entry PyProof.Rows.slot_tuple_getitem ht.typeIs entry_tuple_getitem ?_ (args_tuple_getitem _ _)))
 show wpAny _ _ (Builtin.Tuple.tupleItemsOf (.ref t) >>= _) _ _ s;refine wpAny_bind (tupleItemsOf_ ht ?_);refine wpAny_bind (wpAny_typeOf hTs ?_);rw [if_pos (by decide)]
 refine wpAny_bind (sliceApplied_gen hs pl pu ?_);have hno:¬ ((((sIx items.size 0 lo:Nat):Int) == 0 && (1:Int) == 1 && (sIx items.size items.size hi - sIx items.size 0 lo) == items.size)=true):=by
  intro q;rw [Bool.and_eq_true,Bool.and_eq_true] at q;have q1:((sIx items.size 0 lo:Nat):Int)=0:=eq_of_beq q.1.1;have q2:sIx items.size items.size hi - sIx items.size 0 lo=items.size:=eq_of_beq q.2;exact hw ⟨by omega,by omega⟩
 show wpAny _ _ (if (((sIx items.size 0 lo:Nat):Int) == 0 && (1:Int) == 1 && (sIx items.size items.size hi - sIx items.size 0 lo) == items.size)=true then _ else _) _ _ s
 rw [if_neg hno,pick_gen]
 first
  |exact wpAny_bind (m:=Builtin.Tuple.tupleExact _) (wpAny_newObj_type (wpAny_pure ⟨_,rfl,wpAny_pure h⟩) htake)
  |exact wpAny_bind (m:=Builtin.Tuple.tupleExact _) (wpAny_newObj_type (wpAny_bind (wpAny_pure (wpAny_pure ⟨_,rfl,wpAny_pure h⟩))) htake)
  |exact wpAny_bind (wpAny_bind (m:=Builtin.Tuple.tupleExact _) (wpAny_newObj_type (wpAny_pure (wpAny_pure ⟨_,rfl,wpAny_pure h⟩)) htake))
  |exact wpAny_bind (wpAny_bind (m:=Builtin.Tuple.tupleExact _) (wpAny_newObj_type (wpAny_pure ⟨_,rfl,wpAny_pure h⟩) htake))
end
end HT
namespace L2
open PySem PySem.Spec PyProof.Rows
noncomputable abbrev TO:=St->Hp->(Option Int->Hp->Prop)->Prop
noncomputable def PO (X:Cx) (e:Option Expr) (t:TO):Prop:=
 ∀ (pins:List (Addr × Obj)) (s:Shared) (σ:St) (H:Hp) (Q:Option Int->Hp->Prop),Inv X pins σ H s->t σ H Q->
  wpAny (model X.prog X.w) X.A (evalPart e X.env) (λu s'=>∃ o H',Inv X pins σ H' s'/\IsPart u o/\Q o H') X.xe s
noncomputable def tNoPart:TO:=λ_ H Q=>Q none H
noncomputable def tPart (t:TE):TO:=λσ H Q=>t σ H λx H1=>∃ i,x=.int i/\Q (some i) H1
section
variable {X:Cx} {e:Expr} {te:TE} {lo hi:Option Expr} {tl th:TO} {pos p2:Pos}
theorem yv:PO X none tNoPart:=by
 intro pins s σ H Q I h;rw [evalPart_none];exact wpAny_pure ⟨none,H,I,.none,h⟩
theorem yq (h:PE X e te):PO X (some e) (tPart te):=by
 intro pins s σ H Q I hw;rw [evalPart_some];refine thn (h pins s σ H _ I hw) λu s1 zz=>?_
 obtain ⟨x,H1,I1,r1,q1⟩:=zz;obtain ⟨i,rfl,q⟩:=q1;obtain ⟨t,rfl⟩:=r1;exact ⟨some i,H1,I1,.int i t,q⟩
noncomputable def SlR (X:Cx) (r:V->Option Int->Option Int->Hp->VK->Prop):Prop:=
 ∀ (pins:List (Addr × Obj)) (s:Shared) (σ:St) (H:Hp) (x:V) (v vl vu:Value) (lo hi:Option Int) (sl:Addr) (Q:VK),Inv X pins σ H s->RelV x v->s.heap.IsSliceOf sl vl vu .none->IsPart vl lo->IsPart vu hi->r x lo hi H Q->
  ∃ T id,typeLookup (.type T) "__getitem__"=pure (some (.builtin id))/\s.TypeIs v T/\wpAny (model X.prog X.w) X.A (getItem v (.ref sl)) (EP X pins σ Q) X.xe s
noncomputable def tSl (r:V->Option Int->Option Int->Hp->VK->Prop) (te:TE) (tl th:TO):TE:=λσ H Q=>te σ H λx H1=>tl σ H1 λl H2=>th σ H2 λu H3=>r x l u H3 Q
theorem yU {r:V->Option Int->Option Int->Hp->VK->Prop} (hr:SlR X r) (he:PE X e te) (hl:PO X lo tl) (hu:PO X hi th):PE X (.Subscript e (.Slice lo hi none p2) pos) (tSl r te tl th):=by
 intro pins s σ H Q I h;refine Subscript_ (thn (he pins s σ H _ I h) λv s1 zz=>?_)
 obtain ⟨x,H1,I1,r1,q1⟩:=zz;refine wpAny_Slice (thn (hl pins s1 σ H1 _ I1 q1) λvl s2 ⟨l,H2,I2,pl,q2⟩=>thn (hu pins s2 σ H2 _ I2 q2) λvu s3 zz=>?_)
 obtain ⟨u,H3,I3,pu,q3⟩:=zz;rw [evalPart_none];refine wpAny_pure ?_;have I4:Inv X pins σ H3 {s3 with heap:=s3.heap.push {cls:=.type "slice",data:=.fields #[vl,vu,.none]}}:=I3.kept (t':=s3.toks) λb ob q=>Heap.get?_push_of_some _ q
 obtain ⟨T,id,hT,ht,hg⟩:=hr pins {s3 with heap:=s3.heap.push {cls:=.type "slice",data:=.fields #[vl,vu,.none]}} σ H3 x v vl vu l u s3.heap.objs.size Q I4 r1 (Heap.IsSliceOf.new ..) pl pu q3
 show wpAny (model X.prog X.w) X.A (subscriptTail e (.Slice lo hi none p2) v (.ref s3.heap.objs.size)) (EP X pins σ Q) X.xe {s3 with heap:=s3.heap.push {cls:=.type "slice",data:=.fields #[vl,vu,.none]}}
 exact tail_any (ops:=[.ref s3.heap.objs.size,v]) ht hT hg (by with_unfolding_all rfl)
noncomputable def cutV (xs:List V) (lo hi:Option Int):List V:=(xs.drop (HT.sIx xs.length 0 lo)).take (HT.sIx xs.length xs.length hi - HT.sIx xs.length 0 lo)
theorem JA (xs:List V) (lo hi:Option Int):(cutV xs lo hi).length<=xs.length:=by
 unfold cutV;rw [List.length_take,List.length_drop];omega
noncomputable def rSlT (K:PySem.W.Frag):V->Option Int->Option Int->Hp->VK->Prop:=λx lo hi H Q=>∃ a xs,x=.ref a/\SqT K H a xs/\
 ¬ (HT.sIx xs.length 0 lo=0/\HT.sIx xs.length xs.length hi=xs.length)/\∀ p,H p=none->Q (.ref p) (upd H p (.tup (cutV xs lo hi)))
theorem sl_tup:SlR X (rSlT X.K):=by
 intro pins s σ H x v vl vu lo hi sl Q I rx hs pl pu h;obtain ⟨a,xs,rfl,hx,hw,q⟩:=h;cases rx
 obtain ⟨its,r,ht,hz⟩:=I.tuple hx;have hlen:its.toArray.size=xs.length:=by rw [List.size_toArray]; exact r.length.symm
 refine ⟨"tuple",_,PyProof.Rows.slot_tuple_getitem.lookup,ht.typeIs,?_⟩;refine HT.getItem_tuple_cut ht hs pl pu (by rw [hlen]; exact hw) ?_ (by rw [hlen]; exact hz)
 rw [hlen];refine ⟨.ref s.heap.objs.size,_,I.laid (t':=s.toks) (o:=.tup (cutV xs lo hi)) (λb ob q=>Heap.get?_push_of_some _ q) (Nat.le_refl _) ?_,rfl,q _ (I.hok.fresh (Nat.le_refl _))⟩
 exact ⟨Nat.le_trans (JA xs lo hi) hz,_,(r.drop (HT.sIx xs.length 0 lo)).take (HT.sIx xs.length xs.length hi - HT.sIx xs.length 0 lo),IsTup.new _ _⟩
noncomputable def rCatT (K:PySem.W.Frag):R2:=λx y H Q=>∃ a b xs ys,x=.ref a/\y=.ref b/\SqT K H a xs/\SqT K H b ys/\xs≠[]/\xs.length+ys.length<=sizeLine/\
 (ys=[]->Q (.ref a) H)/\(ys≠[]->∀ p,H p=none->Q (.ref p) (upd H p (.tup (xs++ys))))
theorem Vals.nil_iff {xs:List V} {us:List Value} (r:Vals xs us):us=[]↔xs=[]:=by
 cases r with
 |nil=>simp
 |cons _ _=>simp
theorem op_catT:OpR X (binaryOp .Add) (rCatT X.K):=by
 intro pins s σ H x y v u Q I rx ry h;obtain ⟨a,b,xs,ys,rfl,rfl,ha,hb,hx,hz,q1,q2⟩:=h;cases rx
 cases ry
 obtain ⟨its,r1,p1,_⟩:=I.tuple ha;obtain ⟨bP,r2,p2,_⟩:=I.tuple hb;refine HT.cat_tup p1 p2 (λz=>hx (r1.nil_iff.mp z)) (λz=>⟨.ref a,H,I,rfl,q1 (r2.nil_iff.mp z)⟩) (λz=>?_) (by rw [<- r1.length,<- r2.length]; exact hz)
 refine ⟨.ref s.heap.objs.size,_,I.laid (t':=s.toks) (o:=.tup (xs++ys)) (λb ob q=>Heap.get?_push_of_some _ q) (Nat.le_refl _) ?_,rfl,q2 (λw=>z (r2.nil_iff.mpr w)) _ (I.hok.fresh (Nat.le_refl _))⟩
 exact ⟨by rw [List.length_append]; exact hz,_,r1.append r2,IsTup.new _ _⟩
end
end L2
namespace L2
open PySem PySem.Spec PyProof.Rows
noncomputable def ixN (n:Nat) (i:Int):Option Nat:=if 0<=i then (if i < n then some i.toNat else none) else if -(n:Int)<=i then some (i+n).toNat else none
noncomputable def atI {α:Type} (xs:List α) (i:Int):Option α:=(ixN xs.length i).bind λj=>xs[j]?
theorem ixN_seq {n:Nat} {i:Int} {j:Nat} (h:ixN n i=some j):seqIndex? i n=some j/\j < n/\-(n:Int)<=i/\i < n:=by
 unfold ixN at h;by_cases h0:0<=i
 ·rw [if_pos h0] at h;by_cases h1:i < n
  ·rw [if_pos h1] at h;have e:i.toNat=j:=Option.some.inj h;exact ⟨by rw [seqIndex_of h0 h1,e],by omega,by omega,h1⟩
  ·rw [if_neg h1] at h; cases h
 ·rw [if_neg h0] at h;by_cases h1:-(n:Int)<=i
  ·rw [if_pos h1] at h;have e:(i+n).toNat=j:=Option.some.inj h;exact ⟨by rw [seqIndex_neg (by omega) h1,e],by omega,h1,by omega⟩
  ·rw [if_neg h1] at h; cases h
theorem atI_get {α:Type} {xs:List α} {i:Int} {v:α} (h:atI xs i=some v):∃ j,seqIndex? i xs.length=some j/\xs[j]?=some v/\j < xs.length/\-(xs.length:Int)<=i/\i < xs.length:=by
 unfold atI at h;cases e:ixN xs.length i with
 |none=>rw [e] at h; cases h
 |some j=>
  rw [e] at h;obtain ⟨h1,h2,h3,h4⟩:=ixN_seq e;exact ⟨j,h1,h,h2,h3,h4⟩
theorem zi {α:Type} {xs:List α} {j:Nat} {v:α} (h:xs[j]?=some v):atI xs (j:Int)=some v:=by
 have hj:j < xs.length:=(List.getElem?_eq_some_iff.mp h).1;have e:ixN xs.length (j:Int)=some j:=by
  unfold ixN;rw [if_pos (by omega),if_pos (by omega)]; simp
 unfold atI; rw [e]; exact h
noncomputable def PlainIx (b:Expr):Prop:=∀ o i,subscripted b false o i=operate [o,i] (getItem o i)
noncomputable def IxR (X:Cx) (r:R2):Prop:=
 ∀ (value slice:Expr) (pins:List (Addr × Obj)) (s:Shared) (σ:St) (H:Hp) (x y:V) (v u:Value) (Q:VK),Inv X pins σ H s->RelV x v->RelV y u->r x y H Q->
  subscripted slice false v u=operate [v,u] (getItem v u)->wpAny (model X.prog X.w) X.A (subscriptTail value slice v u) (EP X pins σ Q) X.xe s
noncomputable def MtR (X:Cx) (id:String) (r:V->List V->Hp->VK->Prop):Prop:=
 ∀ (pins:List (Addr × Obj)) (s:Shared) (σ:St) (H:Hp) (x:V) (xs:List V) (v:Value) (us:List Value) (Q:VK),Inv X pins σ H s->RelV x v->Vals xs us->r x xs H Q->
  wpAny (model X.prog X.w) X.A (call (.builtin id) (v::us)) (EP X pins σ Q) X.xe s
section
variable {X:Cx} {a b:Expr} {ta tb:TE} {pos:Pos}
theorem zH {r:R2} (hr:IxR X r) (ha:PE X a ta) (hb:PE X b tb) (hs:PlainIx b):PE X (.Subscript a b pos) (tOp r ta tb):=by
 intro pins s σ H Q I h;exact Subscript_ (binT ha hb I h λv u s2 x y H2 I2 rx ry q=>hr a b pins s2 σ H2 x y v u Q I2 rx ry q (hs _ _))
noncomputable def rIxL (K:PySem.W.Frag):R2:=λx y H Q=>∃ p xs i v,x=.ref p/\y=.int i/\SqL K H p xs/\atI xs i=some v/\Q v H
noncomputable def rIxT (K:PySem.W.Frag):R2:=λx y H Q=>∃ p xs i v,x=.ref p/\y=.int i/\SqT K H p xs/\atI xs i=some v/\Q v H
theorem ix_list:IxR X (rIxL X.K):=by
 intro value slice pins s σ H x y v u Q I rx ry h hs;obtain ⟨p,xs,i,z,rfl,rfl,hq,he,q⟩:=h;cases rx
 obtain ⟨t,rfl⟩:=ry;obtain ⟨its,r,pl,hz⟩:=I.list hq;obtain ⟨j,h1,h2,h3,h4,h5⟩:=atI_get he;obtain ⟨w,ew,rw'⟩:=r.get h2;have hl:=r.length;have hn:=line63;have fin:EP X pins σ Q w s:=⟨z,H,I,rw',q⟩;by_cases h0:0<=i
 ·have hj:i.toNat=j:=by
   rw [seqIndex_of h0 h5] at h1;exact Option.some.inj h1
  exact item_listR pl.isList h0 (by omega) (by rw [hj]; simpa using ew) fin hs
 ·have hj:(i+(its.toArray.size:Int)).toNat=j:=by
   rw [seqIndex_neg (by omega) h4] at h1
   rw [List.size_toArray,<- hl];exact Option.some.inj h1
  exact subscriptTail_builtinR (x:=w) pl.isList.typeIs slot_list_getitem.lookup
   (wpAny_getItem_list_neg (Q:=λr s'=>r=w/\EP X pins σ Q r s') pl.isList (by omega) (by rw [List.size_toArray]<;>omega) (by omega) (by rw [hj]; simpa using ew) ⟨rfl,fin⟩) hs
theorem ix_tup:IxR X (rIxT X.K):=by
 intro value slice pins s σ H x y v u Q I rx ry h hs;obtain ⟨p,xs,i,z,rfl,rfl,hq,he,q⟩:=h;cases rx
 obtain ⟨t,rfl⟩:=ry;obtain ⟨its,r,pl,hz⟩:=I.tuple hq;obtain ⟨j,h1,h2,h3,h4,h5⟩:=atI_get he;obtain ⟨w,ew,rw'⟩:=r.get h2;have hl:=r.length;have hn:=line63;have fin:EP X pins σ Q w s:=⟨z,H,I,rw',q⟩;exact subscriptTail_builtinR (x:=w) pl.typeIs slot_tuple_getitem.lookup
  (getItem_tuple (j:=j) (Q:=λr s'=>r=w/\EP X pins σ Q r s') pl (by omega) (by omega) (by rw [List.size_toArray,<- hl]; exact h1) (by simpa using ew) ⟨rfl,fin⟩) hs
theorem mapSeq_set (its:List Value) (n j:Nat) (u:Value):Obj.mapSeq (·.setIfInBounds j u) {cls:=.type "list",data:=.seq its.toArray n}={cls:=.type "list",data:=.seq (its.set j u).toArray n}:=by
 simp [Obj.mapSeq]
theorem Inv.lst {pins:List (Addr × Obj)} {σ:St} {H:Hp} {s:Shared} {p:Addr} {xs:List V} (I:Inv X pins σ H s) (h:H p=some (.lst xs)) :
  ∃ (its:List Value) (n:Nat),Vals xs its/\s.heap.get? p=some {cls:=.type "list",data:=.seq its.toArray n}/\xs.length<=sizeLine:=by
 obtain ⟨z,its,n,r,e⟩:=I.hok p _ h;exact ⟨its,n,r,e,z⟩
theorem Inv.lstUpd {pins:List (Addr × Obj)} {σ:St} {H:Hp} {s:Shared} {p:Addr} {xs ys:List V} {its its':List Value} {n n':Nat} {f:Obj->Obj} (I:Inv X pins σ H s) (h:H p=some (.lst xs))
  (ho:s.heap.get? p=some {cls:=.type "list",data:=.seq its.toArray n}) (hf:f {cls:=.type "list",data:=.seq its.toArray n}={cls:=.type "list",data:=.seq its'.toArray n'}) (r:Vals ys its') (hz:ys.length<=sizeLine) (t:Nat) :
  Inv X pins σ (upd H p (.lst ys)) {s with heap:=s.heap.update p f,toks:=t}:=by
 have e:(s.heap.update p f).get? p=some {cls:=.type "list",data:=.seq its'.toArray n'}:=by
  rw [Heap.get?_update_self f ho (by rw [hf]<;>rfl),hf]
 refine I.write (x:=p) (e:=p) (by rw [h]; trivial) (.inl rfl) (λb u hb q=>(Heap.get?_update_other _ _ (Ne.symm hb)).trans q) ⟨_,e⟩ ?_
 exact ⟨hz,its',n',r,e⟩
noncomputable def rSetL:V->V->V->Hp->(Hp->Prop)->Prop:=λo i v H Q=>∃ p xs k j,o=.ref p/\i=.int k/\H p=some (.lst xs)/\ixN xs.length k=some j/\Q (upd H p (.lst (xs.set j v)))
theorem Zj:PSet X rSetL:=by
 intro pins s σ H o i v ov iv u Q I ro ri rv h;obtain ⟨p,xs,k,j,rfl,rfl,hp,hj,q⟩:=h;cases ro
 obtain ⟨t,rfl⟩:=ri;obtain ⟨its,n,r,ho,hz⟩:=I.lst hp;obtain ⟨h1,h2,h3,h4⟩:=ixN_seq hj;have hl:=r.length;have hn:=line63;have I':Inv X pins σ (upd H p (.lst (xs.set j v))) {s with heap:=s.heap.update p (Obj.mapSeq (·.setIfInBounds j u))}:=
  I.lstUpd hp ho (mapSeq_set its n j u) (r.set rv j) (by rw [List.length_set]; exact hz) s.toks
 by_cases h0:0<=k
 ·have hk:k.toNat=j:=by
   rw [seqIndex_of h0 h4] at h1;exact Option.some.inj h1
  exact PySem.W.ki_setAt ho h0 (by omega) (by rw [List.size_toArray,<- hl]; exact h4) (by rw [hk]; exact ⟨_,I',q⟩)
 ·have hk:(k+(its.toArray.size:Int)).toNat=j:=by
   rw [seqIndex_neg (by omega) h3] at h1
   rw [List.size_toArray,<- hl];exact Option.some.inj h1
  exact PySem.W.ki_setBack ho (by omega) (by rw [List.size_toArray,<- hl]; exact h3) (by omega) (by rw [hk]; exact ⟨_,I',q⟩)
theorem slice_bounds (lo hi:Option Int) (n:Nat):(sliceBounds lo hi none n).1=((HT.sIx n 0 lo:Nat):Int)/\(sliceBounds lo hi none n).2.1=((HT.sIx n n hi:Nat):Int)/\(sliceBounds lo hi none n).2.2=1:=by
 refine ⟨?_,?_,rfl⟩
 ·cases lo with
  |none=>simp [sliceBounds,HT.sIx]
  |some i=>
   simp only [sliceBounds,HT.sIx,Option.getD_none,show (1:Int) > 0 by decide,if_true]
   by_cases h:i < 0
   ·simp only [h,if_true]<;>omega
   ·simp only [h,if_false]<;>omega
 ·cases hi with
  |none=>simp [sliceBounds,HT.sIx]
  |some i=>
   simp only [sliceBounds,HT.sIx,Option.getD_none,show (1:Int) > 0 by decide,if_true]
   by_cases h:i < 0
   ·simp only [h,if_true]<;>omega
   ·simp only [h,if_false]<;>omega
theorem slicePick_cut (its:List Value) (lo hi:Option Int):slicePick its.toArray lo hi none=((its.drop (HT.sIx its.length 0 lo)).take (HT.sIx its.length its.length hi - HT.sIx its.length 0 lo)).toArray:=by
 obtain ⟨h1,h2,h3⟩:=slice_bounds lo hi its.toArray.size;unfold slicePick;rw [h1,h2,h3];simp only [sliceRange_one,pick_run,List.size_toArray]<;>rfl
noncomputable def rSlL (K:PySem.W.Frag):V->Option Int->Option Int->Hp->VK->Prop:=λx lo hi H Q=>∃ a xs,x=.ref a/\SqL K H a xs/\∀ p,H p=none->Q (.ref p) (upd H p (.lst (cutV xs lo hi)))
theorem Yc:SlR X (rSlL X.K):=by
 intro pins s σ H x v vl vu lo hi sl Q I rx hs pl pu h;obtain ⟨a,xs,rfl,hx,q⟩:=h;cases rx
 obtain ⟨its,r,ht,hz⟩:=I.list hx;have hlen:=r.length;refine ⟨"list",_,slot_list_getitem.lookup,ht.isList.typeIs,?_⟩;refine wpAny_getItem_list_slice ht.isList hs pl pu .none (by simp) ?_ (by rw [List.size_toArray]<;>omega)
 rw [slicePick_cut,<- hlen];refine ⟨.ref s.heap.objs.size,_,I.laid (t':=s.toks) (o:=.lst (cutV xs lo hi)) (λb ob q=>Heap.get?_push_of_some _ q) (Nat.le_refl _) ?_,rfl,q _ (I.hok.fresh (Nat.le_refl _))⟩
 exact ⟨Nat.le_trans (JA xs lo hi) hz,_,0,(r.drop (HT.sIx xs.length 0 lo)).take (HT.sIx xs.length xs.length hi - HT.sIx xs.length 0 lo),Heap.get?_push_size _ rfl⟩
noncomputable def YV:V->Bool
 |.non=>true
 |.bl _=>true
 |.int _=>true
 |.str _=>true
 |_=>false
noncomputable def eqV:V->V->Bool
 |.non,.non=>true
 |.bl a,.bl b=>a == b
 |.bl a,.int b=>(if a then 1 else 0) == b
 |.int a,.bl b=>a == (if b then 1 else 0)
 |.int a,.int b=>a == b
 |.str a,.str b=>a == b
 |_,_=>false
theorem eqAt_V {A:Around} {s:Shared} {y x:V} {u v:Value} (ry:RelV y u) (rx:RelV x v) (fy:YV y=true) (fx:YV x=true):SeqAt.EqAt A s u v (eqV y x):=by
 cases y with
 |non=>
  cases ry
  cases x with
  |non=>cases rx; exact SeqAt.EqAt.same _
  |bl b=>cases rx; exact SeqAt.EqAt.none_bool b
  |int b=>obtain ⟨t,rfl⟩:=rx; exact SeqAt.EqAt.none_int b t
  |str b=>obtain ⟨t,rfl⟩:=rx; exact SeqAt.EqAt.none_str b t
  |_=>exact absurd (show false=true from fx) Bool.false_ne_true
 |bl a=>
  cases ry
  cases x with
  |non=>cases rx; exact SeqAt.EqAt.bool_none a
  |bl b=>cases rx; exact SeqAt.EqAt.bool_bool a b
  |int b=>obtain ⟨t,rfl⟩:=rx; exact SeqAt.EqAt.bool_int a b t
  |str b=>obtain ⟨t,rfl⟩:=rx; exact SeqAt.EqAt.bool_str a b t
  |_=>exact absurd (show false=true from fx) Bool.false_ne_true
 |int a=>
  obtain ⟨t',rfl⟩:=ry;cases x with
  |non=>cases rx; exact SeqAt.EqAt.int_none a t'
  |bl b=>cases rx; exact SeqAt.EqAt.int_bool a t' b
  |int b=>obtain ⟨t,rfl⟩:=rx; exact SeqAt.EqAt.int_int a t' b t
  |str b=>obtain ⟨t,rfl⟩:=rx; exact SeqAt.EqAt.int_str a t' b t
  |_=>exact absurd (show false=true from fx) Bool.false_ne_true
 |str a=>
  obtain ⟨t',rfl⟩:=ry;cases x with
  |non=>cases rx; exact SeqAt.EqAt.str_none a t'
  |bl b=>cases rx; exact SeqAt.EqAt.str_bool a t' b
  |int b=>obtain ⟨t,rfl⟩:=rx; exact SeqAt.EqAt.str_int a t' b t
  |str b=>obtain ⟨t,rfl⟩:=rx; exact SeqAt.EqAt.str_str a t' b t
  |_=>exact absurd (show false=true from fx) Bool.false_ne_true
 |_=>exact absurd (show false=true from fy) Bool.false_ne_true
noncomputable def eqU (x:V) (u:Value):Bool:=match u with
 |.none=>eqV .non x
 |.bool b=>eqV (.bl b) x
 |.int i _=>eqV (.int i) x
 |.str z _=>eqV (.str z) x
 |_=>false
theorem eqU_of {x y:V} {u:Value} (r:RelV y u) (f:YV y=true):eqU x u=eqV y x:=by
 cases y with
 |non=>cases r; rfl
 |bl b=>cases r; rfl
 |int i=>obtain ⟨t,rfl⟩:=r; rfl
 |str z=>obtain ⟨t,rfl⟩:=r; rfl
 |_=>exact absurd (show false=true from f) Bool.false_ne_true
theorem any_eqU {x:V}:∀ {xs:List V} {us:List Value},Vals xs us->xs.all YV=true->us.any (eqU x)=xs.any λy=>eqV y x
 |_,_,.nil,_=>rfl
 |y::xs,u::us,.cons r t,f=>by
  rw [List.all_cons,Bool.and_eq_true] at f;rw [List.any_cons,List.any_cons,eqU_of r f.1,any_eqU t f.2]
theorem Jy {A:Around} {s:Shared} {x:V} {v:Value} (rx:RelV x v) (fx:YV x=true):∀ {xs:List V} {us:List Value},Vals xs us->xs.all YV=true->∀ u∈us,SeqAt.EqAt A s u v (eqU x u)
 |_,_,.nil,_=>λu hu=>by cases hu
 |y::xs,u::us,.cons r t,f=>λu' hu=>by
  rw [List.all_cons,Bool.and_eq_true] at f;rcases List.mem_cons.mp hu with rfl|hu
  ·rw [eqU_of r f.1]; exact eqAt_V r rx f.1 fx
  ·exact Jy rx fx t f.2 u' hu
noncomputable def inV (x:V) (xs:List V):Bool:=xs.any λy=>eqV y x
noncomputable def rIn (K:PySem.W.Frag) (neg:Bool):R2:=λx y H Q=>∃ p xs,y=.ref p/\(SqL K H p xs\/SqT K H p xs)/\YV x=true/\xs.all YV=true/\Q (.bl (if neg then !inV x xs else inV x xs)) H
theorem Zw:OpR X (compareOp .In) (rIn X.K false):=by
 intro pins s σ H x y v u Q I rx ry h;obtain ⟨p,xs,rfl,hq,fx,fs,q⟩:=h;cases ry
 rcases hq with hq|hq
 ·obtain ⟨its,r,pl,hz⟩:=I.list hq;refine SeqAt.in_listAt (eqU x) pl.isList (λw hw=>Jy rx fx r fs w (by simpa using hw)) ⟨.bl _,H,I,rfl,?_⟩
  rw [show its.toArray.any (eqU x)=its.any (eqU x) by simp,any_eqU r fs]
  exact q
 ·obtain ⟨its,r,pl,hz⟩:=I.tuple hq;refine SeqAt.in_tupleAt (eqU x) pl (λw hw=>Jy rx fx r fs w (by simpa using hw)) ⟨.bl _,H,I,rfl,?_⟩
  rw [show its.toArray.any (eqU x)=its.any (eqU x) by simp,any_eqU r fs]
  exact q
theorem ZA:yx X (.type "list") (λxs H Q=>∃ p ys,xs=[.ref p]/\(SqL X.K H p ys\/SqT X.K H p ys)/\∀ l,H l=none->Q (.ref l) (upd H l (.lst ys))):=by
 intro pins s σ H xs us Q I r h;obtain ⟨p,ys,rfl,hq,q⟩:=h;obtain ⟨u,rfl,rx⟩:=Zn r;cases rx
 have fin:∀ (its:List Value),Vals ys its->ys.length<=sizeLine->∀ (h':Heap) (c':Nat),(∀ b o',s.heap.get? b=some o'->h'.get? b=some o')->
   h'.get? s.heap.objs.size=some {cls:=.type "list",dict:=none,data:=.seq its.toArray c',slots:=#[]}->EP X pins σ Q (.ref s.heap.objs.size) {s with heap:=h'}:=λits r' hz h' c' kp e=>
  ⟨.ref s.heap.objs.size,_,I.laid (t':=s.toks) kp (Nat.le_refl _) (show zg X.prog X.w _ h' _ (.lst ys) from ⟨hz,its,c',r',e⟩),rfl,q _ (I.hok.fresh (Nat.le_refl _))⟩
 rcases hq with hq|hq
 ·obtain ⟨its,r',pl,hz⟩:=I.list hq;have hlen:=r'.length;obtain ⟨o,ho,hc,n,hd⟩:=pl.isList;exact call_list_seq p (.inl rfl) ho hc hd (λh' c' kp e=>fin its r' hz h' c' kp e) (by simp only [List.size_toArray]<;>omega)
 ·obtain ⟨its,r',pl,hz⟩:=I.tuple hq;have hlen:=r'.length;obtain ⟨o,ho,hc,n,hd⟩:=pl;exact call_list_seq p (.inr rfl) ho hc hd (λh' c' kp e=>fin its r' hz h' c' kp e) (by simp only [List.size_toArray]<;>omega)
theorem Z4:yx X (.type "tuple") (λxs H Q=>∃ p ys,xs=[.ref p]/\((SqL X.K H p ys/\∀ l,H l=none->Q (.ref l) (upd H l (.tup ys)))\/(SqT X.K H p ys/\Q (.ref p) H))):=by
 intro pins s σ H xs us Q I r h;obtain ⟨p,ys,rfl,h⟩:=h;obtain ⟨u,rfl,rx⟩:=Zn r;cases rx
 rcases h with ⟨hq,q⟩|⟨hq,q⟩
 ·obtain ⟨its,r',pl,hz⟩:=I.list hq;have hlen:=r'.length;refine call_tuple_list pl.isList (λh' kp=>?_) (by simp only [List.size_toArray]<;>omega)
  have I1:Inv X pins σ H {s with heap:=h'}:=I.kept (t':=s.toks) kp
  have I2:Inv X pins σ (upd H h'.objs.size (.tup ys)) {s with heap:=h'.push {cls:=.type "tuple",data:=.seq its.toArray}}:=
   I1.laid (t':=s.toks) (λb o e=>Heap.get?_push_of_some _ e) (Nat.le_refl _) (show zg X.prog X.w _ _ _ (.tup ys) from ⟨hz,its,r',IsTup.new _ _⟩)
  exact ⟨.ref h'.objs.size,_,I2,rfl,q _ (I1.hok.fresh (Nat.le_refl _))⟩
 ·obtain ⟨its,r',pl,hz⟩:=I.tuple hq;exact call_tuple_same pl ⟨.ref p,H,I,rfl,q⟩
noncomputable def tyV (K:PySem.W.Frag) (T:String) (x:V) (H:Hp):Prop:=match x with
 |.str _=>T="str"
 |.int _=>T="int"
 |.ref p=>(T="list"/\∃ xs,SqL K H p xs)\/(T="tuple"/\∃ o,K.lookup p=some o/\o.cls=.type "tuple"/\o.dict=none)\/
   (T="dict"/\((∃ kvs,H p=some (.dK kvs))\/∃ kvs,H p=some (.dT kvs)))\/(T="set"/\∃ S n,H p=some (.set S n))
 |_=>False
theorem tyV_is {pins:List (Addr × Obj)} {σ:St} {H:Hp} {s:Shared} {T:String} {x:V} {v:Value} (I:Inv X pins σ H s) (r:RelV x v) (ty:tyV X.K T x H) :
  s.TypeIs v T/\∀ a,v=.ref a->∃ ob,s.heap.get? a=some ob/\ob.dict=none:=by
 cases x with
 |str z=>
  obtain ⟨t,rfl⟩:=r;cases (show T="str" from ty)
  exact ⟨typeIs_str s z t,λ_ e=>nomatch e⟩
 |int i=>
  obtain ⟨t,rfl⟩:=r;cases (show T="int" from ty)
  exact ⟨typeIs_int s i t,λ_ e=>nomatch e⟩
 |ref p=>
  cases r
  rcases ty with ⟨rfl,xs,hq⟩|⟨rfl,o,hk,hc,hd⟩|⟨rfl,hk⟩|⟨rfl,S,n,hk⟩
  ·obtain ⟨its,_,pl,_⟩:=I.list hq;refine ⟨pl.isList.typeIs,λa e=>?_⟩
   cases e
   obtain ⟨o,n,e,c,hd,_⟩:=pl;exact ⟨o,e,hd⟩
  ·refine ⟨⟨o,I.kIn p o hk,hc⟩,λa e=>?_⟩
   cases e
   exact ⟨o,I.kIn _ o hk,hd⟩
  ·have z:∃ o,s.heap.get? p=some o/\o.ExactDict:=by
    rcases hk with ⟨kvs,hk⟩|⟨kvs,hk⟩
    ·obtain ⟨_,_,_,_,o,_,_,e,ex,_⟩:=I.hok p _ hk;exact ⟨o,e,ex⟩
    ·obtain ⟨_,_,_,_,o,_,_,e,ex,_⟩:=I.hok p _ hk;exact ⟨o,e,ex⟩
   obtain ⟨o,e,ex⟩:=z;refine ⟨⟨o,e,ex.1⟩,λa e2=>?_⟩
   cases e2
   exact ⟨o,e,ex.2.1⟩
  ·obtain ⟨o,_,_,_,e,ex,_⟩:=I.hok p _ hk;refine ⟨⟨o,e,ex.1⟩,λa e2=>?_⟩
   cases e2
   exact ⟨o,e,ex.2.1⟩
 |_=>exact False.elim ty
noncomputable def tBM0 (K:PySem.W.Frag) (T:String) (r:V->List V->Hp->VK->Prop) (to:TE):TE:=λσ H Q=>to σ H λx H1=>tyV K T x H1/\r x [] H1 Q
noncomputable def tBM (K:PySem.W.Frag) (T:String) (r:V->List V->Hp->VK->Prop) (to:TE) (t:TA):TE:=λσ H Q=>to σ H λx H1=>tyV K T x H1/\t σ H1 λxs H2=>r x xs H2 Q
variable {o e:Expr} {es:List Expr} {to:TE} {t:TA} {name:Str} {apos cpos:Pos} {T id:String} {r:V->List V->Hp->VK->Prop}
theorem pe_bm0 (pa:PlainAttrs T) (slot:Slot T name id) (hty:typeOf (.builtin id)=pure (.type "method_descriptor")) (hm:MtR X id r) (ho:PE X o to)
  (hbase:attributeBase o name X.env (eval o X.env)=eval o X.env:=by rfl) (hline:(apos.endLine == cpos.line)=true:=by rfl):PE X (.Call (.Attribute o name apos) [] [] cpos) (tBM0 X.K T r to):=by
 intro pins s σ H Q I h;refine wpAny_Call_method0_late hbase hline (thn (ho pins s σ H _ I h) λv s1 zz=>?_)
 obtain ⟨x,H1,I1,r1,ty,q1⟩:=zz;obtain ⟨h1,h2⟩:=tyV_is I1 r1 ty;exact ⟨T,id,pa,slot,hty,h1,h2,Calls.callWith_builtin rfl (PySem.evalArgs_none (hm pins s1 σ H1 x [] v [] Q I1 r1 .nil q1))⟩
theorem pe_bm (pa:PlainAttrs T) (slot:Slot T name id) (hty:typeOf (.builtin id)=pure (.type "method_descriptor")) (hm:MtR X id r) (ho:PE X o to) (ha:PA X (e::es) t)
  (hbase:attributeBase o name X.env (eval o X.env)=eval o X.env:=by rfl)
  (hfew:((backTo cpos (starEach (e::es) X.env)).all (λx=>!x.1) && (backToKw cpos (keywordEach [] X.env)).all (λx=>x.1.isSome)
   && decide ((e::es).length+([]:List Keyword).length+(if ([]:List Keyword).isEmpty then 0 else 1) < 30))=true:=by rfl)
  (hline:(apos.endLine == cpos.line)=true:=by rfl) (hs:starEach (e::es) X.env=(false,eval e X.env)::starEach es X.env:=by rfl) (hplain:(backTo cpos (starEach es X.env)).any (·.1)=false:=by rfl) :
  PE X (.Call (.Attribute o name apos) (e::es) [] cpos) (tBM X.K T r to t):=by
 intro pins s σ H Q I h;refine wpAny_Call_method_late hbase hfew hline rfl (thn (ho pins s σ H _ I h) λv s1 zz=>?_)
 obtain ⟨x,H1,I1,r1,ty,q1⟩:=zz;obtain ⟨h1,h2⟩:=tyV_is I1 r1 ty;refine ⟨T,id,pa,slot,hty,h1,h2,?_⟩;have hA:=ha cpos pins s1 σ H1 _ I1 q1;rw [hs] at hA ⊢;refine Calls.callWith_builtin (by show (false || (backTo cpos (starEach es X.env)).any (·.1))=false; rw [hplain]<;>rfl) (Calls.evalArgs_plain ?_)
 exact thn hA λus s2 ⟨vs,H2,I2,r2,q2⟩=>hm pins s2 σ H2 x vs v us Q I2 r1 r2 q2
end
end L2
namespace L2
open PySem PySem.Spec PyProof.Rows
noncomputable def MtM (X:Cx) (id:String) (r:V->List V->Hp->VK->Prop):Prop:=
 ∀ (pins:List (Addr × Obj)) (s:Shared) (σ:St) (H:Hp) (x:V) (xs:List V) (v:Value) (us:List Value) (Q:VK),Inv X pins σ H s->RelV x v->Vals xs us->r x xs H Q->
  wpAny (model X.prog X.w) X.A (call (.builtin id) (v::us)) (EP X pins σ Q) X.xe s
theorem Vals.one:∀ {x:V} {us:List Value},Vals [x] us->∃ u,us=[u]/\RelV x u
 |_,_,.cons r .nil=>⟨_,rfl,r⟩
theorem Vals.rep {xs:List V} {us:List Value} (h:Vals xs us):∀ k:Nat,Vals (List.replicate k xs).flatten (List.replicate k us).flatten
 |0=>.nil
 |k+1=>by
  rw [List.replicate_succ,List.replicate_succ,List.flatten_cons,List.flatten_cons];exact Vals.append h (Vals.rep h k)
theorem foldl_rep (its:List Value):∀ (k:Nat) (acc:List Value),
  List.foldl (λx1 x2=>x1++x2) acc.toArray (List.replicate k its.toArray)=(acc++(List.replicate k its).flatten).toArray
 |0,acc=>by simp
 |k+1,acc=>by
  have e:acc.toArray++its.toArray=(acc++its).toArray:=by simp
  have e2:(acc++its)++(List.replicate k its).flatten=acc++(List.replicate (k+1) its).flatten:=by
   rw [List.replicate_succ,List.flatten_cons,List.append_assoc]
  rw [<- e2,<- foldl_rep its k (acc++its),<- e,List.replicate_succ,List.foldl_cons]
section
variable {X:Cx} {pins:List (Addr × Obj)} {σ:St} {H:Hp} {s:Shared} {l b:Addr} {xs ys zs:List V}
theorem Inv.lset {its its':List Value} {n:Nat} {f:Array Value->Array Value} {t':Nat} (I:Inv X pins σ H s) (hH:H l=some (.lst xs))
  (e:s.heap.get? l=some {cls:=.type "list",data:=.seq its.toArray n}) (hf:f its.toArray=its'.toArray) (hv:Vals ys its') (hz:ys.length<=sizeLine) :
  Inv X pins σ (upd H l (.lst ys)) {s with heap:=s.heap.update l (Obj.mapSeq f),toks:=t'}:=by
 have q:=PySem.IsL.update e f;rw [hf] at q;refine I.write (x:=l) (e:=l) (by rw [hH]; exact trivial) (.inl rfl) (λb' u hb hu=>(Heap.get?_update_other s.heap (Obj.mapSeq f) (Ne.symm hb)).trans hu) ⟨_,q⟩ ?_
 exact ⟨hz,its',_,hv,q⟩
theorem Inv.lnew {its:List Value} {t':Nat} (I:Inv X pins σ H s) (hv:Vals ys its) (hz:ys.length<=sizeLine) :
  Inv X pins σ (upd H s.heap.objs.size (.lst ys)) {s with heap:=s.heap.push {cls:=.type "list",data:=.seq its.toArray},toks:=t'}:=
 I.laid (λ_ _ q=>Heap.get?_push_of_some _ q) (Nat.le_refl _) ⟨hz,its,0,hv,Heap.get?_push_size _ rfl⟩
theorem Inv.fresh (I:Inv X pins σ H s):H s.heap.objs.size=none:=I.hok.fresh (Nat.le_refl _)
theorem Inv.lstM (I:Inv X pins σ H s) (hH:H l=some (.lst xs)):xs.length<=sizeLine/\∃ (its:List Value) (n:Nat),Vals xs its/\xs.length=its.length/\s.heap.get? l=some {cls:=.type "list",data:=.seq its.toArray n}:=by
 obtain ⟨z,its,n,r,e⟩:=I.hok l _ hH;exact ⟨z,its,n,r,r.length,e⟩
theorem notLongL {n:Nat} (h:n<=sizeLine):Builtin.List.listTooLong n=false:=by
 unfold Builtin.List.listTooLong;exact decide_eq_false (by omega)
end
section
variable {X:Cx}
noncomputable def rAppend:V->List V->Hp->VK->Prop:=λx vs H Q=>∃ l xs y,x=.ref l/\vs=[y]/\H l=some (.lst xs)/\xs.length < sizeLine/\Q .non (upd H l (.lst (xs++[y])))
theorem ju:MtM X "list.append" rAppend:=by
 intro pins s σ H x vs v us Q I rx rv h;obtain ⟨l,xs,y,rfl,rfl,hH,hz,q⟩:=h;cases rx
 obtain ⟨u,rfl,ru⟩:=rv.one;obtain ⟨z,its,n,r,hl,e⟩:=I.lstM hH;refine call_meets F.slot_list_append ⟨_,e,rfl⟩ F.entry_list_append (F.args_list_append_2 _ _) (PySem.list_append l its.toArray n u (by rw [List.size_toArray]; omega)) ⟨e,?_⟩
 refine ⟨.non,_,I.lset (its':=its++[u]) hH e (by simp) (r.append (.cons ru .nil)) ?_,rfl,q⟩
 rw [List.length_append,List.length_singleton];omega
noncomputable def rExtend:V->List V->Hp->VK->Prop:=λx vs H Q=>∃ l b xs zs,x=.ref l/\vs=[.ref b]/\H l=some (.lst xs)/\H b=some (.lst zs)/\xs.length+zs.length<=sizeLine/\Q .non (upd H l (.lst (xs++zs)))
theorem mt_extend:MtM X "list.extend" rExtend:=by
 intro pins s σ H x vs v us Q I rx rv h;obtain ⟨l,b,xs,zs,rfl,rfl,hH,hB,hz,q⟩:=h;cases rx
 obtain ⟨u,rfl,ru⟩:=rv.one;cases ru
 obtain ⟨z,its,n,r,hl,e⟩:=I.lstM hH;obtain ⟨z2,bP,n2,r2,nZ,e2⟩:=I.lstM hB;have hsz:its.toArray.size+bP.toArray.size<=sizeLine:=by rw [List.size_toArray,List.size_toArray]; omega
 have hlong:¬ (!its.toArray.isEmpty && Builtin.List.listTooLong (its.toArray.size+bP.toArray.size))=true:=by
  rw [notLongL hsz,Bool.and_false];exact Bool.false_ne_true
 refine call_meets F.slot_list_extend ⟨_,e,rfl⟩ F.entry_list_extend (F.args_list_extend_2 _ _)
  (AutoSeq1.list_extend_list_list_0 l its.toArray n b bP.toArray n2 hlong (by rw [List.size_toArray]; omega) (by omega)) ⟨e,e2,?_⟩
 refine ⟨.non,_,I.lset (its':=its++bP) hH e (by simp) (r.append r2) ?_,rfl,q⟩
 rw [List.length_append];omega
noncomputable def rCat:R2:=λx y H Q=>∃ l b xs zs,x=.ref l/\y=.ref b/\H l=some (.lst xs)/\H b=some (.lst zs)/\xs.length+zs.length<=sizeLine/\∀ p,H p=none->Q (.ref p) (upd H p (.lst (xs++zs)))
theorem YB:OpR X (binaryOp .Add) rCat:=by
 intro pins s σ H x y v u Q I rx ry h;obtain ⟨l,b,xs,zs,rfl,rfl,hH,hB,hz,q⟩:=h;cases rx
 cases ry
 obtain ⟨z,its,n,r,hl,e⟩:=I.lstM hH;obtain ⟨z2,bP,n2,r2,nZ,e2⟩:=I.lstM hB;refine PySem.P.add_list e e2 ?_ (by rw [List.size_toArray,List.size_toArray]; omega)
 have ea:its.toArray++bP.toArray=(its++bP).toArray:=by simp
 rw [ea];exact ⟨.ref _,_,I.lnew (t':=s.toks) (r.append r2) (by rw [List.length_append]; omega),rfl,q _ I.fresh⟩
noncomputable def rRep:R2:=λx y H Q=>∃ l k xs,x=.ref l/\y=.int k/\H l=some (.lst xs)/\-(2 ^ 63)<=k/\k < 2 ^ 63/\xs.length * k.toNat<=sizeLine/\
 ∀ p,H p=none->Q (.ref p) (upd H p (.lst (List.replicate k.toNat xs).flatten))
theorem len_rep {α:Type} (xs:List α) (k:Nat):(List.replicate k xs).flatten.length=k * xs.length:=by
 induction k with
 |zero=>simp
 |succ k ih=>rw [List.replicate_succ,List.flatten_cons,List.length_append,ih,Nat.succ_mul,Nat.add_comm]
theorem op_rep:OpR X (binaryOp .Mult) rRep:=by
 intro pins s σ H x y v u Q I rx ry h;obtain ⟨l,k,xs,rfl,rfl,hH,h1,h2,hz,q⟩:=h;cases rx
 obtain ⟨t,rfl⟩:=ry;obtain ⟨z,its,n,r,hl,e⟩:=I.lstM hH;have hlen:its.toArray.size * k.toNat<=sizeLine:=by rw [List.size_toArray,<- hl]; exact hz
 have hcap:¬ its.toArray.size * k.toNat > (2 ^ 63 - 1) / 8:=by
  have:(sizeLine:Nat)<=(2 ^ 63 - 1) / 8:=by decide
  omega
 have hfit:¬ (!Builtin.List.listFitsIndex k)=true:=by
  rw [fitsIndex_both h1 h2];exact Bool.false_ne_true
 have hlong:¬ Builtin.List.listTooLong (its.toArray.size * k.toNat)=true:=by
  rw [notLongL hlen];exact Bool.false_ne_true
 have hnew:List.foldl (λx1 x2=>x1++x2) #[] (List.replicate (if its.toArray.isEmpty=true then 0 else k.toNat) its.toArray)=(List.replicate k.toNat its).flatten.toArray:=by
  have f0:∀ m:Nat,List.foldl (λx1 x2=>x1++x2) #[] (List.replicate m its.toArray)=(List.replicate m its).flatten.toArray:=λm=>by
   have:=foldl_rep its m [];rw [List.nil_append] at this;exact this
  rw [f0];cases its with
  |nil=>simp
  |cons a r'=>rw [if_neg (by simp)]
 refine wpAny_binaryOp_repeat_ref (T:="list") (U:="int") (by decide) ⟨_,e,rfl⟩ (λs'=>typeIs_int s' k t) noFill_list_mul F.fills_int_mul F.slot_int_rmul repeat_list F.slot_int_index.lookup
  (call_meets F.slot_int_rmul (typeIs_int s k t) F.entry_int_rmul (F.args_int_rmul_2 _ _) (int___rmul___int_list k t l its.toArray n)
   ⟨e,rfl,⟨_,e,rfl⟩,call_meets F.slot_list_mul ⟨_,e,rfl⟩ F.entry_list_mul (F.args_list_mul_2 _ _) (AutoListH.list___mul___list_int_3 l its.toArray n k t hfit hcap hlong) ⟨e,?_⟩⟩)
 rw [hnew];exact ⟨.ref _,_,I.lnew (t':=s.toks) (r.rep k.toNat) (by rw [len_rep,Nat.mul_comm]; exact hz),rfl,q _ I.fresh⟩
end
section
variable {prog:Program} {w:World} {A:Around} {E:Value->Shared->Prop} {s:Shared}
end
section
variable {X:Cx}
end
end L2
namespace Att
open PySem PySem.W PySem.Calls PyProof.Rows
theorem ints_of_wellAll {P:Params} {h:Heap}:∀ (ns:List Int) (vs:List Value),WellAll P h vs (ns.map WData.int)->IntsAre vs ns:=by
 intro ns;induction ns with
 |nil=>
  intro vs w;rw [List.map_nil] at w;cases w
  exact .nil
 |cons n ns ih=>
  intro vs w;rw [List.map_cons] at w;cases w with
  |cons a b=>
   cases a
   exact .cons _ _ (ih _ b)
theorem script_of {l:OpenLaw} {n:Nat} (hn:l.most=some n) {P:Params} {h:Heap} {args:List WData} {vals:List Value}
  (hpre:l.row.toRowW.claim.pre args=true) (hwl:WellAll P h vals args) :
  ∃ a vs ns,vals=[Value.ref a]/\args=[WData.list (ns.map WData.int)]/\h.get? a=some {cls:=.type "list",data:=.seq vs.toArray}/\IntsAre vs ns/\ns.length<=n:=by
 have hsh:WShape.hasAll [] args [.list .int]=true:=(pre_splitW hpre).1;have hc:l.pre.holds [] {args:=args}=true:=(pre_splitW hpre).2;obtain ⟨d,r,rfl,h1,h2⟩:=hasAllW_cons hsh;obtain rfl:=hasAllW_nil h2;obtain ⟨xs,rfl,h3⟩:=hasW_list h1;obtain ⟨ns,rfl⟩:=items_int h3;have hlen:ns.length<=n:=by
  unfold OpenLaw.pre at hc;have h4:(WTm.not (.lt (.lit (.int (n:Int))) (.len (.arg 0)))).holds [] {args:=[.list (ns.map .int)]}=true:=by
   have h4:=(holds_andW hc).1;rw [hn] at h4;exact h4
  have h5:=condW_of h4 (w_not (w_lt w_lit (w_len_list (w_arg rfl))));rw [List.length_map] at h5;refine Nat.le_of_not_lt λq=>?_
  have q':(n:Int) < ((ns.length:Nat):Int):=by omega
  first
   | (rw [decide_eq_true q'] at h5; exact absurd h5 (by decide))
   | (simp at h5; omega)
 cases hwl with
 |cons w1 w2=>
  cases w2
  cases w1 with
  |list ho hall=>exact ⟨_,_,ns,rfl,rfl,ho,ints_of_wellAll ns _ hall,hlen⟩
theorem post_true (l:OpenLaw) (args:List WData):l.row.toRowW.claim.post args (.bool true) args=true:=
 postW_of (r:=l.row.toRowW) (X:=(true == true))
  (show WShape.has [] (.bool true) .bool=true by first|rfl|decide|simp [WShape.has,WShape.arms,WShape.armsAll])
  (show (WTm.eq .res (.lit (.bool true))).value [] {args:=args,res:=some (.bool true),after:=args}=some (.bool (true == true)) from w_eq_bool (w_res rfl) w_lit) rfl
section
variable {prog:Program} {w:World} {A:Around} {E:Value->Shared->Prop} {s:Shared} {K:Frag}
end
end Att
namespace L2
open PySem PySem.Spec PyProof.Rows
theorem vals_ints:∀ {vs:List Value} {ns:List Int},IntsAre vs ns->Vals (ns.map V.int) vs
 |_,_,.nil=>.nil
 |_,_,.cons n t h=>.cons ⟨t,rfl⟩ (vals_ints h)
noncomputable def Only (H:Hp):Prop:=∀ b,H b=none\/∃ o xs,H b=some (.frz o (.lst xs))
theorem law_call {P:Program} {w:World} {K:PySem.W.Frag} {mg mb:Str->Option Value} {CX:CXT} {k:Nat} {fa a:Addr} {fd:FuncData} {x:Str} {sp:Sp} {s₁:Shared} {vs:List Value} {ns:List Int}
  (KX:K.In s₁.heap) (hns:s₁.heap.Ns mainGlobals mg) (hb:s₁.heap.Ns builtinsNs mb) (hbb:∀ x:Str,x≠"__name__"->mb x=bootBuiltins x) (hlim:s₁.heap.NoLimit) (hg:s₁.gens=#[])
  (ha:s₁.heap.get? a=some {cls:=.type "list",data:=.seq vs.toArray}) (hi:IntsAre vs ns) (hl:ns.length<=sizeLine) (hr:Room k callerA)
  (F:∀ base:Heap,K.In base->base.Ns mainGlobals mg->FnOk P w K mg base CX k fa fd [x] sp) (hbind:∀ (s:Shared) (u:Value),BindsTo s fd ⟨[u],[]⟩ [(x,u)])
  (hsp:∀ H:Hp,Only H->SqL K H a (ns.map V.int)->sp [.ref a] H (λv _=>v=.bl true) λ_ _ _=>False)
  (hCX:∀ H e s',CX [] H s₁ (λ_ _ _=>False) e s'->False) :
  codeAny (model P w) callerA (.call (.ref fa) ⟨[.ref a],[]⟩) (λr s'=>r=.ok (.ret (.bool true))/\OldK s₁.heap s'.heap/\s'.os=s₁.os/\AllBare s'.gens) s₁:=by
 have rv:=vals_ints hi;have lenV:=hi.length;have core:∀ H:Hp,Only H->SqL K H a (ns.map V.int)->HOk P w H s₁.heap->(∀ b,H b≠none->b=a)->(H a≠none->K.lookup a=none)->
   codeAny (model P w) callerA (.call (.ref fa) ⟨[.ref a],[]⟩) (λr s'=>r=.ok (.ret (.bool true))/\OldK s₁.heap s'.heap/\s'.os=s₁.os/\AllBare s'.gens) s₁:=by
  intro H hO hS hok hA hK;have base_of:∀ {b:Addr} {o:Obj},s₁.heap.get? b=some o->H b=none->(hidT s₁.heap H).get? b=some o:=λe n=>hidT_get e n
  have noA:∀ {b:Addr} {o:Obj} {es:Array DictEntry} {ep:Nat},s₁.heap.get? b=some o->o.data=.dict es ep->H b=none:=λ{b o es ep} e d=>by
   cases q:H b with
   |none=>rfl
   |some u=>
    have e':b=a:=hA b (by rw [q]; simp)
    subst e';rw [ha] at e; cases e
    have d':Data.seq vs.toArray _=Data.dict es ep:=d;cases d'
  have nsK:∀ {b:Addr} {m:Str->Option Value},s₁.heap.Ns b m->(hidT s₁.heap H).Ns b m:=λ{b m} ⟨o,es,ep,e,d,r⟩=>⟨o,es,ep,base_of e (noA e d),d,r⟩
  have hKb:K.In (hidT s₁.heap H):=λb o e=>base_of (KX b o e) (by
   cases q:H b with
   |none=>rfl
   |some u=>
    have e':b=a:=hA b (by rw [q]; simp)
    subst e'
    rw [hK (by rw [q]; simp)] at e; cases e)
  have hM:Mod K mg (hidT s₁.heap H):=⟨hKb,nsK hns,⟨mb,nsK hb,hbb⟩,let ⟨mc,h1,h2⟩:=hlim; ⟨mc,nsK h1,h2⟩⟩;have e0:Env0 P w K mg (hidT s₁.heap H) callerA [] s₁ H:=⟨rfl,hM,λb o e=>of_hidT e,Nat.le_of_eq (hidT_size _ _),trivial,λb hb=>absurd (show b∈([]:List Addr) from hb) (by simp),hok,.of_eq hg⟩
  refine codeAny_mono ((F _ hKb (nsK hns)).run callerA [] s₁ H ⟨[.ref a],[]⟩ [.ref a] [.ref a] _ _ hr e0 (hbind s₁ (.ref a)) (.cons rfl .nil) (hsp H hO hS)) λr s' h=>?_
  cases r with
  |error e=>exact (hCX H e s' h).elim
  |ok fl=>
   cases fl with
   |next=>exact False.elim h
   |brk=>exact False.elim h
   |cont=>exact False.elim h
   |ret u=>
    obtain ⟨v,H',os,bare,un,hok',r',q⟩:=h;have q':v=.bl true:=q;subst q';obtain rfl:u=Value.bool true:=r';refine ⟨rfl,OldK.of_keep λb o e=>?_,os,bare⟩
    cases q:H b with
    |none=>exact un.keep b o e q (by intro z; exact absurd (show b∈([]:List Addr) from z) (by simp)) (by simp)
    |some u=>
     rcases hO b with z|⟨ob,xs,z⟩
     ·rw [q] at z; cases z
     ·have z2:=un.frzs b ob _ z;obtain ⟨e1,_⟩:=hok b _ z;obtain ⟨e2,_⟩:=hok' b _ z2;rw [e] at e1; cases e1
      exact e2
 cases hk:K.lookup a with
 |some o=>
  have e:=KX a o hk;rw [ha] at e;cases e
  refine core (λ_=>none) (λ_=>.inl rfl) (.inr ⟨_,vs.toArray,_,hk,rfl,rfl,rfl,by rw [List.size_toArray,lenV]; exact hl,by simpa using rv⟩) (λb u z=>by have z':(none:Option HO)=some u:=z; cases z') (λb z=>absurd rfl z) λz=>absurd rfl z
 |none=>
  refine core (λb=>if b=a then some (.frz {cls:=.type "list",data:=.seq vs.toArray} (.lst (ns.map V.int))) else none) (λb=>?_) (.inl (.inr ⟨{cls:=.type "list",data:=.seq vs.toArray},if_pos rfl⟩)) (λb u z=>?_) (λb z=>?_) λ_=>hk
  ·by_cases hb:b=a
   ·exact .inr ⟨_,_,if_pos hb⟩
   ·exact .inl (if_neg hb)
  ·by_cases hb:b=a
   ·have z':=(if_pos hb).symm.trans z;cases z'
    subst hb;exact ⟨ha,by rw [List.length_map]; exact hl,vs,_,rv,ha⟩
   ·have z':=(if_neg hb).symm.trans z;cases z'
  ·by_cases hb:b=a
   ·exact hb
   ·exact absurd (if_neg hb) z
end L2
namespace L2
open PySem PySem.Spec PyProof.Rows
end L2
namespace L2
open PySem PySem.Spec PyProof.Rows
noncomputable def zK (s:Stmt):Arguments:=match s with
 |.FunctionDef _ a _ _ _ _ _ _ _ _=>a
 |_=>{posonlyargs:=[],args:=[],vararg:=none,kwonlyargs:=[],kw_defaults:=[],kwarg:=none,defaults:=[]}
noncomputable def zI (s:Stmt):List Stmt:=match s with
 |.FunctionDef _ _ b _ _ _ _ _ _ _=>b
 |_=>[]
noncomputable def zD (s:Stmt):Scope:=match s with
 |.FunctionDef _ _ _ _ _ _ sc _ _ _=>sc
 |_=>{kind:=.function,names:=[],isGenerator:=false,isCoroutine:=false}
noncomputable abbrev E0:XK:=λ_ _ _=>False
section
variable {P:Program} {w:World} {K:PySem.W.Frag} {mg:Str->Option Value} {base:Heap}
end
section
variable {X:Cx}
theorem pv (i:Nat) {x:Str} {pos:Pos} (hN:X.N[i]?=some x:=by rfl) (hv:Vis X.env.scope x:=by first|exact Or.inl rfl|exact Or.inr (Or.inl rfl)|exact Or.inr (Or.inr rfl)) (hd:(x == ("__debug__" : Str))=false:=by decide)
  (hcd:(x == ("__classdict__" : Str))=false:=by decide):PE X (.Name x pos) (tVar i):=pe_var hN hv hd hcd
end
theorem iteF {A B:Prop} (h:B):if false=true then A else B:=by
 rw [if_neg Bool.false_ne_true];exact h
theorem iteT {A B:Prop} (h:A):if true=true then A else B:=by
 rw [if_pos rfl];exact h
noncomputable def Same (H H':Hp):Prop:=∀ b o,H b=some o->H' b=some o
theorem Same.refl (H:Hp):Same H H:=λ_ _ h=>h
theorem Same.trans {H H1 H2:Hp} (a:Same H H1) (b:Same H1 H2):Same H H2:=λc o h=>b c o (a c o h)
theorem Same.seq {K:PySem.W.Frag} {H H':Hp} {a:Addr} {xs:List V} (e:Same H H') (h:SqL K H a xs):SqL K H' a xs:=by
 rcases h with (h|⟨o,h⟩)|h
 ·exact .inl (.inl (e _ _ h))
 ·exact .inl (.inr ⟨o,e _ _ h⟩)
 ·exact .inr h
end L2
namespace Kw
theorem gcd_step (g s:Int) (hg:0<=g) (hs:0 < s):Int.gcd s (g % s)=Int.gcd g s:=by
 obtain ⟨m,rfl⟩:=Int.eq_ofNat_of_zero_le hg;obtain ⟨n,rfl⟩:=Int.eq_ofNat_of_zero_le (Int.le_of_lt hs);have e:((m:Int) % (n:Int))=((m % n:Nat):Int):=by omega
 rw [e];show Nat.gcd n (m % n)=Nat.gcd m n;rw [Nat.gcd_comm m n,Nat.gcd_rec n m,Nat.gcd_comm]
theorem gcd_abs (a b:Int):Int.gcd (if a < 0 then -a else a) (if b < 0 then -b else b)=Int.gcd a b:=by
 have e:∀ x:Int,(if x < 0 then -x else x).natAbs=x.natAbs:=λx=>by split<;>omega
 show Nat.gcd _ _=Nat.gcd _ _;rw [e,e]
theorem gcd_end (g:Int) (hg:0<=g):((Int.gcd g 0:Nat):Int)=g:=by
 show ((Nat.gcd g.natAbs 0:Nat):Int)=g;rw [Nat.gcd_zero_right]; omega
theorem abs_nn (a:Int):0<=(if a < 0 then -a else a):=by split<;>omega
noncomputable def dv (t b:Int):Int:=if b < 0 then -((Int.gcd t b:Nat):Int) else ((Int.gcd t b:Nat):Int)
noncomputable def fT (t b:Int):Int:=t.fdiv (dv t b)
noncomputable def fB (t b:Int):Int:=b.fdiv (dv t b)
theorem ZQ {t b:Int} (h:b≠0):dv t b≠0:=by
 have hp:0 < Int.gcd t b:=Int.gcd_pos_of_ne_zero_right _ h;unfold dv; split<;>omega
theorem dv_le {t b:Int} (h:b≠0):(dv t b).natAbs<=b.natAbs:=by
 have hd:Int.gcd t b ∣ b.natAbs:=Nat.gcd_dvd_right _ _;have:=Nat.le_of_dvd (by omega) hd
 unfold dv; split<;>omega
theorem dv_dvd_b (t b:Int):dv t b ∣ b:=by
 have h:((Int.gcd t b:Nat):Int) ∣ b:=Int.gcd_dvd_right ..;unfold dv; split
 ·exact (Int.neg_dvd).mpr h
 ·exact h
theorem dv_dvd_t (t b:Int):dv t b ∣ t:=by
 have h:((Int.gcd t b:Nat):Int) ∣ t:=Int.gcd_dvd_left ..;unfold dv; split
 ·exact (Int.neg_dvd).mpr h
 ·exact h
theorem fT_mul (t b:Int):dv t b * fT t b=t:=by
 unfold fT;exact Int.mul_fdiv_cancel' (dv_dvd_t t b)
theorem fB_mul (t b:Int):dv t b * fB t b=b:=by
 unfold fB;exact Int.mul_fdiv_cancel' (dv_dvd_b t b)
theorem fB_pos {t b:Int} (h:b≠0):0 < fB t b:=by
 have e:=fB_mul t b;have hn:=ZQ (t:=t) h;have hg:0<=((Int.gcd t b:Nat):Int):=Int.natCast_nonneg _;rcases Int.lt_or_gt_of_ne h with hb|hb
 ·have hd:dv t b < 0:=by unfold dv at hn ⊢; rw [if_pos hb] at hn ⊢; omega
  refine Int.not_le.mp λq=>?_
  have:=Int.mul_nonneg_of_nonpos_of_nonpos (Int.le_of_lt hd) q;omega
 ·have hd:0 < dv t b:=by unfold dv at hn ⊢; rw [if_neg (by omega)] at hn ⊢; omega
  refine Int.not_le.mp λq=>?_
  have:=Int.mul_nonpos_of_nonneg_of_nonpos (Int.le_of_lt hd) q;omega
theorem jk {d x:Int} (h:d≠0):x.natAbs<=(d * x).natAbs:=by
 rw [Int.natAbs_mul];exact Nat.le_mul_of_pos_left _ (by omega)
theorem fT_le {t b:Int} (h:b≠0):(fT t b).natAbs<=t.natAbs:=by
 have q:=jk (x:=fT t b) (ZQ (t:=t) h);rw [fT_mul] at q; exact q
theorem fB_le {t b:Int} (h:b≠0):(fB t b).natAbs<=b.natAbs:=by
 have q:=jk (x:=fB t b) (ZQ (t:=t) h);rw [fB_mul] at q; exact q
end Kw
set_option maxHeartbeats 4000000
namespace Kw
open PySem PySem.Spec PyProof.Rows L2
noncomputable def But (b:Addr) (H H':Hp):Prop:=∀ a o,a≠b->H a=some o->H' a=some o
theorem But.refl {b:Addr} (H:Hp):But b H H:=λ_ _ _ h=>h
theorem But.trans {b:Addr} {H H1 H2:Hp} (x:But b H H1) (y:But b H1 H2):But b H H2:=λa o n h=>y a o n (x a o n h)
theorem But.of {b:Addr} {H H':Hp} (x:Same H H'):But b H H':=λa o _ h=>x a o h
theorem Zu {H:Hp} {p:Addr} (h:H p=none) (o:HO):Same H (upd H p o):=λb u q=>by rw [zV (zL q h)]; exact q
theorem but_upd {H:Hp} {p:Addr} (o:HO):But p H (upd H p o):=λb u n q=>by rw [zV n]; exact q
theorem Same.tup {K:PySem.W.Frag} {H H':Hp} {a:Addr} {xs:List V} (e:Same H H') (h:SqT K H a xs):SqT K H' a xs:=by
 rcases h with (h|⟨o,h⟩)|h
 ·exact .inl (.inl (e _ _ h))
 ·exact .inl (.inr ⟨o,e _ _ h⟩)
 ·exact .inr h
theorem But.tup {K:PySem.W.Frag} {H H':Hp} {b a:Addr} {ys xs:List V} (e:But b H H') (hb:H b=some (.lst ys)) (h:SqT K H a xs):SqT K H' a xs:=by
 rcases h with (h|⟨o,h⟩)|h
 ·exact .inl (.inl (e _ _ (zq h hb (by intro z; cases z)) h))
 ·exact .inl (.inr ⟨o,e _ _ (zq h hb (by intro z; cases z)) h⟩)
 ·exact .inr h
theorem But.seq {K:PySem.W.Frag} {H H':Hp} {b a:Addr} {xs:List V} (e:But b H H') (n:a≠b) (h:SqL K H a xs):SqL K H' a xs:=by
 rcases h with (h|⟨o,h⟩)|h
 ·exact .inl (.inl (e _ _ n h))
 ·exact .inl (.inr ⟨o,e _ _ n h⟩)
 ·exact .inr h
section
variable {σ:L2.St} {H:Hp} {Q:VK} {v:V} {i j:Int} {K:PySem.W.Frag} {p:Addr} {xs:List V}
theorem Yw {R:V->Hp->Prop} {o:HO} (h:∀ p H',Same H H'->H' p=some o->R (.ref p) H'):∀ p,H p=none->R (.ref p) (upd H p o):=λp hp=>h p _ (Zu hp o) zb
end
theorem if_cases {c:Bool} {A B:Prop} (h1:c=true->A) (h2:c=false->B):if c=true then A else B:=by
 cases c
 ·exact iteF (h2 rfl)
 ·exact iteT (h1 rfl)
theorem zc {c:Prop} [Decidable c] {A B:Prop} (h1:c->A) (h2:¬ c->B):if decide c=true then A else B:=
 if_cases (λe=>h1 (of_decide_eq_true e)) (λe=>h2 (of_decide_eq_false e))
theorem yh {i j:Int} {A B:Prop} (h1:i=j->A) (h2:i≠j->B):if decide (V.int i=V.int j)=true then A else B:=
 zc (λe=>h1 (V.int.inj e)) (λe=>h2 λz=>e (congrArg V.int z))
theorem if_neI {i j:Int} {A B:Prop} (h1:i≠j->A) (h2:i=j->B):if (!decide (V.int i=V.int j))=true then A else B:=by
 by_cases e:i=j
 ·rw [show decide (V.int i=V.int j)=true by simp [e]]; exact iteF (h2 e)
 ·rw [show decide (V.int i=V.int j)=false by simp [e]]; exact iteT (h1 e)
section
variable {X:Cx} {a b c:Expr} {ta tb tc:TE} {pos:Pos}
noncomputable def CDivB (_ j:Int):Prop:=j≠0/\j.natAbs.log2 < 9000
theorem yC:OpR X (binaryOp .FloorDiv) (rI CDivB λi j=>.int (i.fdiv j)):=opI λ_ _ _ _ _ _ _ hc q=>floordiv_int hc.1 q (.inl (PyProof.noPylong_of_log2 hc.2))
theorem zf:OpR X (binaryOp .Mult) (rI IntMulOk λi j=>.int (i * j)):=opI λ_ _ _ _ _ _ _ hc q=>mul_int q hc
theorem call_divmodB:yx X (.builtin "divmod") (λxs H Q=>∃ i j,xs=[.int i,.int j]/\(0 < j/\j.natAbs.log2 < 9000)/\∀ p,H p=none->Q (.ref p) (upd H p (.tup [.int (i / j),.int (i % j)]))):=by
 intro pins s σ H xs us Q I r h;obtain ⟨i,j,rfl,⟨h1,h2⟩,q⟩:=h;obtain ⟨u,w',rfl,⟨t,rfl⟩,⟨t',rfl⟩⟩:=vals2 r;refine divmod_int (by omega) ?_ (.inl (PyProof.noPylong_of_log2 h2))
 rw [Int.fdiv_eq_ediv_of_nonneg i (by omega),Int.fmod_eq_emod_of_nonneg i (by omega)]
 have hn:H s.heap.objs.size=none:=I.hok.fresh (Nat.le_refl _);refine ⟨.ref s.heap.objs.size,_,?_,rfl,q _ hn⟩;refine I.laid (λb o e=>Heap.get?_push_of_some _ e) (Nat.le_refl _) ⟨by simp only [List.length_cons,List.length_nil]; rw [sizeLine_eq]; decide,[.int (i / j) s.toks,.int (i % j) (s.toks+1)],.cons ⟨_,rfl⟩ (.cons ⟨_,rfl⟩ .nil),?_⟩
 exact ⟨_,Heap.get?_push_size s.heap rfl,rfl,0,rfl⟩
theorem zX {x:Str} {i:Int} {pos:Pos} (hg:Gl X x) (hm:∃ t,X.mg x=some (.int i t)) (hd:(x == ("__debug__" : Str))=false:=by decide) (hcd:(x == ("__classdict__" : Str))=false:=by decide):PE X (.Name x pos) (tC (.int i)):=by
 obtain ⟨t,hm⟩:=hm;exact Jc hg hm ⟨t,rfl⟩ hd
theorem Zr {x:Str} {T:String} {pos:Pos} (hg:Gl X x) (hm:X.mg x=none) (hv:bootBuiltins x=some (.type T)) (hn:x≠"__name__":=by decide) (hd:(x == ("__debug__" : Str))=false:=by decide):PE X (.Name x pos) (tC (.ty T)):=
 pe_bltn hg hm hv (v:=.ty T) rfl hn hd
noncomputable def valC:V->Value
 |.ty T=>.type T
 |.ref C=>.ref C
 |_=>.none
noncomputable def IsI (K:PySem.W.Frag) (H:Hp) (x c:V) (b:Bool):Prop:=∃ t,TyOf K H x t/\kitOne K t (valC c)=some b
theorem Ze:yx X (.builtin "isinstance") (λxs H Q=>∃ x c b,xs=[x,c]/\((∃ T,c=.ty T)\/∃ C,c=.ref C)/\IsI X.K H x c b/\Q (.bl b) H):=by
 intro pins s σ H xs us Q I r h;obtain ⟨x,c,b,rfl,hc,⟨t,ty,e⟩,q⟩:=h;obtain ⟨u,w',rfl,rx,rc⟩:=vals2 r;have ec:w'=valC c:=by
  rcases hc with ⟨T,rfl⟩|⟨C,rfl⟩
  ·exact rc
  ·exact rc
 subst ec;exact isinst_ok I rx ty e λtk=>⟨.bl b,H,I.tok _,rfl,q⟩
end
noncomputable def TrD (h bs:Heap) (x:Addr) (c:Value) (od:Option Addr) (a0 fl:Value):Prop:=
 ∃ o vs T oT ts,h.get? x=some o/\o.cls=c/\o.dict=od/\o.data=.fields vs/\vs[0]?=some a0/\vs[1]?=some (.ref T)/\bs.get? T=none/\T≠x/\h.get? T=some oT/\oT.data=.fields ts/\ts[3]?=some fl
structure Noted (bs:Heap) (l:List Env) (x:Addr) (c:Value) (od:Option Addr) (a0 fl:Value) (h h':Heap):Prop where
 st:bs.StaysIn h'
 fr:h'.FunFrames bs l
 tr:TrD h' bs x c od a0 fl
 up:h.UpToSlots h'
section
variable {M:Model} {A:Around} {E:Value->Shared->Prop} {s:Shared} {bs:Heap} {l up:List Env} {env:Env} {x L:Addr} {c:Value} {od:Option Addr} {a0 fl:Value} {Q:Unit->Shared->Prop}
theorem Noted.trans {h h1 h2:Heap} {f1 f2:Value} (a:Noted bs l x c od a0 f1 h h1) (b:Noted bs l x c od a0 f2 h1 h2):Noted bs l x c od a0 f2 h h2:=⟨b.st,b.fr,b.tr,a.up.trans b.up⟩
theorem Noted.tail {h h1:Heap} (a:Noted bs (env::up) x c od a0 fl h h1):Noted bs up x c od a0 fl h h1:=⟨a.st,a.fr.2.2,a.tr,a.up⟩
theorem JV (st:bs.StaysIn s.heap) (fr:s.heap.FunFrames bs l) (tr:TrD s.heap bs x c od a0 fl) (q:∀ h',Noted bs l x c od a0 .none s.heap h'->Q () {s with heap:=h'}):wpAny M A (setFlight (.ref x) none) Q E s:=by
 obtain ⟨o,vs,T,oT,ts,e1,c1,d1,f1,z0,z1,nT,ne,e2,f2,z3⟩:=tr;have big:3 < ts.size:=(Array.getElem?_eq_some_iff.mp z3).1;have oth:∀ b,b≠T->(s.heap.update T (Obj.mapFields (·.setIfInBounds 3 Value.none))).get? b=s.heap.get? b:=λb hb=>Heap.get?_update_other _ _ (Ne.symm hb)
 have nf:∀ b u,s.heap.get? b=some u->(∀ ws,u.data≠.fields ws)->b≠T:=λb u y n z=>by
  subst z;rw [e2] at y;cases y
  exact n ts f2
 unfold setFlight;refine wpAny_bind (wpAny_field e1 f1 z1 ?_);rw [if_pos (by simp)]
 refine wpAny_setField e2 f2 big (q _ ⟨λb u y=>?_,?_,?_,?_⟩)
 ·exact (oth b λz=>by rw [z,nT] at y; cases y).trans (st b u y)
 ·exact fr.of_keeps λb u y n=>⟨u,(oth b (nf b u y n)).trans y,rfl⟩
 ·exact ⟨o,vs,T,_,_,(oth x (Ne.symm ne)).trans e1,c1,d1,f1,z0,z1,nT,ne,Heap.get?_update_self _ e2 (Obj.isFreed_of_fields (Obj.data_mapFields f2 _)),Obj.data_mapFields f2 _,by simp [big]⟩
 ·exact λb u y n=>⟨u.slots,(oth b (nf b u y n)).trans y⟩
theorem entry_done {h h1:Heap} {o N:Obj} {vs ts:Array Value} (fr:h.FunFrames bs (env::up)) (so:Heap.SlotsOnly ((env::up).filterMap (·.frame)) h h1) (ex:h.get? x=some o) (st:bs.StaysIn h) (nx:bs.get? x=none) (fo:o.data=.fields vs) (big:1 < vs.size)
  (z0:vs[0]?=some a0) (hN:N.data=.fields ts) (Kc:ts[3]?=some fl) :
  Noted bs (env::up) x o.cls o.dict a0 fl h ((h1.push N).update x (Obj.mapFields (·.setIfInBounds 1 (Value.ref h1.objs.size)))):=by
 have out:x∉(env::up).filterMap (·.frame):=λm=>by
  obtain ⟨_,u,y,n⟩:=fr.mem m;rw [ex] at y;cases y
  exact n vs fo
 have x1:h1.get? x=some o:=(so.2.1 x out).trans ex;have b1:bs.StaysIn h1:=λb u y=>(so.2.1 b λm=>by rw [(fr.mem m).1] at y; cases y).trans (st b u y)
 have nw:h1.objs.size≠x:=Nat.ne_of_gt (Heap.lt_size x1);have kp:∀ b u,b≠x->h1.get? b=some u->((h1.push N).update x (Obj.mapFields (·.setIfInBounds 1 (Value.ref h1.objs.size)))).get? b=some u:=λb u hb y=>by
  rw [Heap.get?_update_other _ _ (Ne.symm hb)];exact Heap.get?_push_of_some _ y
 have nf:∀ b u,h.get? b=some u->(∀ ws,u.data≠.fields ws)->b≠x:=λb u y n z=>by
  subst z;rw [ex] at y;cases y
  exact n vs fo
 have d3:=Obj.data_mapFields fo (·.setIfInBounds 1 (Value.ref h1.objs.size));have fN:N.isFreed=false:=Obj.isFreed_of_fields hN;refine ⟨λb u y=>kp b u (λz=>by rw [z,nx] at y; cases y) (b1 b u y),fr.of_keeps λb u y n=>?_,?_,λb u y n=>?_⟩
 ·obtain ⟨sl,hs⟩:=so.2.2 b u y;exact ⟨_,kp b _ (nf b u y n) hs,rfl⟩
 ·refine ⟨_,_,h1.objs.size,N,ts,Heap.get?_update_self _ (Heap.get?_push_of_some N x1) (Obj.isFreed_of_fields d3),Obj.cls_mapFields _ _,?_,d3,by rw [Array.getElem?_setIfInBounds_ne (by decide)]; exact z0,by simp [big],b1.fresh,nw,?_,hN,Kc⟩
  ·obtain ⟨oc,odd,oda,osl⟩:=o;simp only at fo;subst fo;rfl
  ·rw [Heap.get?_update_other _ _ (Ne.symm nw)];exact Heap.get?_push_size h1 fN
 ·obtain ⟨sl,hs⟩:=so.2.2 b u y;exact ⟨sl,kp b _ (nf b u y n) hs⟩
theorem entry1 {o:Obj} {vs:Array Value} {head:Value} {had:Bool} (af:A.frames=some (env::up)) (fr:s.heap.FunFrames bs (env::up)) (ef:env.frame=some L) (ex:s.heap.get? x=some o) (st:bs.StaysIn s.heap) (nx:bs.get? x=none) (fo:o.data=.fields vs) (big:1 < vs.size)
  (z0:vs[0]?=some a0) (q:∀ h',Noted bs (env::up) x o.cls o.dict a0 (rawInt L) s.heap h'->Q () {s with heap:=h'}) :
  wpAny M A (do let fa <- frameOf env; let pl <- entryPlaceOf L had; let en <- EntryCells.newEntry head fa .none (rawInt L) .none pl; setField (.ref x) 1 en) Q E s:=by
 refine wpAny_bind (wpAny_frameOf_fun af fr ef λh1 so=>?_)
 refine wpAny_bind (wpAny_entryPlaceOf λpl hp=>?_)
 unfold EntryCells.newEntry newFields;refine wpAny_bind (wpAny_newObj_type ?_ (hp.sizeOk5 _ _ _ _ _));have out:x∉(env::up).filterMap (·.frame):=λm=>by
  obtain ⟨_,u,y,n⟩:=fr.mem m;rw [ex] at y;cases y
  exact n vs fo
 have x1:h1.get? x=some o:=(so.2.1 x out).trans ex;refine wpAny_setField (Heap.get?_push_of_some _ x1) fo big (q _ (entry_done fr so ex st nx fo big z0 rfl ?_))
 first
  | (simp; done)
  | (rcases hp with rfl|⟨_,_,_,_,_,_,_,rfl⟩<;>simp)
theorem elder {T:Addr} {oT:Obj} {ts:Array Value} (e2:s.heap.get? T=some oT) (f2:oT.data=.fields ts) (nT:bs.get? T=none) (st:bs.StaysIn s.heap) (fr:s.heap.FunFrames bs l) :
  let h1:=s.heap.update T (Obj.mapFields (·.setIfInBounds 3 Value.none))
  (∀ b,b≠T->h1.get? b=s.heap.get? b)/\bs.StaysIn h1/\h1.FunFrames bs l/\s.heap.UpToSlots h1:=by
 intro h1;have oth:∀ b,b≠T->h1.get? b=s.heap.get? b:=λb hb=>Heap.get?_update_other _ _ (Ne.symm hb)
 have nf:∀ b u,s.heap.get? b=some u->(∀ ws,u.data≠.fields ws)->b≠T:=λb u y n z=>by
  subst z;rw [e2] at y;cases y
  exact n ts f2
 exact ⟨oth,λb u y=>(oth b λz=>by rw [z,nT] at y; cases y).trans (st b u y),fr.of_keeps λb u y n=>⟨u,(oth b (nf b u y n)).trans y,rfl⟩,λb u y n=>⟨u.slots,(oth b (nf b u y n)).trans y⟩⟩
theorem look1 (af:A.frames=some (env::up)) (ef:env.frame=some L) (st:bs.StaysIn s.heap) (fr:s.heap.FunFrames bs (env::up)) (nx:bs.get? x=none) (tr:TrD s.heap bs x c od a0 .none)
  (q:∀ h',Noted bs (env::up) x c od a0 (rawInt L) s.heap h'->Q () {s with heap:=h'}):wpAny M A (noteFrame (.ref x) env) Q E s:=by
 obtain ⟨o,vs,T,oT,ts,e1,rfl,rfl,f1,z0,z1,nT,ne,e2,f2,z3⟩:=tr;unfold noteFrame;simp only [ef];refine wpAny_bind (wpAny_field e1 f1 z1 ?_);rw [if_pos (by simp)]
 refine wpAny_bind (wpAny_field e2 f2 z3 ?_);rw [if_neg (by simp [rawInt])]
 refine wpAny_bind (wpAny_setField e2 f2 (Array.getElem?_eq_some_iff.mp z3).1 ?_);obtain ⟨oth,Kd,fr1,up1⟩:=elder e2 f2 nT st fr;exact entry1 af fr1 ef ((oth x (Ne.symm ne)).trans e1) Kd nx f1 (Array.getElem?_eq_some_iff.mp z1).1 z0 λh' n=>q h' ⟨n.st,n.fr,n.tr,up1.trans n.up⟩
theorem leave1 (af:A.frames=some (env::up)) (ef:env.frame=some L) (st:bs.StaysIn s.heap) (fr:s.heap.FunFrames bs (env::up)) (nx:bs.get? x=none) (tr:TrD s.heap bs x c od a0 .none)
  (q:∀ h',Noted bs up x c od a0 .none s.heap h'->Q () {s with heap:=h'}):wpAny M A (leaving env (.ref x)) Q E s:=by
 unfold leaving;refine wpAny_bind (look1 af ef st fr nx tr λh1 n1=>?_)
 exact JV n1.st n1.fr n1.tr λh2 n2=>q h2 (n1.trans n2).tail
theorem leave0 {o:Obj} {vs:Array Value} (af:A.frames=some (env::up)) (ef:env.frame=some L) (st:bs.StaysIn s.heap) (fr:s.heap.FunFrames bs (env::up)) (nx:bs.get? x=none) (ex:s.heap.get? x=some o) (fo:o.data=.fields vs) (z0:vs[0]?=some a0) (z1:vs[1]?=some .none)
  (q:∀ h',Noted bs up x o.cls o.dict a0 .none s.heap h'->Q () {s with heap:=h'}):wpAny M A (leaving env (.ref x)) Q E s:=by
 unfold leaving;refine wpAny_bind ?_;unfold noteFrame;simp only [ef];refine wpAny_bind (wpAny_field ex fo z1 ?_);rw [if_neg (by decide)]
 refine entry1 af fr ef ex st nx fo (Array.getElem?_eq_some_iff.mp z1).1 z0 λh1 n1=>?_
 exact JV n1.st n1.fr n1.tr λh2 n2=>q h2 (n1.trans n2).tail
end
structure FlyAt (H:Hp) (h0 h:Heap) (x:Addr) (C:Value) (od:Option Addr):Prop where
 new:h0.get? x=none
 free:H x=none
 tr:∃ oe vs a0 T oT ts,h.get? x=some oe/\oe.cls=C/\oe.dict=od/\oe.data=.fields vs/\vs[0]?=some a0/\vs[1]?=some (.ref T)/\h0.get? T=none/\H T=none/\T≠x/\h.get? T=some oT/\oT.data=.fields ts/\ts[3]?=some .none
noncomputable def CXE (P:Program) (w:World):CXT:=λouter H s E e s'=>
 ∃ (x:Addr) (C:Value) (od:Option Addr) (H':Hp),e=.ref x/\s'.os=s.os/\AllBare s'.gens/\Un (frs outer) [] H H' s.heap s'.heap/\HOk P w H' s'.heap/\FlyAt H' s.heap s'.heap x C od/\E C od H'
theorem zG {P:Program} {w:World} {X:Cx}:yc (CXE P w) X E0:=λ_ _ _ _ _ _ _ h=>by
 obtain ⟨_,_,_,_,_,_,_,_,_,_,q⟩:=h;exact q.elim
theorem objOk_there {P:Program} {w:World} {H:Hp} {h:Heap} {a:Addr} {o:HO} (x:zg P w H h a o):∃ ob,h.get? a=some ob:=by
 cases o with
 |lst xs=>obtain ⟨_,_,_,_,e⟩:=x; exact ⟨_,e⟩
 |tup xs=>obtain ⟨_,_,_,p⟩:=x; obtain ⟨ob,e,_⟩:=p; exact ⟨ob,e⟩
 |dK kvs=>obtain ⟨_,_,_,_,ob,_,_,e,_⟩:=x; exact ⟨ob,e⟩
 |dT kvs=>obtain ⟨_,_,_,_,ob,_,_,e,_⟩:=x; exact ⟨ob,e⟩
 |set S n=>obtain ⟨ob,_,_,_,e,_⟩:=x; exact ⟨ob,e⟩
 |ins C dx fs=>obtain ⟨_,_,_,e,_⟩:=x; exact ⟨_,e⟩
 |own y=>exact x
 |xd fs=>obtain ⟨_,⟨ob,_,_,e,_⟩,_⟩:=x; exact ⟨ob,e⟩
 |rng lo hi=>obtain ⟨_,_,_,e⟩:=x; exact ⟨_,e⟩
 |frz ob u=>obtain ⟨e,_⟩:=x; exact ⟨_,e⟩
 |tbl ps=>exact ⟨_,(show h.get? a=some _ from x)⟩
 |met f y=>exact ⟨_,(show h.get? a=some _ from x)⟩
 |ext φ=>obtain ⟨_,e,_⟩:=x; exact e
theorem yw {P:Program} {w:World} {H:Hp} {h:Heap} {a:Addr} (k:HOk P w H h) (e:h.get? a=none):H a=none:=by
 cases q:H a with
 |none=>rfl
 |some o=>
  obtain ⟨ob,z⟩:=objOk_there (k a o q);rw [e] at z; cases z
structure Plain (X:Cx):Prop where
 ex:X.ex=[]
 stk:X.stack=X.env::X.outer
 fr:X.env.frame=some X.env.locals
section
variable {X:Cx} {pins:List (Addr × Obj)} {σ:L2.St} {H:Hp} {s:Shared} {h':Heap} {ch:List Addr}
theorem inStack (pl:Plain X) {b:Addr} (hb:b∈X.fs):b∈frs X.stack:=by
 rw [pl.stk];unfold frs;rw [List.filterMap_cons,pl.fr];exact List.mem_cons_of_mem _ hb
theorem locInStack (pl:Plain X):X.env.locals∈frs X.stack:=by
 rw [pl.stk];unfold frs;rw [List.filterMap_cons,pl.fr];exact List.mem_cons_self
theorem old_notStack (I:Inv X pins σ H s) {b:Addr} {o:Obj} (q:X.s₀.heap.get? b=some o) (hb:b∉X.fs):b∉frs X.stack:=λz=>by
 rcases List.mem_cons.mp (I.stkSub b z) with e|z
 ·subst e;exact absurd (Heap.lt_size q) (Nat.not_lt.mpr I.ok.above)
 ·exact hb z
structure Flown (X:Cx) (H:Hp) (h h':Heap) (ch:List Addr):Prop where
 keep:∀ b o,h.get? b=some o->b∉frs X.stack->b∉ch->h'.get? b=some o
 slot:∀ b o,h.get? b=some o->b∈frs X.stack->∃ sl,h'.get? b=some {o with slots:=sl}
 young:∀ b∈ch,X.s₀.heap.get? b=none/\H b=none
theorem Flown.un (pl:Plain X) (I:Inv X pins σ H s) (f:Flown X H s.heap h' ch):Un X.fs [] X.H₀ H X.s₀.heap h' where
 keep:=λb o q n hb _=>f.keep b o (I.base.keep b o q n hb (by rw [pl.ex]; simp)) (old_notStack I q hb) λz=>by
  rw [(f.young b z).1] at q; cases q
 slot:=λb o q n hb _=>by
  obtain ⟨sl,e⟩:=I.base.slot b o q n hb (by rw [pl.ex]; simp)
  obtain ⟨sl',e'⟩:=f.slot b _ e (inStack pl hb);exact ⟨sl',e'⟩
 free:=λb o q n _=>I.base.free b o q n (by rw [pl.ex]; simp)
 there:=λb o q _=>by
  obtain ⟨o1,e1⟩:=I.base.there b o q (by rw [pl.ex]; simp)
  by_cases hb:b∈frs X.stack
  ·obtain ⟨sl,e⟩:=f.slot b o1 e1 hb;exact ⟨_,e⟩
  ·exact ⟨o1,f.keep b o1 e1 hb λz=>by rw [(f.young b z).1] at q; cases q⟩
 tups:=I.base.tups
 frzs:=I.base.frzs
 tbls:=I.base.tbls
theorem Flown.hok (I:Inv X pins σ H s) (f:Flown X H s.heap h' ch):HOk X.prog X.w H h':=λa o e=>by
 have tr:∀ b,H b≠none->b∉frs X.stack/\b∉ch:=λb hb=>⟨λz=>hb (I.stkFree b z),λz=>hb (f.young b z).2⟩
 refine (I.hok a o e).stay (λb u hb ho=>?_) (λ_ z=>z) λ_ _ z=>z
 have nb:H b≠none:=by
  rcases hb with z|z
  ·subst z; rw [e]; exact λq=>nomatch q
  ·rw [z]; exact λq=>nomatch q
 exact f.keep b u ho (tr b nb).1 (tr b nb).2
theorem Flown.cxe (pl:Plain X) (I:Inv X pins σ H s) (f:Flown X H s.heap h' ch) {x:Addr} {C:Value} {od:Option Addr} {E:XK} {s':Shared} (hs:s'.heap=h') (ho:s'.os=s.os) (hg:AllBare s'.gens) (fl:FlyAt H X.s₀.heap h' x C od) (q:E C od H) :
  CXE X.prog X.w X.outer X.H₀ X.s₀ E (.ref x) s':=by
 subst hs;exact ⟨x,C,od,H,rfl,ho.trans I.os,hg,f.un pl I,f.hok I,fl,q⟩
theorem Y4 (pl:Plain X) (I:Inv X pins σ H s) {b:Addr} (e:s.heap.get? b=none):X.s₀.heap.get? b=none:=by
 cases q:X.s₀.heap.get? b with
 |none=>rfl
 |some o=>
  obtain ⟨o1,z⟩:=I.base.there b o q (by rw [pl.ex]; simp)
  rw [e] at z; cases z
end
theorem ZG {X:Cx} {pins:List (Addr × Obj)} {σ:L2.St} {H:Hp} {s:Shared} (pl:Plain X) (I:Inv X pins σ H s) (l:List Addr):s.heap.FunFrames (hideAll s.heap (l++frs X.stack)) (X.env::X.outer):=by
 have st:=I.stack;rw [pl.stk] at st;refine PySem.W.funFrames_hide st λenv he a ha=>List.mem_append_right _ ?_
 rw [pl.stk];exact List.mem_filterMap.mpr ⟨env,he,ha⟩
theorem zZ {X:Cx} {pins:List (Addr × Obj)} {σ:L2.St} {H:Hp} {s:Shared} (I:Inv X pins σ H s) {b:Addr} {o:Obj} (hb:b∈frs X.stack) (e:s.heap.get? b=some o):∀ vs,o.data≠.fields vs:=by
 obtain ⟨_,o',e',n⟩:=I.stack.mem hb;rw [e] at e';cases e'
 exact n
theorem leaves {X:Cx} {pins:List (Addr × Obj)} {σ:L2.St} {H:Hp} {s s':Shared} {x:Addr} {C:Value} {od:Option Addr} {E:XK} (pl:Plain X) (I0:Inv X pins σ H s) {H':Hp} (I:Inv X pins σ H' s') (there:∀ b o,s.heap.get? b=some o->∃ o',s'.heap.get? b=some o')
  (fly:FlyAt H' s.heap s'.heap x C od) (q:E C od H') {Q:Unit->Shared->Prop} {R:Value->Shared->Prop} (hQ:∀ s'',CXE X.prog X.w X.outer X.H₀ X.s₀ E (.ref x) s''->Q () s'') :
  wpAny (model X.prog X.w) X.A (leaving X.env (.ref x)) Q R s':=by
 obtain ⟨new,free,oe,vs,a0,T,oT,ts,he,hcl,hdc,hd,h0,h1,hT0,hTf,hTx,hT,hdT,h3⟩:=fly;have n0:=Y4 pl I0 new;have nT:=Y4 pl I0 hT0;refine leave1 (bs:=hideAll s'.heap ([x,T]++frs X.stack)) (up:=X.outer) (by rw [I.ok.frames,pl.stk]) pl.fr (λb o z=>of_hideAll _ z) (ZG pl I _) (hideAll_none _ (by simp))
  ⟨oe,vs,T,oT,ts,he,hcl,hdc,hd,h0,h1,hideAll_none _ (by simp),hTx,hT,hdT,h3⟩ λh' nt=>hQ _ ?_
 have up:=nt.up;have F:Flown X H' s'.heap h' [x,T]:=by
  refine ⟨λb o ho hs hc=>nt.st b o (hideAll_get _ ho λz=>?_),λb o ho hb=>up b o ho (zZ I hb ho),λb hb=>?_⟩
  ·rcases List.mem_append.mp z with z|z
   ·exact hc z
   ·exact hs z
  ·simp only [List.mem_cons,List.not_mem_nil,or_false] at hb;rcases hb with rfl|rfl
   ·exact ⟨n0,free⟩
   ·exact ⟨nT,hTf⟩
 refine F.cxe pl I rfl rfl I.bare ⟨n0,free,?_⟩ q;obtain ⟨oe',vs',T',oT',ts',he',hc',hdc',hd',h0',h1',hnT',hTe',hT',hdT',h3'⟩:=nt.tr;refine ⟨oe',vs',a0,T',oT',ts',he',hc',hdc',hd',h0',h1',?_,?_,hTe',hT',hdT',h3'⟩;all_goals
  cases z:s'.heap.get? T' with
  |none=>first|exact Y4 pl I z|exact yw I.hok z
  |some o1=>
   have hm:T'∈[x,T]++frs X.stack:=Classical.byContradiction λhm=>by
    rw [hideAll_get _ z hm] at hnT'; cases hnT'
   rcases List.mem_append.mp hm with hm|hm
   ·simp only [List.mem_cons,List.not_mem_nil,or_false] at hm;rcases hm with rfl|rfl
    ·exact absurd rfl hTe'
    ·first|exact nT|exact hTf
   ·obtain ⟨sl,e⟩:=up T' o1 z (zZ I hm z);rw [e] at hT';cases hT'
    exact absurd hdT' (zZ I hm z _)
noncomputable def Leaves (X:Cx) (E:XK):Prop:=∀ (e:Value) (s':Shared),(∀ Q:Unit->Shared->Prop,∀ R:Value->Shared->Prop,(∀ s'',CXE X.prog X.w X.outer X.H₀ X.s₀ E e s''->Q () s'')->wpAny (model X.prog X.w) X.A (leaving X.env e) Q R s')->X.xe e s'
theorem passL {X:Cx} {E:XK} (pl:Plain X) (L:Leaves X E):yc (CXE X.prog X.w) X E:=by
 intro pins σ H s e s' I hc;obtain ⟨x,C,od,H',rfl,os,bare,un,hok,fly,q⟩:=hc;have I':Inv X pins σ H' s':=I.call' (ch:=[]) os un hok bare (λb hb=>absurd hb (by simp))
 exact L _ _ λQ R hQ=>leaves pl I I' (λb o z=>un.there b o z (by simp)) fly q hQ
theorem zu {CX:CXT} {P:Program} {w:World} {K:PySem.W.Frag} {mg:Str->Option Value} {base:Heap} {N:List Str} {qual:Str} {scope:Scope} {f:Addr} {cd:Value} {A:Around} {outer:List Env} {s:Shared} {H:Hp} {E:XK} :
  Plain (cxOf CX P w K mg base N qual scope f cd A outer s H E):=⟨rfl,rfl,rfl⟩
theorem zn {P:Program} {w:World} {K:PySem.W.Frag} {mg:Str->Option Value} {base:Heap} {N:List Str} {qual:Str} {scope:Scope} {f:Addr} {cd:Value} {A:Around} {outer:List Env} {s:Shared} {H:Hp} {E:XK} :
  Leaves (cxOf (CXE P w) P w K mg base N qual scope f cd A outer s H E) E:=λ_ _ h=>h _ _ λ_ z=>z
noncomputable abbrev bmV:List Value:=[.type "ValueError",.type "Exception",.type "BaseException",.type "object"]
noncomputable abbrev ExcC (K:PySem.W.Frag) (C:Addr):Prop:=excIn K C bmV "ValueError.__new__"=true
theorem exc_obj {K:PySem.W.Frag} {h:Heap} {C:Addr} (X:K.In h) (q:ExcC K C) :
  ∃ bm N nm qn bs hdct sn sub ab col dd k0 k1 k2 k3 k5 mN,h.get? C=some (excClassObj nm qn C N bs bm hdct sn sub ab col dd k0 k1 k2 k3 k5 "ValueError.__new__")/\h.Ns N mN/\mN "__init__"=none/\OwnTail h bmV bm:=by
 have q':excIn K C bmV "ValueError.__new__"=true:=q;unfold excIn at q';cases hl:K.lookup C with
 |none=>rw [hl] at q'; cases q'
 |some o=>
  rw [hl] at q';split at q'
  ·rename_i dd cd sl eo
   cases eo
   split at q'
   ·rename_i C' bm k0 k1 k2 k3 n k5 hm hs
    simp only [Bool.and_eq_true,beq_iff_eq,Bool.not_eq_true'] at q';obtain ⟨⟨⟨⟨⟨e1,e2⟩,e3⟩,e4⟩,e5⟩,e6⟩:=q';subst e1 e2;cases cd with
    |mk nm bs mro ns qn hd sn sub ab col del=>
     simp only at hm e3 e5 e6;subst hm e3;cases sl with
     |mk sll=>
      simp only at hs;subst hs;exact ⟨bm,ns,nm,qn,bs,hd,sn,sub,ab,col,dd,k0,k1,k2,k3,k5,_,X _ _ hl,.of_isNs (PySem.W.isNs_of_in X e5),PySem.W.nsMap_none_of_in X e5 e6,PySem.W.tail_of_in X e4⟩
   ·cases q'
  ·cases q'
section
variable {X:Cx} {x:Str} {C:Addr} {E:XK} {e:Expr} {es:List Expr} {t:TA} {np cpos pos:Pos}
noncomputable def tRaise (C:Addr) (E:XK) (t:TA):TS:=λ_ σ H=>t σ H λvs H1=>vs.length<=sizeLine/\E (.ref C) none H1
theorem Yr (pl:Plain X) (L:Leaves X E) (hc:X.calm=true) (hg:Gl X x) (hm:X.mg x=some (.ref C)) (hC:ExcC X.K C) (ha:PA X (e::es) t)
  (hd:(x == ("__debug__" : Str))=false:=by decide) (he:starEach (e::es) X.env=(false,eval e X.env)::starEach es X.env:=by rfl) (hpl:(backTo cpos (starEach es X.env)).any (·.1)=false:=by rfl) :
  PS X (.Raise (some (.Call (.Name x np) (e::es) [] cpos)) none pos) (tRaise C E t):=by
 intro pins s σ H D I h;obtain ⟨bm,N,nm,qn,bs,hdct,sn,sub,ab,col,dd,k0,k1,k2,k3,k5,mN,hO,hN,hni,TL⟩:=exc_obj I.mod.kin hC;have hany:(backTo cpos (starEach (e::es) X.env)).any (·.1)=false:=by
  rw [he];show (false || (backTo cpos (starEach es X.env)).any (·.1))=false;rw [hpl]; rfl
 refine wpAny_Raise_call_subT (C:=C) (nm:=nm) (q:=qn) (N:=N) (bs:=bs) (bm:=bm) (hdct:=hdct) (sn:=sn) (sub:=sub) (ab:=ab) (col:=col) (dd:=dd) (k0:=k0) (k1:=k1) (k2:=k2) (k3:=k3) (k5:=k5)
  PySem.F.excBase_ValueError (mN:=mN) (TL.hasType PySem.F.excBase_ValueError.hasBase) (I.ok.hd hc) hany hni (ZM I hg hm ⟨rfl,?_⟩ hd)
 have hargs:=ha cpos pins s σ H _ I h;rw [he] at hargs ⊢;refine Calls.evalArgs_plain (thn hargs λus s2 ⟨vs,H2,I2,r,hz,q⟩=>⟨rfl,by rw [<- r.length]; exact hz,I2.bk _ _ hO,hN.keeps I2.bk,TL.keeps I2.bk,λh' ex hx=>?_⟩)
 refine L _ _ λQ R hQ=>?_
 obtain ⟨tq,htq,htn,ht⟩:=hx.there;refine leave0 (bs:=hideAll s2.heap ([]++frs X.stack)) (up:=X.outer) (by rw [I2.ok.frames,pl.stk]) pl.fr (λb o z=>hx.keeps b o (of_hideAll _ z)) ((ZG pl I2 _).of_keeps λb o hb _=>⟨o,hx.keeps b o hb,rfl⟩) ?_ htq rfl rfl rfl λh'' nt=>hQ _ ?_
 ·cases z:(hideAll s2.heap ([]++frs X.stack)).get? ex with
  |none=>rfl
  |some o=>
   have y:=of_hideAll _ z;rw [hx.new] at y;cases y
 have up:=nt.up;have F:Flown X H2 s2.heap h'' []:=by
  refine ⟨λb o ho hs _=>nt.st b o (hideAll_get _ ho hs),λb o ho hb=>?_,λb hb=>absurd hb (by simp)⟩
  exact up b o (hx.keeps b o ho) (zZ I2 hb ho)
 refine F.cxe pl I2 rfl rfl I2.bare ⟨Y4 pl I2 hx.new,yw I2.hok hx.new,?_⟩ q;obtain ⟨oe',vs',T',oT',ts',he',hc',hdc',hd',h0',h1',hnT',hTe',hT',hdT',h3'⟩:=nt.tr;refine ⟨oe',vs',_,T',oT',ts',he',hc',hdc',hd',h0',h1',?_,?_,hTe',hT',hdT',h3'⟩;all_goals
  cases z:s2.heap.get? T' with
  |none=>first|exact Y4 pl I2 z|exact yw I2.hok z
  |some o1=>
   have hmm:T'∈[]++frs X.stack:=Classical.byContradiction λhmm=>by
    rw [hideAll_get _ z hmm] at hnT'; cases hnT'
   have hmm':T'∈frs X.stack:=hmm;obtain ⟨sl,ee⟩:=up T' o1 (hx.keeps _ _ z) (zZ I2 hmm' z);rw [ee] at hT';cases hT'
   exact absurd hdT' (zZ I2 hmm' z _)
end
structure Fu (K:PySem.W.Frag) (x:Str) (st:Stmt) (f:Addr) (fd:FuncData):Prop where
 ex:∃ (oc:Value) (od:Option Addr) (dV kV doc pm:Value) (an:Option Addr) (cdv ct:Value) (osl:Array (Option Value)),
  fd=fnOf x x (zK st) (zI st) (zD st) dV kV doc pm an cdv ct/\K.lookup f=some ⟨oc,od,.func fd,osl⟩/\codeIn K cdv x=true
 kp:keepIn K (.ref f)=true
structure Df (K:PySem.W.Frag) (mg:Str->Option Value) (x:Str) (st:Stmt) (ps:List Str):Prop where
 ex:∃ f fd,Fu K x st f fd/\jP K fd ps []/\mg x=some (.ref f)
structure Fn (P:Program) (w:World) (K:PySem.W.Frag) (mg:Str->Option Value) (base:Heap) (k:Nat) (x:Str) (ps:List Str) (sp:Sp):Prop where
 ex:∃ f fd,FnOk P w K mg base (CXE P w) k f fd ps sp/\mg x=some (.ref f)/\keepIn K (.ref f)=true/\jP K fd ps []/\∃ oc od osl,K.lookup f=some ⟨oc,od,.func fd,osl⟩
section
variable {P:Program} {w:World} {K:PySem.W.Frag} {mg:Str->Option Value} {base:Heap} {x:Str} {st:Stmt} {N ps:List Str} {k:Nat} {sp:Sp}
theorem Df.ok0 (D:Df K mg x st ps) (S:FnScope N ps (zD st)) (len:∀ vs H Q E,sp vs H Q E->vs.length=ps.length)
  (hbody:∀ (f:Addr) (cdv:Value) (A:Around) (outer:List Env) (s:Shared) (H:Hp) (vs:List V) (Q:VK) (E:XK),Room k (A.deeper (envOfC x (zD st) s.heap.objs.size f cdv))->sp vs H Q E->
   ∃ t,PSs (cxOf (CXE P w) P w K mg base N x (zD st) f cdv A outer s H E).nox (zI st) t/\t {nx:=λ_ H'=>Q .non H',rt:=Q} (Zl N vs) H):Fn P w K mg base (k+1) x ps sp:=by
 obtain ⟨f,fd,⟨⟨oc,od,dV,kV,doc,pm,an,cdv,ct,osl,rfl,lk,hcd⟩,kp⟩,bd,hm⟩:=D.ex;refine ⟨f,_,fn_of lk hcd S len λA outer s H vs Q E hr hsp=>?_,hm,kp,bd,_,_,_,lk⟩
 obtain ⟨t,h,q⟩:=hbody f cdv A outer s H vs Q E hr hsp;exact ⟨t,h.nox,q⟩
theorem Df.okX (D:Df K mg x st ps) (S:FnScope N ps (zD st)) (len:∀ vs H Q E,sp vs H Q E->vs.length=ps.length)
  (hbody:∀ (f:Addr) (cdv:Value) (A:Around) (outer:List Env) (s:Shared) (H:Hp) (vs:List V) (Q:VK) (E:XK),Room k (A.deeper (envOfC x (zD st) s.heap.objs.size f cdv))->sp vs H Q E->
   ∃ t,PSs (cxOf (CXE P w) P w K mg base N x (zD st) f cdv A outer s H E) (zI st) t/\t {nx:=λ_ H'=>Q .non H',rt:=Q} (Zl N vs) H):Fn P w K mg base (k+1) x ps sp:=by
 obtain ⟨f,fd,⟨⟨oc,od,dV,kV,doc,pm,an,cdv,ct,osl,rfl,lk,hcd⟩,kp⟩,bd,hm⟩:=D.ex;exact ⟨f,_,fn_of lk hcd S len λA outer s H vs Q E hr hsp=>hbody f cdv A outer s H vs Q E hr hsp,hm,kp,bd,_,_,_,lk⟩
end
section
variable {X:Cx} {k k':Nat} {x:Str} {ps:List Str} {sp:Sp} {E:XK} {p pos:Pos} {e:Expr} {es:List Expr} {t:TA}
theorem zJ (F:Fn X.prog X.w X.K X.mg X.base k x ps sp) (hk:k<=k') (hr:Room k' X.A) (hg:Gl X x) (hx:yc (CXE X.prog X.w) X E) (ha:PA X (e::es) t) (hdb:(x == ("__debug__" : Str))=false:=by decide)
  (he:starEach (e::es) X.env=(false,eval e X.env)::starEach es X.env:=by rfl) (hpl:(backTo pos (starEach es X.env)).any (·.1)=false:=by rfl):PE X (.Call (.Name x p) (e::es) [] pos) (tCall sp [] E t):=by
 obtain ⟨f,fd,G,hm,kp,bd,_⟩:=F.ex;exact pe_call G (hr.mono hk) hg hm kp bd .nil hx ha hdb he hpl
end
noncomputable def Bd (n:Nat) (i:Int):Prop:=i.natAbs < 2 ^ n
theorem Bd.mono {m n:Nat} {i:Int} (h:Bd m i) (l:m<=n):Bd n i:=Nat.lt_of_lt_of_le h (Nat.pow_le_pow_right (by decide) l)
theorem Bd.of_le {n:Nat} {i j:Int} (h:Bd n j) (l:i.natAbs<=j.natAbs):Bd n i:=Nat.lt_of_le_of_lt l h
theorem Bd.bits {n:Nat} {i:Int} (h:Bd n i):Builtin.Int.intBits i<=n:=intBits_le_iff.mpr h
theorem Yk {n:Nat} {i:Int} (h:Builtin.Int.intBits i<=n):Bd n i:=intBits_le_iff.mp h
theorem Bd.mul {m n:Nat} {i j:Int} (h:Bd m i) (g:Bd n j):Bd (m+n) (i * j):=Yk (intBits_mul_le h.bits g.bits)
theorem Bd.add {m:Nat} {i j:Int} (h:Bd m i) (g:Bd m j):Bd (m+1) (i+j):=Yk (Nat.le_trans (intBits_add_le h.bits g.bits) (by omega))
theorem Bd.sub {m:Nat} {i j:Int} (h:Bd m i) (g:Bd m j):Bd (m+1) (i - j):=Yk (Nat.le_trans (intBits_sub_le h.bits g.bits) (by omega))
theorem Bd.ok {m n:Nat} {i j:Int} (h:Bd m i) (g:Bd n j) (l:m+n<=134217728):IntMulOk i j:=.of_le h.bits g.bits l
theorem Bd.small {i:Int} (h1:-(2 ^ 64) < i) (h2:i < 2 ^ 64):Bd 64 i:=Yk (intBits_le_64 h1 h2)
theorem Bd.log {i:Int} (h:Bd 9000 i):i.natAbs.log2 < 9000:=by
 by_cases h0:i.natAbs=0
 ·rw [h0]; decide+kernel
 ·exact (Nat.log2_lt h0).mpr h
theorem JO {i j:Int} (h1:-(2 ^ 64) < j) (h2:j < 2 ^ 64):IntMulOk i j:=.of_right (intBits_le_64 h1 h2)
theorem j8 {i j:Int} (h1:-(2 ^ 64) < i) (h2:i < 2 ^ 64):IntMulOk i j:=.of_left (intBits_le_64 h1 h2)
theorem bd_fT {n:Nat} {t b:Int} (h:b≠0) (g:Bd n t):Bd n (fT t b):=g.of_le (fT_le h)
theorem bd_fB {n:Nat} {t b:Int} (h:b≠0) (g:Bd n b):Bd n (fB t b):=g.of_le (fB_le h)
theorem bd_dv {n:Nat} {t b:Int} (h:b≠0) (g:Bd n b):Bd n (dv t b):=g.of_le (dv_le h)
section
variable {K:PySem.W.Frag}
theorem yS:kitOne K (.type "int") (.type "int")=some true:=by with_unfolding_all rfl
theorem yJ:kitOne K (.type "int") (.type "bool")=some false:=by with_unfolding_all rfl
theorem yG:kitOne K (.type "tuple") (.type "tuple")=some true:=by with_unfolding_all rfl
theorem kit_bl_bl:kitOne K (.type "bool") (.type "bool")=some true:=by with_unfolding_all rfl
end
noncomputable def Ya (K:PySem.W.Frag):Sp:=λvs H Q _=>∃ x t b1 b2,vs=[x]/\TyOf K H x t/\kitOne K t (.type "int")=some b1/\kitOne K t (.type "bool")=some b2/\Q (.bl (b1 && !b2)) H
noncomputable def Frac (t b:Int) (H:Hp) (Q:VK):Prop:=∀ p H',Same H H'->H' p=some (.tup [.int (fT t b),.int (fB t b)])->Q (.ref p) H'
noncomputable def Scr (K:PySem.W.Frag) (H:Hp) (a:Addr):Prop:=∃ ns:List Int,SqL K H a (ns.map V.int)/\ns.length<=63/\∀ n∈ns,Bd 1048576 n
noncomputable def spCell (K:PySem.W.Frag):Sp:=λvs H Q _=>∃ a k,vs=[.ref a,.int k]/\Scr K H a/\0<=k/\k<=1000/\∀ c,Bd 1048576 c->Q (.int c) H
noncomputable def spMix:Sp:=λvs H Q _=>∃ c k,vs=[.int c,.int k]/\Bd 1048576 c/\0<=k/\k<=1000/\∀ n,Q (.int n) H
noncomputable def spBox (K:PySem.W.Frag):Sp:=λvs H Q _=>∃ a k,vs=[.ref a,.int k]/\Scr K H a/\0<=k/\k<=1000/\∀ p n H',H p=none->Same H H'->H' p=some (.lst [.int n])->Q (.ref p) H'
noncomputable def YD:Sp:=λvs H Q _=>∃ b m n,vs=[.ref b,.int m]/\H b=some (.lst [.int n])/\0 < m/\Bd 9000 m/\∀ d n' H',0<=d->d < m->But b H H'->H' b=some (.lst [.int n'])->Q (.int d) H'
noncomputable def spFit:Sp:=λvs H Q _=>∃ a b:Int,vs=[.int a,.int b]/\b≠0/\Bd 9000 b/\Frac a b H Q
noncomputable def ExcIs (x:Addr) (C:Value) (h:Heap):Prop:=∃ o vs,h.get? x=some o/\o.cls=C/\o.data=.fields vs
section
variable {X:Cx} {pins:List (Addr × Obj)} {σ:L2.St} {H:Hp} {s:Shared} {h':Heap} {ch:List Addr} {x:Addr}
theorem Flown.inv (pl:Plain X) (hcell:X.env.cells=[]) (I:Inv X pins σ H s) (f:Flown X H s.heap h' ch) (np:∀ p∈X.pn++pins,p.1∉ch) {s':Shared} (hs:s'.heap=h') (ho:s'.os=s.os) (hg:AllBare s'.gens):Inv X pins σ H s':=by
 subst hs;refine ⟨I.ok,ho.trans I.os,hg,?_,?_,λx c z=>?_,I.free,I.freeC,λp hp=>?_,f.hok I,I.len⟩
 ·have u:=f.un pl I;rw [pl.ex];exact u
 ·obtain ⟨m,hn,hl⟩:=I.loc;obtain ⟨o,es,ep,e1,e2,e3⟩:=hn;obtain ⟨sl,e4⟩:=f.slot _ o e1 (locInStack pl);refine ⟨m,⟨_,es,ep,e4,e2,e3⟩,λi x v a b c=>?_⟩
  obtain ⟨u,r,lk⟩:=hl i x v a b c;refine ⟨u,r,?_⟩;rcases lk with lk|⟨_,c',lk,_⟩
  ·exact .inl lk
  ·rw [hcell] at lk;cases lk
 ·rw [hcell] at z;cases z
 ·obtain ⟨a,b,c,d,e⟩:=I.pin p hp;refine ⟨f.keep _ _ a (λz=>?_) (np p hp),b,c,d,e⟩
  rcases List.mem_cons.mp (I.stkSub _ z) with q|q
  ·exact c q
  ·exact d q
theorem Inv.adopt (hcl:∀ y c,X.env.cells.lookup y=some c->c≠x) {o:HO} (I:Inv X pins σ H s) (n0:X.s₀.heap.get? x=none) (hx:H x=none) (hL:x≠X.env.locals) (np:∀ p∈X.pn++pins,p.1≠x) (ok:zg X.prog X.w (upd H x o) s.heap x o) :
  Inv X pins σ (upd H x o) s:=by
 have nx:∀ b,H b≠none->b≠x:=λb hb z=>hb (by rw [z]; exact hx)
 refine ⟨I.ok,I.os,I.bare,⟨I.base.keep,I.base.slot,λb ob q n hb=>?_,I.base.there,λb xs q=>?_,λb ob u q=>?_,λb ps q=>?_⟩,I.loc,I.cell,?_,λy c z=>?_,λp hp=>?_,λa u e=>?_,I.len⟩
 ·rw [zV λz=>by rw [z,n0] at q; cases q]
  exact I.base.free b ob q n hb
 ·have z:=I.base.tups b xs q;rw [zV (nx b (by rw [z]; exact λq=>nomatch q))]
  exact z
 ·have z:=I.base.frzs b ob u q;rw [zV (nx b (by rw [z]; exact λq=>nomatch q))]
  exact z
 ·obtain ⟨more,z⟩:=I.base.tbls b ps q;exact ⟨more,by rw [zV (nx b (by rw [z]; exact λq=>nomatch q))]; exact z⟩
 ·rw [zV (Ne.symm hL)];exact I.free
 ·rw [zV (hcl y c z)];exact I.freeC y c z
 ·obtain ⟨a,b,c,d,e⟩:=I.pin p hp;exact ⟨a,by rw [zV (np p hp)]; exact b,c,d,e⟩
 ·by_cases z:a=x
  ·subst z;rw [zb] at e;cases e
   exact ok
  ·rw [zV z] at e;refine (I.hok a u e).stay (λb v hb q=>q) (λb q=>?_) λb xs q=>?_
   ·rw [zV (nx b (by rw [q]; exact λq=>nomatch q))]
    exact q
   ·rw [zV (nx b (by rw [q]; exact λq=>nomatch q))]
    exact q
end
noncomputable def sut (X:Cx) (x:Addr):Cx:={X with A:=X.A.mark (some (.ref x)),calm:=false,xe:=λ_ _=>False}
theorem Inv.sut {X:Cx} {pins:List (Addr × Obj)} {σ:L2.St} {H:Hp} {s:Shared} (I:Inv X pins σ H s) (x:Addr):Inv (sut X x) pins σ H s:=by
 obtain ⟨ok,r1,r2,r3,r4,r5,r6,r7,r8,r9,d9⟩:=I;obtain ⟨a1,a2,a3,a4,a5,a6,a7,a8,a9,gG,gH,gI,gJ,gK,gL,gM,gO,gP⟩:=ok;exact ⟨⟨a1,a2,a3,a4,a5,a6,a7,a8,(λz=>nomatch z),gG,gH,gI,gJ,gK,gL,gM,gO,gP⟩,r1,r2,r3,r4,r5,r6,r7,r8,r9,d9⟩
theorem Inv.unsut {X:Cx} {pins:List (Addr × Obj)} {σ:L2.St} {H:Hp} {s:Shared} {x:Addr} (ok:X.Ok) (I:Inv (Kw.sut X x) pins σ H s):Inv X pins σ H s:=by
 obtain ⟨_,r1,r2,r3,r4,r5,r6,r7,r8,r9,d9⟩:=I;exact ⟨ok,r1,r2,r3,r4,r5,r6,r7,r8,r9,d9⟩
section
variable {X:Cx} {pins:List (Addr × Obj)} {σ:L2.St} {H:Hp} {s:Shared}
theorem Inv.forget (pl:Plain X) (hcell:X.env.cells=[]) (I:Inv X pins σ H s) {h':Heap} {m':Str->Option Value} {tk:Nat} (hn:h'.Ns X.env.locals m') (sb:Heap.SameBut X.env.locals s.heap h') :
  Inv X pins (List.replicate X.N.length none) H {s with heap:=h',toks:=tk}:=by
 have kp:∀ b,b≠X.env.locals->h'.get? b=s.heap.get? b:=λb hb=>sb.2 b hb
 have old:∀ b o,X.s₀.heap.get? b=some o->b≠X.env.locals:=λb o q z=>by
  subst z;exact absurd (Heap.lt_size q) (Nat.not_lt.mpr I.ok.above)
 refine ⟨I.ok,I.os,I.bare,⟨λb o q n a c=>?_,λb o q n a c=>?_,I.base.free,λb o q c=>?_,I.base.tups,I.base.frzs,I.base.tbls⟩,⟨m',hn,λi x v a b c=>?_⟩,λx c z=>?_,I.free,I.freeC,λp hp=>?_,λa o e=>?_,by simp⟩
 ·exact (kp b (old b o q)).trans (I.base.keep b o q n a c)
 ·obtain ⟨sl,z⟩:=I.base.slot b o q n a c;exact ⟨sl,(kp b (old b o q)).trans z⟩
 ·obtain ⟨o',z⟩:=I.base.there b o q c;exact ⟨o',(kp b (old b o q)).trans z⟩
 ·exfalso
  rw [List.getElem?_replicate] at b;split at b<;>cases b
 ·rw [hcell] at z;cases z
 ·obtain ⟨a,b,c,d,e⟩:=I.pin p hp;exact ⟨(kp _ c).trans a,b,c,d,e⟩
 ·refine (I.hok a o e).stay (λb u hb ho=>?_) (λ_ z=>z) λ_ _ z=>z
  have nb:b≠X.env.locals:=λz=>by
   subst z;rcases hb with q|q
   ·rw [<- q,I.free] at e; cases e
   ·rw [I.free] at q; cases q
  exact (kp b nb).trans ho
end
section
variable {X:Cx} {k k' i j:Nat} {fx y n xK:Str} {ps:List Str} {sp:Sp} {CK:Addr} {e:Expr} {es:List Expr} {t:TA} {ts:TS} {b₀:Stmt} {suite:List Stmt} {np cpos yp apos kp hpos pos:Pos}
end
theorem exc_ty {x:Addr} {C:Value} (M:Model) (h:Heap) (p:ExcIs x C h):Looks M h (typeOf (.ref x)) C:=by
 obtain ⟨o,vs,a,b,_⟩:=p;exact b▸(PySem.W.Looks.ld a).andThen .now
section
variable {X:Cx}
end
section
variable {X:Cx} {pins:List (Addr × Obj)} {σ:L2.St} {H:Hp} {s:Shared} {h':Heap} {ch:List Addr}
end
section
variable {X:Cx}
theorem all_range_eq:∀ (ns ms:List Int),((List.range (min ns.length ms.length)).all (λj=>decide (ns[j]?=ms[j]?)) && ns.length == ms.length)=decide (ns=ms):=by
 intro ns ms;by_cases e:ns=ms
 ·subst e;rw [decide_eq_true rfl,Bool.and_eq_true];exact ⟨List.all_eq_true.mpr λj _=>decide_eq_true rfl,beq_self_eq_true _⟩
 ·rw [decide_eq_false e,Bool.and_eq_false_iff];by_cases l:ns.length=ms.length
  ·left
   refine Bool.eq_false_iff.mpr λh=>e (List.ext_getElem? λi=>?_)
   by_cases hi:i < ns.length
   ·exact of_decide_eq_true (List.all_eq_true.mp h i (List.mem_range.mpr (by omega)))
   ·rw [List.getElem?_eq_none (by omega),List.getElem?_eq_none (by omega)]
  ·right
   exact beq_eq_false_iff_ne.mpr l
theorem int_item {ns:List Int} {its:List Value} (r:Vals (ns.map V.int) its) {j:Nat} (h:j < its.toArray.size):∃ n t,ns[j]?=some n/\its.toArray[j]=Value.int n t:=by
 have hl:=r.length;rw [List.length_map] at hl;have hj:j < ns.length:=by simp at h; omega
 have e:(ns.map V.int)[j]?=some (V.int ns[j]):=by rw [List.getElem?_map,List.getElem?_eq_getElem hj]; rfl
 obtain ⟨u,hu,t,rfl⟩:=r.get e;refine ⟨ns[j],t,List.getElem?_eq_getElem hj,?_⟩;have hj':j < its.length:=by omega
 rw [List.getElem?_eq_getElem hj'] at hu;simpa using Option.some.inj hu
theorem op_eqTI (hu:X.A.units < cLine):OpR X (compareOp .Eq) (λx y H Q=>∃ (a b:Addr) (ns ms:List Int),x=.ref a/\y=.ref b/\SqT X.K H a (ns.map V.int)/\SqT X.K H b (ms.map V.int)/\Q (.bl (decide (ns=ms))) H):=by
 intro pins s σ H x y v u Q I rx ry h;obtain ⟨a,b,ns,ms,rfl,rfl,ha,hb,q⟩:=h;cases (show v=Value.ref a from rx)
 cases (show u=Value.ref b from ry)
 obtain ⟨its,r,pl,hz⟩:=I.tuple ha;obtain ⟨jts,r',pl',hz'⟩:=I.tuple hb;refine SeqAt.eq_tupleAt (e:=λj=>decide (ns[j]?=ms[j]?)) pl pl' hu (λj h1 h2=>?_) ?_
 ·obtain ⟨n,t,e1,e2⟩:=int_item r h1;obtain ⟨m,t',e3,e4⟩:=int_item r' h2;rw [e2,e4,e1,e3];have z:decide (some n=some m)=(n == m):=by
   by_cases c:n=m
   ·subst c; simp
   ·simp [c]
  rw [z];exact SeqAt.EqAt.int_int n t m t'
 ·have l1:its.toArray.size=ns.length:=by rw [List.size_toArray,<- r.length,List.length_map]
  have l2:jts.toArray.size=ms.length:=by rw [List.size_toArray,<- r'.length,List.length_map]
  rw [l1,l2,all_range_eq];exact ⟨.bl (decide (ns=ms)),H,I,rfl,q⟩
end
theorem Yo:∀ (ns:List Int) (n:Int),n∈ns->Builtin.Int.intBits n<=PySem.W.WData.weightAll (ns.map PySem.W.WData.int)
 |[],_,h=>nomatch h
 |m::r,n,h=>by
  have e:PySem.W.WData.weightAll ((m::r).map PySem.W.WData.int)=Builtin.Int.intBits m+1+PySem.W.WData.weightAll (r.map PySem.W.WData.int):=rfl;rw [e];rcases List.mem_cons.mp h with z|z
  ·subst z; omega
  ·have:=Yo r n z;omega
theorem script_bits {ns:List Int} (h:PySem.W.WData.layableAll [PySem.W.WData.list (ns.map PySem.W.WData.int)]=true):∀ n∈ns,Bd 1048576 n:=λn hn=>by
 have h1:PySem.W.WData.layable (PySem.W.WData.list (ns.map PySem.W.WData.int))=true:=by
  unfold PySem.W.WData.layableAll at h;simpa using h
 unfold PySem.W.WData.layable at h1;rw [Bool.and_eq_true] at h1;have h2:PySem.W.WData.weightAll (ns.map PySem.W.WData.int)<=2 ^ 20:=of_decide_eq_true h1.2;exact Yk (Nat.le_trans (Yo ns n hn) h2)
noncomputable def spLaw (K:PySem.W.Frag):Sp:=λvs H Q _=>∃ a,vs=[.ref a]/\Scr K H a/\∀ H',Q (.bl true) H'
theorem walk_kw {pn:Str} {l:PySem.W.OpenLaw} {k:Nat} {q:Program} {loose:List Str} {XP:(Str->Option Value)->Heap->Prop} {YP:World->Heap->Prop} {d:DefRec} {K:Params->PySem.W.Frag}
  (hn:l.most=some 63) (hdf:d.params.defaults=[]) (hr:Room k callerA) (hY:∀ (w:World) (h:Heap),YP w h->(K w.params).In h) (hnm:d.name="law")
  (F:∀ (w:World) (mg:Str->Option Value) (h:Heap),(K w.params).In h->h.Ns mainGlobals mg->∃ fa,mg "law"=some (.ref fa)/\∃ fd:FuncData,(∀ (s:Shared) (u:Value),BindsTo s fd ⟨[u],[]⟩ [(pn,u)])/\
   ∀ base:Heap,(K w.params).In base->base.Ns mainGlobals mg->FnOk l.prog w (K w.params) mg base (CXE l.prog w) k fa fd [pn] (spLaw (K w.params))) :
  PySem.W.WalkO q loose XP YP l.row.toRowW d [] (λf vs=>PySem.call f vs):=by
 intro w s₀ s₁ mg mb G Y fa o pm cd doc dV kV ho hd hcd hD hmg hg args vals as hpre hlay hrd hwl hlo;obtain ⟨a,vs,ns,e1,e2,hobj,hints,hlen⟩:=Att.script_of hn hpre hwl;subst e1 e2;have KX:=hY w _ Y;obtain ⟨fa',hfa,fd,hb,hF⟩:=F w mg _ KX G.T.g;rw [hnm,hfa] at hmg;cases hmg
 have core:=law_call KX G.T.g G.T.b G.T.builtins G.T.nolimit hg hobj hints (Nat.le_trans hlen (by decide)) hr hF hb (λH hO hS=>⟨a,rfl,⟨ns,hS,hlen,script_bits hlay⟩,λ_=>rfl⟩) (λH e s' z=>by
  obtain ⟨_,_,_,_,_,_,_,_,_,_,z⟩:=z
  exact z)
 refine PySem.W.enter_call (codeAny_mono core λr s' hq=>?_)
 obtain ⟨rfl,h2,h3,h4⟩:=hq;exact ⟨.inl ⟨.bool true,.bool true,[],rfl,λ_=>rfl,.bool true,Att.post_true l _,λ_=>⟨List.Pairwise.nil,λ_ hm=>(nomatch hm)⟩⟩,h2,h3,h4⟩
theorem YC {X:Cx} {x:Str} {C:Addr} {pos:Pos} (hg:Gl X x) (hm:X.mg x=some (.ref C)) (hd:(x == ("__debug__" : Str))=false:=by decide):PE X (.Name x pos) (tC (.ref C)):=Jc hg hm (v:=.ref C) rfl hd
theorem plain_nox {CX:CXT} {P:Program} {w:World} {K:PySem.W.Frag} {mg:Str->Option Value} {base:Heap} {N:List Str} {qual:Str} {scope:Scope} {f:Addr} {cd:Value} {A:Around} {outer:List Env} {s:Shared} {H:Hp} {E:XK} :
  Plain (cxOf CX P w K mg base N qual scope f cd A outer s H E).nox:=⟨rfl,rfl,rfl⟩
theorem za {K:PySem.W.Frag} {h:Heap} {mg:Str->Option Value} {x:Str} {st:Stmt} {ps:List Str} {f:Addr} {od an:Option Addr} {sl:Array (Option Value)} {oc kV dc pm cd ct:Value} (X:K.In h) (G:h.Ns mainGlobals mg)
  (a:nsIn K mainGlobals x=some (some (.ref f))) (l:K.lookup f=some ⟨oc,od,.func (fnOf x x (zK st) (zI st) (zD st) .none kV dc pm an cd ct),sl⟩) (c:codeIn K cd x=true) (k:keepIn K (.ref f)=true)
  (b:∀ us:List Value,us.length=ps.length->bindArgs (fnOf x x (zK st) (zI st) (zD st) .none kV dc pm an cd ct) ⟨us,[]⟩=pure (ps.zip us)):Df K mg x st ps:=
 ⟨f,_,⟨⟨oc,od,.none,kV,dc,pm,an,cd,ct,sl,rfl,l,c⟩,k⟩,.all b,mg_of X G a⟩
theorem df_mkD {K:PySem.W.Frag} {h:Heap} {mg:Str->Option Value} {x:Str} {st:Stmt} {ps:List Str} {f D:Addr} {od an oD:Option Addr} {sl slD:Array (Option Value)} {oc kV dc pm cd ct cD:Value} {items:Array Value} {n:Nat} (X:K.In h) (G:h.Ns mainGlobals mg)
  (a:nsIn K mainGlobals x=some (some (.ref f))) (l:K.lookup f=some ⟨oc,od,.func (fnOf x x (zK st) (zI st) (zD st) (.ref D) kV dc pm an cd ct),sl⟩) (c:codeIn K cd x=true) (k:keepIn K (.ref f)=true)
  (lD:K.lookup D=some ⟨cD,oD,.seq items n,slD⟩)
  (b:∀ us:List Value,us.length=ps.length->∃ kk:Option (Array Value)->Sem (List (Str × Value)),bindArgs (fnOf x x (zK st) (zI st) (zD st) (.ref D) kV dc pm an cd ct) ⟨us,[]⟩=seqItems? (.ref D) >>= kk/\kk (some items)=pure (ps.zip us)):Df K mg x st ps:=
 ⟨f,_,⟨⟨oc,od,.ref D,kV,dc,pm,an,cd,ct,sl,rfl,l,c⟩,k⟩,λs us hk hl=>by
  rw [List.append_nil] at hl ⊢;obtain ⟨kk,h1,h2⟩:=b us hl
  exact BindsTo.of_defaults rfl (hk _ _ lD) rfl h1 h2,mg_of X G a⟩
theorem law_end {pn:Str} {P:Program} {w:World} {K:PySem.W.Frag} {h:Heap} {mg:Str->Option Value} {st:Stmt} {f:Addr} {od an:Option Addr} {sl:Array (Option Value)} {oc kV dc pm cd ct:Value} {k:Nat} (X:K.In h) (G:h.Ns mainGlobals mg)
  (a:nsIn K mainGlobals "law"=some (some (.ref f))) (l:K.lookup f=some ⟨oc,od,.func (fnOf "law" "law" (zK st) (zI st) (zD st) .none kV dc pm an cd ct),sl⟩)
  (b:∀ u:Value,bindArgs (fnOf "law" "law" (zK st) (zI st) (zD st) .none kV dc pm an cd ct) ⟨[u],[]⟩=pure [(pn,u)])
  (F:∀ base:Heap,K.In base->base.Ns mainGlobals mg->Fn P w K mg base k "law" [pn] (spLaw K)) :
  ∃ fa,mg "law"=some (.ref fa)/\∃ fd:FuncData,(∀ (s:Shared) (u:Value),BindsTo s fd ⟨[u],[]⟩ [(pn,u)])/\∀ base:Heap,K.In base->base.Ns mainGlobals mg->FnOk P w K mg base (CXE P w) k fa fd [pn] (spLaw K):=by
 have hm:=mg_of X G a;refine ⟨f,hm,_,λs u=>.of_eq (b u),λbase kb nb=>?_⟩
 obtain ⟨f',fd',G',hm',_,_,_,_,_,lk⟩:=(F base kb nb).ex;rw [hm] at hm';cases hm'
 rw [l] at lk;cases lk
 exact G'
end Kw
namespace Kw
theorem q_of {n d:Int} (hd:0 < d) (hg:Int.gcd n d=1):(Rat.divInt n d).num=n/\(((Rat.divInt n d).den:Nat):Int)=d:=by
 rw [Rat.num_divInt,Rat.den_divInt,Int.gcd_comm,hg,Int.sign_eq_one_of_pos hd,if_neg (by omega)]
 constructor
 ·simp
 ·simp; omega
theorem q_is {q:Rat} {n d:Int} (hd:0 < d) (hg:Int.gcd n d=1) (e:q=Rat.divInt n d):n=q.num/\d=((q.den:Nat):Int):=by
 subst e;obtain ⟨a,b⟩:=q_of hd hg;exact ⟨a.symm,b.symm⟩
theorem gcd_fT_fB {t b:Int} (h:b≠0):Int.gcd (fT t b) (fB t b)=1:=by
 have hp:0 < Int.gcd t b:=Int.gcd_pos_of_ne_zero_right _ h;have e1:=fT_mul t b;have e2:=fB_mul t b;have e:Int.gcd (dv t b * fT t b) (dv t b * fB t b)=(dv t b).natAbs * Int.gcd (fT t b) (fB t b):=Int.gcd_mul_left ..;rw [e1,e2] at e;have hn:(dv t b).natAbs=Int.gcd t b:=by unfold dv; split<;>simp
 rw [hn] at e;exact Nat.eq_of_mul_eq_mul_left hp (by omega)
theorem q_fit {t b:Int} (h:b≠0):fT t b=(Rat.divInt t b).num/\fB t b=(((Rat.divInt t b).den:Nat):Int):=by
 refine q_is (fB_pos h) (gcd_fT_fB h) ?_;have e:=Rat.divInt_mul_left (n:=fT t b) (d:=fB t b) (ZQ (t:=t) h);rw [fT_mul,fB_mul] at e;exact e
theorem q_red (q:Rat):Int.gcd q.num ((q.den:Nat):Int)=1:=by
 have:=q.reduced;simpa [Int.gcd,Nat.Coprime] using this
theorem YU (q:Rat):0 < ((q.den:Nat):Int):=by
 have:=q.den_nz;omega
theorem q_add (x y:Rat):Rat.divInt (x.num * y.den+y.num * x.den) (x.den * y.den)=x+y:=by
 conv=>rhs; rw [<- Rat.num_divInt_den x,<- Rat.num_divInt_den y]
 rw [Rat.divInt_add_divInt _ _ (by have:=YU x; omega) (by have:=YU y; omega)]
theorem q_sub (x y:Rat):Rat.divInt (x.num * y.den - y.num * x.den) (x.den * y.den)=x - y:=by
 conv=>rhs; rw [<- Rat.num_divInt_den x,<- Rat.num_divInt_den y]
 rw [Rat.divInt_sub_divInt _ _ (by have:=YU x; omega) (by have:=YU y; omega)]
theorem q_mul (x y:Rat):Rat.divInt (x.num * y.num) (x.den * y.den)=x * y:=by
 conv=>rhs; rw [<- Rat.num_divInt_den x,<- Rat.num_divInt_den y]
 rw [Rat.divInt_mul_divInt]
theorem q_inv (y:Rat):Rat.divInt y.den y.num=y⁻¹:=by
 conv=>rhs; rw [<- Rat.num_divInt_den y]
 rw [Rat.inv_divInt]
theorem q_div (x y:Rat):Rat.divInt (x.num * y.den) (x.den * y.num)=x / y:=by
 rw [Rat.div_def,<- q_inv];conv=>rhs; rw [<- Rat.num_divInt_den x]
 rw [Rat.divInt_mul_divInt]
theorem q_neg (y:Rat):(-y).num=-y.num/\(-y).den=y.den:=⟨rfl,rfl⟩
theorem q_lt (x y:Rat):x < y↔x.num * y.den < y.num * x.den:=Rat.lt_iff x y
theorem yr {x g:Int} (h:g ∣ x):g * x.fdiv g=x:=Int.mul_fdiv_cancel' h
theorem Yi {x g:Int} (h:g ∣ x):x.fdiv g ∣ x:=⟨g,by rw [Int.mul_comm]; exact (yr h).symm⟩
theorem j6 {a b b':Int} (h:Int.gcd a b=1) (d:b' ∣ b):Int.gcd a b'=1:=by
 have h1:Int.gcd a b' ∣ Int.gcd a b:=Int.dvd_gcd (Int.gcd_dvd_left ..) (Int.dvd_trans (Int.gcd_dvd_right ..) d);rw [h] at h1;exact Nat.dvd_one.mp h1
theorem ZH {a b c:Int} (h:Int.gcd a b=1) (k:Int.gcd a c=1):Int.gcd a (b * c)=1:=by
 show Nat.gcd a.natAbs (b * c).natAbs=1;rw [Int.natAbs_mul];exact Nat.Coprime.mul_right h k
theorem cop_add {a b c:Int} (h:Int.gcd a b=1):Int.gcd (a+c * b) b=1:=by
 rw [Int.gcd_add_mul_right_left]; exact h
theorem YQ {a b:Int} (h:b≠0) (g:Int) (hg:g=((Int.gcd a b:Nat):Int)):Int.gcd (a.fdiv g) (b.fdiv g)=1:=by
 have hp:0 < Int.gcd a b:=Int.gcd_pos_of_ne_zero_right _ h;have e1:g * a.fdiv g=a:=yr (by rw [hg]; exact Int.gcd_dvd_left ..)
 have e2:g * b.fdiv g=b:=yr (by rw [hg]; exact Int.gcd_dvd_right ..)
 have e:Int.gcd (g * a.fdiv g) (g * b.fdiv g)=g.natAbs * Int.gcd (a.fdiv g) (b.fdiv g):=Int.gcd_mul_left ..;rw [e1,e2] at e;have hn:g.natAbs=Int.gcd a b:=by rw [hg]; simp
 rw [hn] at e;exact Nat.eq_of_mul_eq_mul_left hp (by omega)
theorem ZU {b g:Int} (hb:0 < b) (hg:0 < g) (d:g ∣ b):0 < b.fdiv g:=by
 have e:=yr d;refine Int.not_le.mp λq=>?_
 have:=Int.mul_nonpos_of_nonneg_of_nonpos (Int.le_of_lt hg) q;omega
theorem gpos {a b:Int} (h:b≠0):0 < ((Int.gcd a b:Nat):Int):=by
 have:=Int.gcd_pos_of_ne_zero_right a h;omega
theorem q_plus (x y:Rat) (g t h:Int) (hg:g=((Int.gcd ((x.den:Nat):Int) ((y.den:Nat):Int):Nat):Int)) (ht:t=x.num * ((y.den:Nat):Int).fdiv g+y.num * ((x.den:Nat):Int).fdiv g) (hh:h=((Int.gcd t g:Nat):Int)) :
  t.fdiv h=(x+y).num/\((x.den:Nat):Int).fdiv g * ((y.den:Nat):Int).fdiv h=(((x+y).den:Nat):Int):=by
 have hb:=YU x;have hd:=YU y;have rx:=q_red x;have ry:=q_red y;have ea:=q_add x y
 revert hb hd rx ry hg ht ea
 generalize x.num=a;generalize y.num=c;generalize ((x.den:Nat):Int)=b;generalize ((y.den:Nat):Int)=d;intro hg ht hb hd rx ry ea;have g0:0 < g:=by rw [hg]; exact gpos (by omega)
 have h0:0 < h:=by rw [hh]; exact gpos (by omega)
 have gb:g ∣ b:=by rw [hg]; exact Int.gcd_dvd_left ..
 have gd:g ∣ d:=by rw [hg]; exact Int.gcd_dvd_right ..
 have hht:h ∣ t:=by rw [hh]; exact Int.gcd_dvd_left ..
 have hhg:h ∣ g:=by rw [hh]; exact Int.gcd_dvd_right ..
 have eb:=yr gb;have ed:=yr gd;have et:=yr hht;have eg:=yr hhg;have b0:=ZU hb g0 gb;have d0:=ZU hd g0 gd;have k0:=ZU g0 h0 hhg;have cbd:Int.gcd (b.fdiv g) (d.fdiv g)=1:=YQ (by omega) g hg
 have ctg:Int.gcd (t.fdiv h) (g.fdiv h)=1:=YQ (by omega) h hh
 have dh:d.fdiv h=g.fdiv h * d.fdiv g:=by
  have e:=yr (Int.dvd_trans hhg gd);have e2:h * (g.fdiv h * d.fdiv g)=d:=by rw [<- Int.mul_assoc,eg,ed]
  exact Int.eq_of_mul_eq_mul_left (by omega) (e.trans e2.symm)
 have qp:Int.gcd t (b.fdiv g)=1:=by
  rw [ht];refine cop_add ?_;rw [Int.gcd_comm];exact ZH (by rw [Int.gcd_comm]; exact j6 rx ⟨g,by rw [Int.mul_comm]; exact eb.symm⟩) cbd
 have qq:Int.gcd t (d.fdiv g)=1:=by
  rw [ht,Int.add_comm];refine cop_add ?_;rw [Int.gcd_comm];exact ZH (by rw [Int.gcd_comm]; exact j6 ry ⟨g,by rw [Int.mul_comm]; exact ed.symm⟩) (by rw [Int.gcd_comm]; exact cbd)
 have sub:∀ z,Int.gcd t z=1->Int.gcd (t.fdiv h) z=1:=λz hz=>by
  rw [Int.gcd_comm] at hz ⊢;exact j6 hz ⟨h,by rw [Int.mul_comm]; exact et.symm⟩
 rw [dh];refine q_is ?_ ?_ ?_
 ·exact Int.mul_pos b0 (Int.mul_pos k0 d0)
 ·exact ZH (sub _ qp) (ZH ctg (sub _ qq))
 ·rw [<- ea];have z:=Rat.divInt_mul_left (n:=t.fdiv h) (d:=b.fdiv g * (g.fdiv h * d.fdiv g)) (a:=g * h) (by have:=Int.mul_pos g0 h0; omega)
  rw [<- z];congr 1
  ·rw [Int.mul_assoc,et,ht,Int.mul_add];congr 1
   ·rw [<- Int.mul_assoc,Int.mul_comm g,Int.mul_assoc,ed]
   ·rw [<- Int.mul_assoc,Int.mul_comm g,Int.mul_assoc,eb]
  ·rw [show g * h * (b.fdiv g * (g.fdiv h * d.fdiv g))=(g * b.fdiv g) * ((h * g.fdiv h) * d.fdiv g) by grind,eb,eg,ed]
theorem q_times (x y:Rat) (f s:Int) (hf:f=((Int.gcd x.num ((y.den:Nat):Int):Nat):Int)) (hs:s=((Int.gcd y.num ((x.den:Nat):Int):Nat):Int)) :
  x.num.fdiv f * y.num.fdiv s=(x * y).num/\((x.den:Nat):Int).fdiv s * ((y.den:Nat):Int).fdiv f=(((x * y).den:Nat):Int):=by
 have hb:=YU x;have hd:=YU y;have rx:=q_red x;have ry:=q_red y;have ea:=q_mul x y
 revert hb hd rx ry hf hs ea
 generalize x.num=a;generalize y.num=c;generalize ((x.den:Nat):Int)=b;generalize ((y.den:Nat):Int)=d;intro hf hs hb hd rx ry ea;have f0:0 < f:=by rw [hf]; exact gpos (by omega)
 have s0:0 < s:=by rw [hs]; exact gpos (by omega)
 have fa:f ∣ a:=by rw [hf]; exact Int.gcd_dvd_left ..
 have fd:f ∣ d:=by rw [hf]; exact Int.gcd_dvd_right ..
 have sc:s ∣ c:=by rw [hs]; exact Int.gcd_dvd_left ..
 have sb:s ∣ b:=by rw [hs]; exact Int.gcd_dvd_right ..
 have ea':=yr fa;have ed:=yr fd;have ec:=yr sc;have eb:=yr sb;have c1:Int.gcd (a.fdiv f) (d.fdiv f)=1:=YQ (by omega) f hf
 have c2:Int.gcd (c.fdiv s) (b.fdiv s)=1:=YQ (by omega) s hs
 have c3:Int.gcd (a.fdiv f) (b.fdiv s)=1:=by
  refine j6 (b:=b) ?_ (Yi sb);rw [Int.gcd_comm] at rx ⊢;exact j6 rx (Yi fa)
 have c4:Int.gcd (c.fdiv s) (d.fdiv f)=1:=by
  refine j6 (b:=d) ?_ (Yi fd);rw [Int.gcd_comm] at ry ⊢;exact j6 ry (Yi sc)
 refine q_is (Int.mul_pos (ZU hb s0 sb) (ZU hd f0 fd)) ?_ ?_
 ·rw [Int.gcd_comm];refine ZH ?_ ?_
  ·rw [Int.gcd_comm]; exact ZH c3 c1
  ·rw [Int.gcd_comm]; exact ZH c2 c4
 ·rw [<- ea];have z:=Rat.divInt_mul_left (n:=a.fdiv f * c.fdiv s) (d:=b.fdiv s * d.fdiv f) (a:=f * s) (by have:=Int.mul_pos f0 s0; omega)
  rw [<- z];congr 1
  ·rw [show f * s * (a.fdiv f * c.fdiv s)=(f * a.fdiv f) * (s * c.fdiv s) by grind,ea',ec]
  ·rw [show f * s * (b.fdiv s * d.fdiv f)=(s * b.fdiv s) * (f * d.fdiv f) by grind,eb,ed]
theorem q_dv (a b:Int):Rat.divInt a b=(a:Rat) / (b:Rat):=by
 have h:=q_div (a:Rat) (b:Rat);have e1:(a:Rat).num * (((b:Rat).den:Nat):Int)=a:=by show a * 1=a; omega
 have e2:(((a:Rat).den:Nat):Int) * (b:Rat).num=b:=by show 1 * b=b; omega
 rw [e1,e2] at h;exact h
theorem q_intne {i:Int} (h:i≠0):(i:Rat)≠0:=λe=>h (by have:=congrArg Rat.num e; exact this)
theorem q_wpos {i:Int} (h:1<=i):(0:Rat) < (i:Rat):=by
 have:((0:Int):Rat) < (i:Rat):=Rat.intCast_lt_intCast.mpr (by omega)
 exact this
theorem Zs {a b:Int} (ha:0 < a) (hb:0 < b):(0:Rat) < Rat.divInt a b:=by
 rw [q_dv];rw [Rat.div_def];exact Rat.mul_pos (q_wpos (by omega)) (Rat.inv_pos.mpr (q_wpos (by omega)))
noncomputable def mixQ (u v:Rat) (m w:Int):Rat:=u * Rat.divInt (m - w) (m+w)+v * Rat.divInt (2 * w) (m+w)
theorem mixQ_eq (u v:Rat) (m w:Int):mixQ u v m w=u * (((m:Rat) - w) / (m+w))+v * ((2 * w) / (m+w)):=by
 unfold mixQ;rw [q_dv,q_dv];simp only [Rat.intCast_add,Rat.intCast_sub,Rat.intCast_mul];rfl
theorem q_le0 (x:Rat):x.num<=0↔¬ 0 < x:=by
 have h:=q_lt 0 x;have e:(0:Rat).num * (x.den:Int) < x.num * ((0:Rat).den:Int)↔0 < x.num:=by
  show 0 * (x.den:Int) < x.num * 1↔0 < x.num;omega
 rw [h,e];omega
end Kw
namespace Kw
open PySem PySem.Spec PyProof.Rows L2 PySem.Builtin PySem.Builtin.ObjectAttr PySem.Builtin.Getset_descriptor
structure ExcQ (K:PySem.W.Frag) (C:Addr):Prop where
 ga:findIn K (.ref C) "__getattribute__"=some (some (.builtin "BaseException.__getattribute__"))
 hk:findIn K (.ref C) "__getattr__"=some none
 cl:findIn K (.ref C) "__class__"=some (some (.builtin "object.__class__"))
 gt:specialIn K (.builtin "object.__class__") "__get__"=some (some (.builtin "getset_descriptor.__get__"))
 tk:takesIn K (.builtin "object.__class__")=some true
 ob:mroIn K C (.type "object")=some true
 be:mroIn K C (.type "BaseException")=some true
section
variable {prog:Program} {w:World} {A:Around} {E:Value->Shared->Prop} {s:Shared} {K:PySem.W.Frag} {x C:Addr}
theorem find_cls {M:Model} {h:Heap} {self:Value} (kx:K.In h) (q:ExcQ K C):Looks M h (find self (.ref C) "__class__") (.bind (.builtin "getset_descriptor.__get__") (.builtin "object.__class__")):=by
 have l1:=looks_findIn (M:=M) kx q.cl;have l2:Looks M h (getOf (some (.builtin "object.__class__"))) _:=PySem.W.looks_specialIn kx q.gt;have l3:=PySem.W.looks_takesIn (M:=M) kx q.tk;have l4:Looks M h (dataDescriptor? (some (.builtin "object.__class__")) (some (.builtin "getset_descriptor.__get__"))) (some (.builtin "getset_descriptor.__get__",.builtin "object.__class__")):=l3.andThen .now;exact l1.andThen (l2.andThen (l4.andThen (PySem.W.Looks.tag .now)))
theorem cls_get {R:Result->Shared->Prop} {tp:Value} (kx:K.In s.heap) (L0:Looks (model prog w) s.heap (typeOf (.ref x)) (.ref C)) (q:ExcQ K C) (want:R (.ok (.ret (.ref C))) s) :
  codeAny (model prog w) A (.call (.builtin "getset_descriptor.__get__") ⟨[.builtin "object.__class__",.ref x,tp],[]⟩) R s:=by
 obtain ⟨z0,z1,z2,z3,z4⟩:=s;have L1:=looks_mroIn (M:=model prog w) kx q.ob;refine codeAny_call_builtin PySem.W.KF.slot_gs.plain PySem.W.KF.entry_gs (PySem.W.KF.slot_gs.check _ _ _ _ _ _ _ _ PySem.W.KF.type_class (PySem.W.KF.args_gs _ _ _) ?_);unfold Builtin.«getset_descriptor.__get__» descrGet;rw [PySem.W.dga_obj];refine wpAny_bind (wpAny_pure ?_);unfold descrGetter descrCheckInstance descrNameAndClass isInstance;simp only [PySem.W.KF.owner_class]
 repeat lk
 refine ⟨Code.quiet_builtin _ (by decide+kernel),codeAny_builtin PySem.W.KF.entry_class ?_⟩
 unfold Builtin.«object.__class__» shownTypeOf
 repeat lk
 exact want
theorem ga_entry {tk:Tok} {Q:Fin->Shared->Prop} (kx:K.In s.heap) (L0:Looks (model prog w) s.heap (typeOf (.ref x)) (.ref C)) (q:ExcQ K C) (want:Q (.done (.ret (.ref C))) s) :
  wpAny (model prog w) A (Builtin.«object.__getattribute__» ⟨[.ref x,.str "__class__" tk],[]⟩) Q E s:=by
 obtain ⟨z0,z1,z2,z3,z4⟩:=s;have L1:=find_cls (M:=model prog w) (self:=.ref x) kx q;unfold Builtin.«object.__getattribute__»
 repeat ((fail_if_success (with_reducible show wpAny _ _ (bindTo _ _ _ _) _ _ _)); lk)
 unfold bindTo;refine wpAny_bind (wpAny_holding (wpAny_call (cls_get kx L0 q ?_)));exact wpAny_pure want
theorem ga_check {nameV:Value} {Q:Unit->Shared->Prop} (kx:K.In s.heap) (L0:Looks (model prog w) s.heap (typeOf (.ref x)) (.ref C)) (q:ExcQ K C) (want:Q () s) :
  wpAny (model prog w) A (checkBuiltinCall "BaseException.__getattribute__" ⟨[.ref x,nameV],[]⟩) Q E s:=by
 obtain ⟨z0,z1,z2,z3,z4⟩:=s;have hk:builtinKind "BaseException.__getattribute__"=some .slot:=by decide+kernel
 have hsp:splitId "BaseException.__getattribute__"=some ("BaseException","__getattribute__"):=by decide+kernel
 have L1:=looks_mroIn (M:=model prog w) kx q.be;have ha:=PySem.F.args_bexc_ga (.ref x) nameV;simp only [checkBuiltinCall,hk,hsp];refine wpAny_bind ?_;unfold isInstance
 repeat (first|lk|wp_step)
 exact want
theorem exc_class {Q:Option Value->Shared->Prop} (kx:K.In s.heap) (L0:Looks (model prog w) s.heap (typeOf (.ref x)) (.ref C)) (q:ExcQ K C) (want:Q (some (.ref C)) {s with toks:=s.toks+1}) :
  wpAny (model prog w) A (getAttr? (.ref x) "__class__") Q E s:=by
 obtain ⟨z0,z1,z2,z3,z4⟩:=s;have L1:=looks_findIn (M:=model prog w) kx q.ga;have L2:=looks_findIn (M:=model prog w) kx q.hk;have f3:=PySem.F.excAttr_ValueError.ga.bind (.ref x);unfold getAttr? getAttrBy? getAttrBy;refine wpAny_bind (wpAny_mkText (wpAny_bind (wpAny_attempt (wpAny_holding (wpAny_bind (L0.at (wpAny_bind (L1.at ?_))))))));dsimp only;have e1:(Value.builtin "BaseException.__getattribute__" == Value.builtin "object.__getattribute__")=false:=by decide+kernel
 rw [e1,Bool.and_false,if_neg (by decide)]
 unfold getAttrByItsOwn hookBefore;rw [show onTheHeap (Value.ref C)=true from rfl,if_pos rfl];refine wpAny_bind (L2.at ?_);refine wpAny_bind (wpAny_attempt (wpAny_holding ?_));unfold callGetattribute boundAndCalled;rw [if_neg (by decide),f3]
 refine wpAny_bind (wpAny_pure ?_);dsimp only;refine wpAny_call (codeAny_call_builtin PySem.F.excAttr_ValueError.ga.plain PySem.F.entry_bexc_ga (ga_check kx L0 q (ga_entry kx L0 q ?_)));exact wpAny_pure (wpAny_pure want)
theorem cls_of (q:ExcQ K C):∃ c d cd sl,K.lookup C=some ⟨c,d,.cls cd,sl⟩:=by
 obtain ⟨cd,e,_⟩:=Option.bind_eq_some_iff.mp q.ob;unfold PySem.W.clsIn at e;split at e
 ·rename_i ho
  exact ⟨_,_,_,_,ho⟩
 ·cases e
theorem kitx_exc (q:ExcQ K C):PySem.W.KitX K (.ref x) (.ref C) (ExcIs x (.ref C)) where
 ty:=λM h _ p=>exc_ty M h p
 it:=λM h kx _=>by
  obtain ⟨c,d,cd,sl,ho⟩:=cls_of q;intro A' Q' E' s' keep want;unfold isType loadHead;exact wpAny_bind (wpAny_loadPart (keep _ _ (kx _ _ ho)) (wpAny_pure want))
 ne:=λh tp dd its n sl kx htp=>by
  obtain ⟨c,d,cd,sl',ho⟩:=cls_of q;refine Bool.eq_false_iff.mpr λz=>?_
  have e:C=tp:=Value.ref.inj (beq_iff_eq.mp z);subst e;have y:=(kx _ _ ho).symm.trans htp;cases y
 ca:=λkx p want=>exc_class kx (exc_ty _ _ p) q want
end
section
variable {X:Cx}
end
end Kw
namespace Kw
open PySem PySem.Spec PyProof.Rows L2
mutual
inductive Dp (K:PySem.W.Frag) (H:Hp):V->PyData->Prop
 |non:Dp K H .non .none
 |bl (b:Bool):Dp K H (.bl b) (.bool b)
 |int (i:Int):Dp K H (.int i) (.int i)
 |str (x:Str):Dp K H (.str x) (.str x)
 |lst {p:Addr} {xs:List V} {ds:List PyData}:SqL K H p xs->Dps K H xs ds->Dp K H (.ref p) (.list ds)
 |tup {p:Addr} {xs:List V} {ds:List PyData}:SqT K H p xs->Dps K H xs ds->Dp K H (.ref p) (.tuple ds)
inductive Dps (K:PySem.W.Frag) (H:Hp):List V->List PyData->Prop
 |nil:Dps K H [] []
 |cons {x:V} {xs:List V} {d:PyData} {ds:List PyData}:Dp K H x d->Dps K H xs ds->Dps K H (x::xs) (d::ds)
end
section
variable {X:Cx} {pins:List (Addr × Obj)} {σ:L2.St} {H:Hp} {s:Shared}
mutual
theorem Dp.reads (I:Inv X pins σ H s):∀ {x:V} {d:PyData} {u:Value},Dp X.K H x d->RelV x u->∃ as,Reads s.heap u d as
 |_,_,_,.non,r=>by cases r; exact ⟨_,.none⟩
 |_,_,_,.bl b,r=>by cases r; exact ⟨_,.bool b⟩
 |_,_,_,.int i,r=>by obtain ⟨t,rfl⟩:=r; exact ⟨_,.int i t⟩
 |_,_,_,.str x,r=>by obtain ⟨t,rfl⟩:=r; exact ⟨_,.str x t⟩
 |_,_,_,.lst h q,r=>by
  cases r
  obtain ⟨its,r',pl,hz⟩:=I.list h;obtain ⟨as,ra⟩:=Dps.reads I q r';obtain ⟨o,n,ho,hc,_,hd⟩:=pl;exact ⟨_,.list ho hc hd ra⟩
 |_,_,_,.tup h q,r=>by
  cases r
  obtain ⟨its,r',pl,hz⟩:=I.tuple h;obtain ⟨as,ra⟩:=Dps.reads I q r';obtain ⟨o,ho,hc,n,hd⟩:=pl;exact ⟨_,.tuple ho hc hd ra⟩
theorem Dps.reads (I:Inv X pins σ H s):∀ {xs:List V} {ds:List PyData} {us:List Value},Dps X.K H xs ds->Vals xs us->∃ as,ReadsAll s.heap us ds as
 |_,_,_,.nil,r=>by cases r; exact ⟨_,.nil⟩
 |_,_,_,.cons h q,r=>by
  cases r with
  |cons a b=>
   obtain ⟨as,ra⟩:=Dp.reads I h a;obtain ⟨bs,rb⟩:=Dps.reads I q b;exact ⟨_,.cons ra rb⟩
end
noncomputable def rDp (K:PySem.W.Frag) (g:Bool->Bool):V->V->Hp->VK->Prop:=λx y H Q=>∃ dx dy,Dp K H x dx/\Dp K H y dy/\dx.canLay0=true/\dy.canLay0=true/\min dx.depth dy.depth<=60/\Q (.bl (g (PyData.eqv dx dy))) H
theorem op_eqD {K:PySem.W.Frag} (hK:X.K=K) (hu:X.A.units+100 < cLine):OpR X (compareOp .Eq) (rDp K id):=by
 subst hK;intro pins s σ H x y v u Q I rx ry h;obtain ⟨dx,dy,hx,hy,cx,cy,dep,q⟩:=h;obtain ⟨as,ra⟩:=hx.reads I rx;obtain ⟨bs,rb⟩:=hy.reads I ry;exact SeqAt.compareEq_reads ra rb cx cy (by omega) ⟨.bl (PyData.eqv dx dy),H,I,rfl,q⟩
theorem op_neD {K:PySem.W.Frag} (hK:X.K=K) (hu:X.A.units+100 < cLine):OpR X (compareOp .NotEq) (rDp K not):=by
 subst hK;intro pins s σ H x y v u Q I rx ry h;obtain ⟨dx,dy,hx,hy,cx,cy,dep,q⟩:=h;obtain ⟨as,ra⟩:=hx.reads I rx;obtain ⟨bs,rb⟩:=hy.reads I ry;exact SeqAt.compareNe_reads ra rb cx cy (by omega) ⟨.bl (!PyData.eqv dx dy),H,I,rfl,q⟩
end
end Kw
namespace Kw
open PySem PySem.Spec PyProof.Rows L2
theorem upd2 {H:Hp} {p:Addr} {o o':HO}:upd (upd H p o) p o'=upd H p o':=by
 funext b
 by_cases e:b=p
 ·subst e; rw [zb,zb]
 ·rw [zV e,zV e,zV e]
theorem past_sys {X:Cx} {pins:List (Addr × Obj)} {σ:L2.St} {H:Hp} {s:Shared} (I:Inv X pins σ H s):sysModules < s.heap.objs.size:=
 Nat.lt_trans (by decide) (show mainGlobals < _ from (I.mod.glob.keeps I.bk).lt)
section
variable {X:Cx} {pos:Pos} {k v:Expr} {x:Str} {i:Int}
noncomputable def tD1 (x:Str) (i:Int):TE:=λ_ H Q=>∀ p,H p=none->Q (.ref p) (upd H p (.dK [(.inr x,.int i)]))
theorem pe_d1 (hk:PE X k (tC (.str x))) (hv:PE X v (tC (.int i))):PE X (.Dict [some k] [v] pos) (tD1 x i):=by
 intro pins s σ H Q I q;have hn:=I.hok.fresh (Nat.le_refl s.heap.objs.size);have hsm:(s.heap.objs.size == sysModules)=false:=beq_eq_false_iff_ne.mpr (Ne.symm (Nat.ne_of_lt (past_sys I)));have I1:=I.laid (a:=s.heap.objs.size) (o:=.dK []) (h':=s.heap.push {cls:=.type "dict",data:=.dict #[]}) (t':=s.toks) (λ_ _ q=>Heap.get?_push_of_some _ q) (Nat.le_refl _)
  ⟨Nat.zero_le _,hsm,[],.nil,Heap.DictOf.new s.heap⟩
 refine wpAny_Dict_walk (knd:=yF X.prog X.w) rfl rfl (by simp) (by show 1<=15; decide) (pairTrees_cons_walk ?_)
 refine thn (hk pins _ σ _ (λy H1=>y=.str x/\H1=upd H s.heap.objs.size (.dK [])) I1 ⟨rfl,rfl⟩) λu s1 zz=>?_
 obtain ⟨y,H1,I2,rx,ey,eH⟩:=zz;subst ey eH;refine thn (hv pins _ σ _ (λy H1=>y=.int i/\H1=upd H s.heap.objs.size (.dK [])) I2 ⟨rfl,rfl⟩) λu2 s2 zz=>?_
 obtain ⟨y,H1,I3,ry,ey,eH⟩:=zz;subst ey eH;refine pairTrees_nil_walk ?_;obtain ⟨t,rfl⟩:=rx;obtain ⟨t2,rfl⟩:=ry;obtain ⟨_,_,vs0,r0,dd⟩:=(show zg X.prog X.w _ s2.heap s.heap.objs.size (.dK []) from I3.hok _ _ zb);cases r0
 refine ⟨[(.inr x,.int i t2)],⟨JM _ _ x t,rfl,True.intro⟩,dd,λh' dd' hs=>⟨.ref s.heap.objs.size,_,?_,rfl,q _ hn⟩⟩
 rw [<- upd2 (o:=.dK []) (o':=.dK [(.inr x,.int i)])];have he:∃ z,h'.get? s.heap.objs.size=some z:=let ⟨z,_,_,hz,_⟩:=dd'; ⟨z,hz⟩;exact I3.write (by rw [zb]; exact True.intro) (.inl rfl) (λb u nb e=>(hs.2 b nb).trans e) he ⟨by rw [sizeLine_eq]; show 1<=16777216; decide,hsm,_,.cons ⟨rfl,⟨t2,rfl⟩⟩ .nil,dd'⟩
end
section
variable {X:Cx}
end
section
variable {K:PySem.W.Frag} {H H':Hp} {v:V} {t:Value}
theorem TyOf.same (h:TyOf K H v t) (s:Same H H'):TyOf K H' v t:=by
 cases h with
 |non=>exact .non
 |bl x=>exact .bl x
 |int x=>exact .int x
 |str x=>exact .str x
 |flt x=>exact .flt x
 |lst e=>exact .lst (s _ _ e)
 |frz e=>exact .frz (s _ _ e)
 |tup e=>exact .tup (s _ _ e)
 |dK e=>exact .dK (s _ _ e)
 |dT e=>exact .dT (s _ _ e)
 |ins e a b c d f=>exact .ins (s _ _ e) a b c d f
noncomputable def WhN (K:PySem.W.Frag) (H:Hp) (v:V):Prop:=∃ t b1 b2,TyOf K H v t/\kitOne K t (.type "int")=some b1/\kitOne K t (.type "bool")=some b2/\(b1 && !b2)=false
theorem WhN.same (h:WhN K H v) (s:Same H H'):WhN K H' v:=by
 obtain ⟨t,b1,b2,a,r⟩:=h;exact ⟨t,b1,b2,TyOf.same a s,r⟩
theorem Y9:kitOne K (.type "NoneType") (.type "int")=some false:=by with_unfolding_all rfl
theorem YJ:kitOne K (.type "NoneType") (.type "bool")=some false:=by with_unfolding_all rfl
theorem kit_non_tup:kitOne K (.type "NoneType") (.type "tuple")=some false:=by with_unfolding_all rfl
theorem J8:kitOne K (.type "bool") (.type "int")=some true:=by with_unfolding_all rfl
theorem kit_bl_tup:kitOne K (.type "bool") (.type "tuple")=some false:=by with_unfolding_all rfl
theorem JG:kitOne K (.type "int") (.type "tuple")=some false:=by with_unfolding_all rfl
theorem Zk:kitOne K (.type "str") (.type "int")=some false:=by with_unfolding_all rfl
theorem ZC:kitOne K (.type "str") (.type "bool")=some false:=by with_unfolding_all rfl
theorem JE:kitOne K (.type "str") (.type "tuple")=some false:=by with_unfolding_all rfl
theorem kit_tup_int:kitOne K (.type "tuple") (.type "int")=some false:=by with_unfolding_all rfl
theorem kit_tup_bool:kitOne K (.type "tuple") (.type "bool")=some false:=by with_unfolding_all rfl
theorem kit_lst_int:kitOne K (.type "list") (.type "int")=some false:=by with_unfolding_all rfl
theorem kit_lst_bool:kitOne K (.type "list") (.type "bool")=some false:=by with_unfolding_all rfl
theorem kit_lst_tup:kitOne K (.type "list") (.type "tuple")=some false:=by with_unfolding_all rfl
theorem kit_dct_int:kitOne K (.type "dict") (.type "int")=some false:=by with_unfolding_all rfl
theorem kit_dct_bool:kitOne K (.type "dict") (.type "bool")=some false:=by with_unfolding_all rfl
theorem kit_dct_tup:kitOne K (.type "dict") (.type "tuple")=some false:=by with_unfolding_all rfl
theorem whn_tup {p:Addr} {xs:List V} (e:H p=some (.tup xs)):WhN K H (.ref p):=⟨_,_,_,.tup e,kit_tup_int,kit_tup_bool,rfl⟩
theorem whn_lst {p:Addr} {xs:List V} (e:H p=some (.lst xs)):WhN K H (.ref p):=⟨_,_,_,.lst e,kit_lst_int,kit_lst_bool,rfl⟩
inductive Odd (H:Hp):V->Bool->Prop
 |non:Odd H .non false
 |bl (b:Bool):Odd H (.bl b) false
 |s1:Odd H (.str "1") false
 |s0:Odd H (.str "") false
 |one {p:Addr} (e:H p=some (.tup [.int 1,.int 1])):Odd H (.ref p) true
 |lst {p:Addr} (e:H p=some (.lst [.int 1])):Odd H (.ref p) false
 |dct {p:Addr} (e:H p=some (.dK [(.inr "a",.int 1)])):Odd H (.ref p) false
 |nil {p:Addr} (e:H p=some (.tup [])):Odd H (.ref p) false
theorem Odd.same {b:Bool} (h:Odd H v b) (s:Same H H'):Odd H' v b:=by
 cases h with
 |non=>exact .non
 |bl b=>exact .bl b
 |s1=>exact .s1
 |s0=>exact .s0
 |one e=>exact .one (s _ _ e)
 |lst e=>exact .lst (s _ _ e)
 |dct e=>exact .dct (s _ _ e)
 |nil e=>exact .nil (s _ _ e)
theorem Odd.whn {b:Bool} (h:Odd H v b):WhN K H v:=by
 cases h with
 |non=>exact ⟨_,_,_,.non,Y9,YJ,rfl⟩
 |bl b=>exact ⟨_,_,_,.bl b,J8,kit_bl_bl,rfl⟩
 |s1=>exact ⟨_,_,_,.str _,Zk,ZC,rfl⟩
 |s0=>exact ⟨_,_,_,.str _,Zk,ZC,rfl⟩
 |one e=>exact whn_tup e
 |lst e=>exact whn_lst e
 |dct e=>exact ⟨_,_,_,.dK e,kit_dct_int,kit_dct_bool,rfl⟩
 |nil e=>exact whn_tup e
end
section
variable {X:Cx} {k k':Nat} {x:Str} {ps:List Str} {sp:Sp} {E:XK} {p pos:Pos} {e:Expr} {es:List Expr} {t:TA} {dv:V}
end
end Kw
namespace Kw
end Kw
namespace Kw
open PySem PySem.Spec PyProof.Rows L2
theorem newO {H:Hp} {p:Addr} (hp:H p=none) (o:HO):∃ H',upd H p o=H'/\Same H H'/\H' p=some o:=⟨_,rfl,Zu hp o,zb⟩
theorem odd_term {X:Cx} {e ix:Expr} {te ti:TE} {a1 a2 a3 a4 a5 a6 a7 a8 a9 a0} {b1 b2 b3 b4 b5 b6 b7 b8 b9 b0 c1 c2 c3 c4:Pos} (he:PE X e te) (hs:∀ es,starEach (e::es) X.env=(false,eval e X.env)::starEach es X.env) (hi:PE X ix ti) (pl:PlainIx ix) :
  PSs X [.Return (some (.Subscript (.List [.Constant .none a1 b1,.Constant (.bool true) a2 b2,.Constant (.bool false) a3 b3,.Constant (.str "1") a4 b4,.Constant (.str "") a5 b5,.Tuple [.Constant (.int 1) a6 b6,.Constant (.int 1) a7 b7] a8 b8,
   .List [.Constant (.int 1) a9 b9] b0,e,.Tuple [] a0 c1] c2) ix c3)) c4]
   (tRet (tOp (rIxL X.K) (tLst (yV (tC .non) (yV (tC (.bl true)) (yV (tC (.bl false)) (yV (tC (.str "1")) (yV (tC (.str "")) (yV (tTup (yV (tC (.int 1)) (yV (tC (.int 1)) tNil))) (yV (tLst (yV (tC (.int 1)) tNil)) (yV te (yV (tTup tNil) tNil)))))))))) ti)):=
 @zF _ _ _ (@zM _ _ _ _ (@zH _ _ _ _ _ _ _ ix_list (@zv _ _ _ _ (@zA _ _ _ _ _ yf (@zA _ _ _ _ _ yW (@zA _ _ _ _ _ yW (@zA _ _ _ _ _ zx (@zA _ _ _ _ _ zx (@zA _ _ _ _ _ (@zP _ _ _ _ _ (@zA _ _ _ _ _ zC (@zA _ _ _ _ _ zC zB rfl) rfl)) (@zA _ _ _ _ _ (@zv _ _ _ _ (@zA _ _ _ _ _ zC zB rfl)) (@zA _ _ _ _ _ he (@zA _ _ _ _ _ (@zP _ _ _ _ _ zB) zB rfl) (hs _)) rfl) rfl) rfl) rfl) rfl) rfl) rfl)) hi pl))
end Kw
theorem Kw.u100 {k:Nat} {A:PySem.Around} (r:L2.Room k A):A.units+100 < PySem.cLine:=by have:=r.un; omega
namespace Kw
open PySem PySem.Spec PyProof.Rows L2
theorem cut1 {s1 r:TS} {D:Ends} {σ:L2.St} {H:Hp} (P:L2.St->Hp->Prop) (h:∀ N:L2.St->Hp->Prop,(∀ σ' H',P σ' H'->N σ' H')->s1 {D with nx:=N} σ H) (rest:∀ σ' H',P σ' H'->r D σ' H') :
  tSeq s1 r D σ H:=h (r D) rest
noncomputable def cxC (X:Cx) (N:List Str) (scope:Scope) (cl:List (Str × Addr)) (C:Addr) (s:Shared) (H:Hp) (fp:List Addr):Cx:=
 {X with N:=N,s₀:=s,H₀:=H,env:=compEnvC scope cl C X.env,outer:=X.stack,stack:=X.stack,ex:=fp,fn:=λ_=>false,pn:=[],xe:=λ_ _=>False}
section
variable {X:Cx} {pins:List (Addr × Obj)} {σ:L2.St} {H:Hp} {s:Shared} {N ns:List Str} {scope:Scope} {cl:List (Str × Addr)} {C:Addr} {fp:List Addr} {x:Str} {idx:List Nat}
theorem okC (I:Inv X pins σ H s) (f:∀ b∈fp,FpOk X pins H b) (lt:∀ b∈fp,b < s.heap.objs.size) (hC:s.heap.objs.size<=C) (hkind:scope.kind=.function) (hcl:∀ y c,cl.lookup y=some c->X.env.cells.lookup y=some c)
  (hfr:∀ y,((compEnvC scope cl C X.env).kindOf y=some .cell\/(compEnvC scope cl C X.env).kindOf y=some .free)->∃ c,cl.lookup y=some c):(cxC X N scope cl C s H fp).Ok where
 mod:=I.ok.mod
 kind:=hkind
 glob:=I.ok.glob
 blt:=I.ok.blt
 above:=hC
 inj:=λx y c e1 e2=>I.ok.inj x y c (hcl _ _ e1) (hcl _ _ e2)
 has:=hfr
 cab:=λ_ _ h=>nomatch h
 hd:=I.ok.hd
 frames:=I.ok.frames
 stk:=.inl rfl
 exf:=λb hb=>⟨Nat.ne_of_lt (Nat.lt_of_lt_of_le (lt b hb) hC),λx c e=>(f b hb).2.2.2.2.1 x c (hcl _ _ e)⟩
 bs:=I.bs
 bsz:=Nat.le_trans I.ok.bsz I.sz
 noex:=λb o e hb=>by
  rcases (f b hb).2.2.2.1 with z|z
  ·exact I.ok.noex b o e z
  ·exact absurd (Nat.lt_of_lt_of_le (Heap.lt_size e) (Nat.le_trans I.ok.bsz z)) (Nat.lt_irrefl _)
 exfs:=λb hb hs=>by
  rcases List.mem_cons.mp (I.stkSub b hs) with z|z
  ·exact (f b hb).2.1 z
  ·exact (f b hb).2.2.1 z
 funs:=I.stack
 frf:=I.stkFree
noncomputable def Capt (X:Cx) (scope:Scope) (cl:List (Str × Addr)) (ns:List Str) (idx:List Nat):Prop:=
 idx.length=ns.length/\∀ (k:Nat) (y:Str),ns[k]?=some y->∃ j c,idx[k]?=some j/\X.N[j]?=some y/\X.env.kindOf y=some .cell/\X.env.cells.lookup y=some c/\cl.lookup y=some c/\((relabel scope X.env).names.lookup y=some .cell\/(relabel scope X.env).names.lookup y=some .free)
noncomputable def stIn (v:Option V) (idx:List Nat) (σ:L2.St):L2.St:=v::idx.map λj=>(σ[j]?).join
theorem invC {D:Addr} {h1:Heap} {t:Nat} {o:Obj} {mC:Str->Option Value} (I:Inv X pins σ H s) (ok:(cxC X (x::ns) scope cl C s H fp).Ok) (cap:Capt X scope cl ns idx) (hcl:∀ y c,cl.lookup y=some c->X.env.cells.lookup y=some c)
  (keep:∀ b u,s.heap.get? b=some u->h1.get? b=some u) (hC:s.heap.objs.size<=C) (hns:h1.Ns C mC) (hD:h1.get? D=some o) (hDs:s.heap.objs.size<=D) (hDC:D≠C) (hod:∀ v,o.data≠.cell v) (hx:(relabel scope X.env).names.lookup x=some .local) :
  Inv (cxC X (x::ns) scope cl C s H fp) [(D,o)] (stIn none idx σ) H {s with heap:=h1,toks:=t}:=by
 have cellK:∀ y c,cl.lookup y=some c->∀ v,s.heap.IsCell c v->h1.IsCell c v:=λy c e v ⟨o,ho,hd⟩=>⟨o,keep _ _ ho,hd⟩
 refine ⟨ok,rfl,I.bare,Un.kept keep,⟨mC,hns,λi y v e1 e2 e3=>?_⟩,λy c e=>?_,I.hok.fresh hC,λy c e=>I.freeC y c (hcl y c e),λp hp=>?_,I.hok.kept keep,?_⟩
 ·cases i with
  |zero=>cases e2
  |succ k=>
   have gi:ns[k]?=some y:=e1;obtain ⟨j,c,h1',h2,h3,h4,h5,h6⟩:=cap.2 k y gi;have oa:(idx.map λj=>(σ[j]?).join)[k]?=some (some v):=e2
   rw [List.getElem?_map,h1'] at oa;have e4:(σ[j]?).join=some v:=Option.some.inj oa;have e5:σ[j]?=some (some v):=by
    cases q:σ[j]? with
    |none=>rw [q] at e4; cases e4
    |some z=>rw [q] at e4; exact congrArg some e4
   obtain ⟨m,hn,hl⟩:=I.loc;obtain ⟨u,r,lk⟩:=hl j y v h2 e5 (.inr (.inl h3));refine ⟨u,r,.inr ⟨h6,c,h5,?_⟩⟩;rcases lk with ⟨z,_⟩|⟨_,c',z,ic⟩
   ·rw [h3] at z; cases z
   ·rw [h4] at z; cases z
    exact cellK y c h5 _ ic
 ·obtain ⟨v,ic⟩:=I.cell y c (hcl y c e);exact ⟨v,cellK y c e v ic⟩
 ·have e:p=(D,o):=by simpa [cxC] using hp
  subst e;refine ⟨hD,I.hok.fresh hDs,hDC,λhs=>?_,hod⟩
  obtain ⟨_,o',ho',_⟩:=I.stack.mem hs;exact absurd (Heap.lt_size ho') (Nat.not_lt.mpr hDs)
 ·unfold stIn;rw [List.length_cons,List.length_map,cap.1];rfl
end
noncomputable abbrev NoE:Value->Shared->Prop:=λ_ _=>False
noncomputable abbrev testsOf (ifs:List Expr) (env:Env):Sem Bool:=forIn ifs true λc r=>if r=true then do let ok <- isTrue c env (eval c env); pure (ForInStep.yield ok) else pure (ForInStep.yield r)
noncomputable def PTs (X:Cx) (ifs:List Expr) (t:TT):Prop:=
 ∀ (pins:List (Addr × Obj)) (s:Shared) (σ:L2.St) (H:Hp) (Q:Bool->Hp->Prop),Inv X pins σ H s->t σ H Q->wpAny (model X.prog X.w) X.A (testsOf ifs X.env) (TP X pins σ Q) X.xe s
noncomputable def ttNil:TT:=λ_ H Q=>Q true H
theorem pts_nil {X:Cx}:PTs X [] ttNil:=λ_ _ _ H _ I h=>wpAny_tests_nil ⟨H,I,h⟩
theorem pts_one {X:Cx} {c:Expr} {t:TT} (h:PT X c t):PTs X [c] t:=λpins s σ H Q I q=>wpAny_tests_one (h pins s σ H Q I q)
theorem lc_loop {prog:Program} {w:World} {A:Around} {R:Result->Shared->Prop} {s:Shared} {elt target iter:Expr} {ifs:List Expr} {scope:Scope} {pos:Pos} {it acc:Value} {env:Env} (Z:Nat->Shared->Prop)
  (turn:∀ n z,Z n z->wpAny (model prog w) A (pyNext it) (λr z1=>match r with
   |none=>R (.ok .next) z1
   |some v=>wpAny (model prog w) A (letOwnedTupleGo target it v) (λ_ z2=>wpAny (model prog w) A (assign target env v) (λ_ z3=>wpAny (model prog w) A (testsOf ifs env) (λok z4=>if ok=true then
     wpAny (model prog w) A (eval elt env) (λy z5=>wpAny (model prog w) A (call (.builtin "list.append") [acc,y]) (λ_ z6=>∃ m,m < n/\Z m z6) NoE z5) NoE z4 else ∃ m,m < n/\Z m z4) NoE z3) NoE z2) NoE z1) NoE z)
  (n:Nat) (h:Z n s):codeAny (model prog w) A (.compLoop (.ListComp elt [⟨target,iter,ifs,0⟩] scope pos) 0 it acc env) R s:=by
 refine codeAny_loop rfl Z (λn z hZ=>?_) n h
 show wpAny _ A ((compTurn (.ListComp elt [⟨target,iter,ifs,0⟩] scope pos) 0 it acc env).onRaise (λq=>do noteFrame q env; theTreesLotGoes q)) _ _ z
 refine wpAny_noted ?_;rw [compTurn_list];refine wpAny_bind (wpAny_standAt (wpAny_bind (wpAny_mono (turn n z hZ) (λr z1 k1=>?_) λ_ _ q=>q.elim)))
 cases r with
 |none=>exact wpAny_pure k1
 |some v=>
  refine wpAny_bind (wpAny_mono k1 (λ_ z2 k2=>?_) λ_ _ q=>q.elim)
  refine wpAny_bind (wpAny_mono k2 (λ_ z3 k3=>?_) λ_ _ q=>q.elim)
  refine wpAny_bind (wpAny_mono k3 (λok z4 k4=>?_) λ_ _ q=>q.elim)
  cases ok with
  |false=>exact wpAny_pure ⟨rfl,k4⟩
  |true=>
   refine wpAny_bind (wpAny_bind (wpAny_mono (show wpAny _ _ _ _ _ _ from k4) (λy z5 k5=>?_) λ_ _ q=>q.elim))
   exact wpAny_bind (wpAny_mono k5 (λ_ z6 k6=>wpAny_pure (wpAny_pure ⟨rfl,k6⟩)) λ_ _ q=>q.elim)
noncomputable def YE (J:It) (idx:List Nat) (te:TE) (σ:L2.St) (Q:VK) (H1:Hp):Prop:=∃ W:Nat->Nat->List V->Hp->Prop,(∃ m,W 0 m [] H1)/\∀ i m ys H,W i m ys H->ys.length<=sizeLine/\
 ((J.stop i H/\∀ p,H p=none->Q (.ref p) (upd H p (.lst ys)))\/(J.go i H/\∀ y H',J.yld i H y H'->te (stIn (some y) idx σ) H' λv H2=>∃ m',m' < m/\W (i+1) m' (ys++[v]) H2))
noncomputable def tLc (wi:TI) (idx:List Nat) (te:TE):TE:=λσ H Q=>wi σ H λJ H1=>YE J idx te σ Q H1
noncomputable def ZI (J:It) (idx:List Nat) (tt:TT) (te:TE) (σ:L2.St) (Q:VK) (H1:Hp):Prop:=∃ W:Nat->Nat->List V->Hp->Prop,(∃ m,W 0 m [] H1)/\∀ i m ys H,W i m ys H->ys.length<=sizeLine/\
 ((J.stop i H/\∀ p,H p=none->Q (.ref p) (upd H p (.lst ys)))\/(J.go i H/\∀ y H',J.yld i H y H'->tt (stIn (some y) idx σ) H' λb H3=>if b=true then te (stIn (some y) idx σ) H3 λv H2=>∃ m',m' < m/\W (i+1) m' (ys++[v]) H2
  else ∃ m',m' < m/\W (i+1) m' ys H3))
noncomputable def tLcT (wi:TI) (idx:List Nat) (tt:TT) (te:TE):TE:=λσ H Q=>wi σ H λJ H1=>ZI J idx tt te σ Q H1
theorem YE.toT {J:It} {idx:List Nat} {te:TE} {σ:L2.St} {Q:VK} {H1:Hp} (h:YE J idx te σ Q H1):ZI J idx ttNil te σ Q H1:=by
 obtain ⟨W,w0,turn⟩:=h;refine ⟨W,w0,λi m ys H w=>?_⟩
 obtain ⟨hz,h⟩:=turn i m ys H w;refine ⟨hz,h.imp id λh=>⟨h.1,λy H' yl=>?_⟩⟩
 show (if true=true then te (stIn (some y) idx σ) H' (λv H2=>∃ m',m' < m/\W (i+1) m' (ys++[v]) H2) else ∃ m',m' < m/\W (i+1) m' ys H')
 rw [if_pos rfl];exact h.2 y H' yl
section
variable {X:Cx} {elt iter:Expr} {ifs:List Expr} {x:Str} {px pos:Pos} {scope:Scope} {cl:List (Str × Addr)} {wi:TI} {tt:TT} {te:TE} {ns:List Str} {idx:List Nat}
structure LcEnd (X:Cx) (fp:List Addr) (H2 H4:Hp) (s2 s5:Shared) (C D:Addr) (ys:List V):Prop where
 dn:D=s2.heap.objs.size
 cn:s2.heap.objs.size<=C
 dc:D≠C
 un:Un (frs X.stack) fp H2 H4 s2.heap s5.heap
 hok:HOk X.prog X.w H4 s5.heap
 cf:H4 C=none
 df:H4 D=none
 os:s5.os=s2.os
 bare:AllBare s5.gens
 ns:∃ m,s5.heap.Ns C m
 obj:∃ us,Vals ys us/\s5.heap.get? D=some (LCg.lst us)
 len:ys.length<=sizeLine
theorem lc_main (hc:X.calm=true) (hi:PI X (.Name x px) iter wi) (hclos:closureFor scope X.env=pure cl) (hcell:∀ y∈scope.names,y.2≠.cell) (hkind:scope.kind=.function)
  (hnames:∀ y∈scope.names,y.2=.local->scope.names.lookup y.1=some .local) (hx:scope.names.lookup x=some .local) (nd:(x::ns).Nodup) (cap:Capt X scope cl ns idx)
  (hcl:∀ y c,cl.lookup y=some c->X.env.cells.lookup y=some c) (hfr:∀ y,((relabel scope X.env).names.lookup y=some .cell\/(relabel scope X.env).names.lookup y=some .free)->∃ c,cl.lookup y=some c)
  (htt:∀ (C:Addr) (s:Shared) (H:Hp) (fp:List Addr),PTs (cxC X (x::ns) scope cl C s H fp) ifs tt) (hel:∀ (C:Addr) (s:Shared) (H:Hp) (fp:List Addr),PE (cxC X (x::ns) scope cl C s H fp) elt te)
  {pins:List (Addr × Obj)} {σ:L2.St} {Q:VK} {itv:Value} {s2:Shared} {E:Value->Shared->Prop} {RR:Value->Addr->Result->Shared->Prop} (h2:PIE X pins σ (.Name x px) (λJ H1=>ZI J idx tt te σ Q H1) itv s2)
  (hRR:∀ fp H2 H4 s5 C D ys,Inv X pins σ H2 s2->(∀ b∈fp,FpOk X pins H2 b)->LcEnd X fp H2 H4 s2 s5 C D ys->Q (.ref D) (upd H4 D (.lst ys))->RR (.ref D) C (.ok .next) s5) :
  wpAny (model X.prog X.w) X.A (newList []) (λacc s3=>wpAny (model X.prog X.w) X.A (newFunctionEnv scope X.env.globals cl [] X.env.qual none .none (some X.env)) (λcenv s4=>
   codeAny (model X.prog X.w) X.A (.compStart (.ListComp elt [⟨.Name x px,iter,ifs,0⟩] scope pos) 0 itv acc {cenv with scope:=relabel scope X.env}) (RR acc cenv.locals) s4) E s3) E s2:=by
 obtain ⟨it,fp,tn,J,H2,e,I2,T,iX,f2,W,⟨m0,w0⟩,turn⟩:=h2;subst e;refine wpAny_newObj_type (wpAny_newFunctionEnv hcell (by intro y hy; simp at hy) (λh1 gQ fD=>?_) hkind)
 dsimp only at gQ fD ⊢;generalize qr:s2.heap.push {cls:=.type "list",dict:=none,data:=.seq ([]:List Value).toArray}=g2 at gQ fD ⊢;have hC:g2.objs.size=s2.heap.objs.size+1:=by rw [<- qr,Heap.size_push]
 have hDC:s2.heap.objs.size≠g2.objs.size:=by rw [hC]; exact Nat.ne_of_lt (Nat.lt_succ_self _)
 have hCle:s2.heap.objs.size<=g2.objs.size:=by rw [hC]; exact Nat.le_succ _
 have eR:∀ b o,s2.heap.get? b=some o->h1.get? b=some o:=λb o e=>fD.extBut b o (Nat.ne_of_lt (Nat.lt_of_lt_of_le (Heap.lt_size e) hCle)) (Heap.get?_push_of_some _ (qr▸Heap.get?_push_of_some _ e))
 have hacc:h1.get? s2.heap.objs.size=some {cls:=.type "list",data:=.seq ([]:List Value).toArray 0}:=fD.extBut _ _ hDC (Heap.get?_push_of_some _ (qr▸Heap.get?_push_size _ rfl));have lt:∀ b∈fp,b < s2.heap.objs.size:=λb hb=>by
  obtain ⟨o,e,_⟩:=T.obj _ _ iX b hb;exact Heap.lt_size e
 have hxr:(relabel scope X.env).names.lookup x=some .local:=lookup_relabel_local hx;have ok:=okC (N:=x::ns) (scope:=scope) (cl:=cl) (C:=g2.objs.size) I2 f2 lt hCle hkind hcl hfr;have I3:=invC (D:=s2.heap.objs.size) (t:=s2.toks+([]:List (Str × Value)).length) I2 ok cap hcl eR hCle gQ hacc (Nat.le_refl _) hDC (λv z=>by cases z) hxr
 have fC:∀ {H':Hp} {pl:List (Addr × Obj)},(∀ p∈pl,p.1=s2.heap.objs.size)->(∀ b∈fp,H' b=none)->∀ b∈fp,FpOk (cxC X (x::ns) scope cl g2.objs.size s2 H2 fp) pl H' b:=λ{H' pl} hpl hn b hb=>
  ⟨hn b hb,(ok.exf b hb).1,λz=>ok.exfs b hb z,.inl hb,(ok.exf b hb).2,λp hp z=>by
   have q:=hpl p (by simpa [cxC] using hp)
   have:=lt b hb;rw [<- z,q] at this
   exact Nat.lt_irrefl _ this⟩
 have lnc:∀ us:List Value,∀ v,(LCg.lst us).data≠.cell v:=λus v z=>by cases z
 have loop:∀ s3:Shared,s3={s2 with heap:=h1,toks:=s2.toks+([]:List (Str × Value)).length}->
   codeAny (model X.prog X.w) X.A (.compLoop (.ListComp elt [⟨.Name x px,iter,ifs,0⟩] scope pos) 0 (.ref it) (.ref s2.heap.objs.size) (compEnvC scope cl g2.objs.size X.env))
    (RR (.ref s2.heap.objs.size) g2.objs.size) s3:=by
  rintro s3 rfl;refine lc_loop (λn s'=>∃ i ys us r H',Inv (cxC X (x::ns) scope cl g2.objs.size s2 H2 fp) [(s2.heap.objs.size,LCg.lst us)] (stIn r idx σ) H' s'/\tn i s'.heap/\(∀ b∈fp,H' b=none)/\Vals ys us/\W i n ys H') ?_ m0
   ⟨0,[],[],none,H2,I3,T.keep _ _ _ iX λb _ o e=>eR b o e,λb hb=>(f2 b hb).1,.nil,w0⟩
  rintro n s4 ⟨i,ys,us,r,H4,I4,st4,fr4,vs4,w4⟩;obtain ⟨hz,⟨stop,qn⟩|⟨go,step⟩⟩:=turn i n ys H4 w4
  ·refine thn (T.done (cxC X (x::ns) scope cl g2.objs.size s2 H2 fp) rfl rfl rfl hc i _ s4 _ H4 NoE I4 (fC (λp hp=>by rw [List.mem_singleton.mp hp]) fr4) st4 stop) λr5 s5 zz=>?_
   obtain ⟨qt,I5⟩:=zz;subst qt;obtain ⟨mC,hnC,_⟩:=I5.loc;obtain ⟨gR,fE,_⟩:=I5.pin (s2.heap.objs.size,LCg.lst us) (List.mem_append_right _ (List.mem_singleton.mpr rfl));exact hRR fp H2 H4 s5 g2.objs.size s2.heap.objs.size ys I2 f2 ⟨rfl,hCle,hDC,I5.base,I5.hok,I5.free,fE,I5.os,I5.bare,⟨mC,hnC⟩,⟨us,vs4,gR⟩,hz⟩ (qn _ fE)
  ·refine thn (T.item (cxC X (x::ns) scope cl g2.objs.size s2 H2 fp) rfl rfl rfl hc i _ s4 _ H4 NoE I4 (fC (λp hp=>by rw [List.mem_singleton.mp hp]) fr4) st4 go) λr5 s5 zz=>?_
   obtain ⟨u,qt,k5⟩:=zz;subst qt;refine thn k5 λ_ s6 zz=>?_
   obtain ⟨y,H6,I6,r6,y6,iY,fr6⟩:=zz;have Ke:=I6.pinned (fC (λp hp=>by rw [List.mem_singleton.mp hp]) fr6) (T.obj _ _ iY)
   have G:=zj (X:=cxC X (x::ns) scope cl g2.objs.size s2 H2 fp) (pos:=px) (i:=0) (x:=x) nd rfl (.inl hxr) (.inr hxr);refine thn (G _ s6 _ H6 y u (λσ' H'=>σ'=stIn (some y) idx σ/\H'=H6) Ke r6 ⟨rfl,rfl⟩) λ_ s7 zz=>?_
   obtain ⟨σ7,H7,I7,e7,eH⟩:=zz;subst e7 eH;refine thn (htt g2.objs.size s2 H2 fp _ s7 _ _ _ I7 (step y _ y6)) λok iZ zz=>?_
   obtain ⟨og,oh,oi⟩:=zz;cases ok with
   |false=>
    obtain ⟨m',lm,w8⟩:=(show ∃ m',m' < n/\W (i+1) m' ys og from oi);have kf:∀ b∈fp,∀ o,s6.heap.get? b=some o->iZ.heap.get? b=some o/\og b=none:=λb hb o e=>by
     have q:=oh.pin (b,o) (List.mem_append_right _ (List.mem_append_right _ (ZD hb e)));exact ⟨q.1,q.2.1⟩
    obtain ⟨gR,fE,oj,pD4,_⟩:=oh.pin (s2.heap.objs.size,LCg.lst us) (by simp [cxC])
    refine ⟨m',lm,i+1,ys,us,some y,og,oh.pins_of λp hp=>?_,?_,λb hb=>?_,vs4,w8⟩
    ·rw [List.mem_singleton.mp hp];exact ⟨gR,fE,oj,pD4,lnc _⟩
    ·exact T.keep _ _ _ iY λb hb o e=>(kf b hb o e).1
    ·obtain ⟨o,e,_⟩:=T.obj _ _ iY b hb;exact (kf b hb o e).2
   |true=>
   refine thn (hel g2.objs.size s2 H2 fp _ iZ _ _ _ oh oi) λy8 s8 zz=>?_
   obtain ⟨v,H8,I8,r8,m',lm,w8⟩:=zz;obtain ⟨gR,fE,oj,pD4,_⟩:=I8.pin (s2.heap.objs.size,LCg.lst us) (by simp [cxC])
   have kf:∀ b∈fp,∀ o,s6.heap.get? b=some o->s8.heap.get? b=some o/\H8 b=none:=λb hb o e=>by
    have q:=I8.pin (b,o) (List.mem_append_right _ (List.mem_append_right _ (ZD hb e)));exact ⟨q.1,q.2.1⟩
   refine append_at (hsz:=by show us.toArray.size<=sizeLine; rw [List.size_toArray,<- vs4.length]; exact hz) gR λh9 Gz Kf=>?_
   have Kg:Inv (cxC X (x::ns) scope cl g2.objs.size s2 H2 fp) [] (stIn (some y) idx σ) H8 s8:=I8.pins_of λp hp=>nomatch hp
   have I9:=Kg.turned (it:=s2.heap.objs.size) (h':=h9) (t':=s8.toks) (λb o hb e=>(Gz.2 b hb).trans e) fE oj (.inr (Nat.le_refl _)) (λy c e z=>by
     obtain ⟨v,q⟩:=I2.cell y c (hcl y c e)
     exact absurd q.lt (by rw [z]; exact Nat.lt_irrefl _)) (λp hp=>by simp [cxC] at hp)
   refine ⟨m',lm,i+1,ys++[v],us++[y8],some y,H8,I9.pins_of λp hp=>?_,?_,λb hb=>?_,vs4.append (.cons r8 .nil),w8⟩
   ·rw [List.mem_singleton.mp hp];exact ⟨Kf.trans (congrArg some (LCg.lst_snoc us y8)),fE,oj,pD4,lnc _⟩
   ·exact T.keep _ _ _ iY λb hb o e=>(Gz.2 b (Nat.ne_of_lt (lt b hb))).trans (kf b hb o e).1
   ·obtain ⟨o,e,_⟩:=T.obj _ _ iY b hb;exact (kf b hb o e).2
 exact codeAny_compStart_list (loop _ rfl) (T.self _ 0 _ _ _ (T.keep _ _ _ iX λb _ o e=>eR b o e) (loop _ rfl))
theorem LcEnd.inv {fp:List Addr} {H2 H4:Hp} {s2 s5:Shared} {C D:Addr} {ys:List V} {pins:List (Addr × Obj)} {σ:L2.St} {h':Heap} (L:LcEnd X fp H2 H4 s2 s5 C D ys) (I2:Inv X pins σ H2 s2) (f2:∀ b∈fp,FpOk X pins H2 b) (sb:Heap.SameBut C s5.heap h') :
  Inv X pins σ (upd H4 D (.lst ys)) {s5 with heap:=h'}:=by
 obtain ⟨rfl,hCle,hDC,U,hok,cf,fE,eo,bare,⟨mC,hnC⟩,⟨us,vs4,gR⟩,hz⟩:=L;have neC:∀ b o,s2.heap.get? b=some o->b≠C:=λb o e=>Nat.ne_of_lt (Nat.lt_of_lt_of_le (Heap.lt_size e) hCle)
 have U':Un (frs X.stack) fp H2 H4 s2.heap h':=⟨λb o e n hb hx=>(sb.2 b (neC b o e)).trans (U.keep b o e n hb hx),λb o e n hb hx=>by
   obtain ⟨sl,q⟩:=U.slot b o e n hb hx;exact ⟨sl,(sb.2 b (neC b o e)).trans q⟩,U.free,λb o e hx=>by
   obtain ⟨o',q⟩:=U.there b o e hx
   exact ⟨o',(sb.2 b (neC b o e)).trans q⟩,U.tups,U.frzs,U.tbls⟩
 have hok':HOk X.prog X.w H4 h':=λa o e=>by
  refine (hok a o e).stay (λb u hb q=>(sb.2 b ?_).trans q) (λ_ z=>z) λ_ _ z=>z
  rintro rfl;rcases hb with hb|hb
  ·rw [<- hb,cf] at e; cases e
  ·rw [cf] at hb; cases hb
 have I6:=I2.call (ch:=fp) (h':=h') (g':=s5.gens) (t':=s5.toks) (d':=s5.drawn) U' hok' bare λb hb=>⟨(f2 b hb).2.2.2.1,(f2 b hb).2.1,(f2 b hb).2.2.2.2.1,(f2 b hb).2.2.2.2.2⟩
 have I7:=Inv.adopt (x:=s2.heap.objs.size) (o:=.lst ys) (λy c e z=>by
   obtain ⟨v,q⟩:=I2.cell y c e;exact absurd q.lt (by rw [z]; exact Nat.lt_irrefl _)) I6 (Heap.get?_none_of_le I2.sz) fE (Nat.ne_of_gt I2.lt) (λp hp z=>by
   have:=Heap.lt_size (I2.pin p hp).1;rw [z] at this
   exact Nat.lt_irrefl _ this) ⟨hz,us,us.length,vs4,(sb.2 _ hDC).trans gR⟩
 rw [<- eo] at I7;exact I7
theorem pie_toT {pins:List (Addr × Obj)} {σ:L2.St} {tg:Expr} {Q:VK} {itv:Value} {s2:Shared} (h:PIE X pins σ tg (λJ H1=>YE J idx te σ Q H1) itv s2):PIE X pins σ tg (λJ H1=>ZI J idx ttNil te σ Q H1) itv s2:=by
 obtain ⟨it,fp,tn,J,H',a,b,c,d,e,q⟩:=h;exact ⟨it,fp,tn,J,H',a,b,c,d,e,q.toT⟩
theorem pe_lcT (hc:X.calm=true) (hi:PI X (.Name x px) iter wi) (hclos:closureFor scope X.env=pure cl) (hcell:∀ y∈scope.names,y.2≠.cell) (hkind:scope.kind=.function)
  (hnames:∀ y∈scope.names,y.2=.local->scope.names.lookup y.1=some .local) (hx:scope.names.lookup x=some .local) (nd:(x::ns).Nodup) (cap:Capt X scope cl ns idx)
  (hcl:∀ y c,cl.lookup y=some c->X.env.cells.lookup y=some c) (hfr:∀ y,((relabel scope X.env).names.lookup y=some .cell\/(relabel scope X.env).names.lookup y=some .free)->∃ c,cl.lookup y=some c)
  (htt:∀ (C:Addr) (s:Shared) (H:Hp) (fp:List Addr),PTs (cxC X (x::ns) scope cl C s H fp) ifs tt) (hel:∀ (C:Addr) (s:Shared) (H:Hp) (fp:List Addr),PE (cxC X (x::ns) scope cl C s H fp) elt te) (hs:∀ v,foldedSetIterable iter X.env v=pure v:=by intro _; rfl) :
  PE X (.ListComp elt [⟨.Name x px,iter,ifs,0⟩] scope pos) (tLcT wi idx tt te):=by
 intro pins s σ H Q I h;rw [eval_ListComp];refine wpAny_comprehension_free (use:=none) rfl hs hclos hkind hnames (thn (hi pins s σ H _ I h) λv s1 h1=>thn h1 λitv s2 h2=>?_)
 refine lc_main hc hi hclos hcell hkind hnames hx nd cap hcl hfr htt hel (RR:=λacc C=>compPost (model X.prog X.w) X.A X.xe none (EP X pins σ Q) acc C) h2 λfp H2 H4 s5 C D ys I2 f2 L q=>?_
 obtain ⟨mC,hnC⟩:=L.ns;exact ⟨mC,hnC,λh' sb=>⟨.ref D,_,L.inv I2 f2 sb,rfl,q⟩⟩
theorem ps_lcT {j:Nat} {y:Str} {py spos:Pos} (hN:X.N.Nodup) (hj:X.N[j]?=some y) (hy:X.env.scope.names.lookup y=some .local) (hsw:swapsWith (.ListComp elt [⟨.Name x px,iter,ifs,0⟩] scope pos) (some (.Name y py)) spos.line X.env=pure true)
  (hc:X.calm=true) (hi:PI X (.Name x px) iter wi) (hclos:closureFor scope X.env=pure cl) (hcell:∀ y∈scope.names,y.2≠.cell) (hkind:scope.kind=.function)
  (hnames:∀ y∈scope.names,y.2=.local->scope.names.lookup y.1=some .local) (hx:scope.names.lookup x=some .local) (nd:(x::ns).Nodup) (cap:Capt X scope cl ns idx)
  (hcl:∀ y c,cl.lookup y=some c->X.env.cells.lookup y=some c) (hfr:∀ y,((relabel scope X.env).names.lookup y=some .cell\/(relabel scope X.env).names.lookup y=some .free)->∃ c,cl.lookup y=some c)
  (htt:∀ (C:Addr) (s:Shared) (H:Hp) (fp:List Addr),PTs (cxC X (x::ns) scope cl C s H fp) ifs tt) (hel:∀ (C:Addr) (s:Shared) (H:Hp) (fp:List Addr),PE (cxC X (x::ns) scope cl C s H fp) elt te) (hs:∀ v,foldedSetIterable iter X.env v=pure v) :
  PS X (.Assign [.Name y py] (.ListComp elt [⟨.Name x px,iter,ifs,0⟩] scope pos) spos) (tAsg (tLcT wi idx tt te) (gName j)):=by
 intro pins s σ H D I h;rw [exec_Assign_Name_used _ _ _ _ hsw];refine wpAny_bind (wpAny_standAt (wpAny_bind ?_));show wpAny _ _ (do let _ <- comprehension (.ListComp elt [⟨.Name x px,iter,ifs,0⟩] scope pos) scope X.env _ (newList []) false (eval iter X.env) (some (assign (.Name y py) X.env))) _ _ s
 refine wpAny_bind (wpAny_mono (wpAny_comprehension_free (use:=some (assign (.Name y py) X.env)) (Q:=λ_ s'=>SP X pins D .next s') rfl hs hclos hkind hnames
  (thn (hi pins s σ H _ I h) λv s1 h1=>thn h1 λitv s2 h2=>?_)) (λ_ s' hq=>wpAny_pure (wpAny_pure hq)) λ_ _ e=>e)
 refine lc_main hc hi hclos hcell hkind hnames hx nd cap hcl hfr htt hel (RR:=λacc C=>compPost (model X.prog X.w) X.A X.xe (some (assign (.Name y py) X.env)) (λ_ s'=>SP X pins D .next s') acc C) h2 λfp H2 H4 s5 C Da ys I2 f2 L q=>?_
 have I7:=L.inv I2 f2 (h':=s5.heap) ⟨rfl,λ_ _=>rfl⟩
 show wpAny _ _ (assign (.Name y py) X.env (.ref Da)) _ _ s5;have cL:C≠X.env.locals:=Nat.ne_of_gt (Nat.lt_of_lt_of_le I2.lt L.cn);have cc:∀ z c,X.env.cells.lookup z=some c->c≠C:=λz c e=>by
  obtain ⟨v,k⟩:=I2.cell z c e;exact Nat.ne_of_lt (Nat.lt_of_lt_of_le k.lt L.cn)
 refine wpAny_assign_Name (store_ok2 I7 hN hj (.inl hy) (v:=.ref Da) rfl (λs8 I8 sm=>?_) (.inr hy))
 obtain ⟨a,sba,ha⟩:=sm;have ac:C≠a:=by
  rcases ha with rfl|ha
  ·exact cL
  ·exact Ne.symm (cc _ _ ha)
 obtain ⟨mC,o,es,ep,e1,e2⟩:=L.ns;refine ⟨mC,⟨o,es,ep,(sba.2 C ac).trans e1,e2⟩,λh' sb=>⟨_,_,?_,q⟩⟩
 refine I8.turned (it:=C) (h':=h') (t':=s8.toks) (λb u nb e=>(sb.2 b nb).trans e) ?_ cL (.inr (Nat.le_trans I2.sz L.cn)) cc λp hp z=>?_
 ·rw [zV (Ne.symm L.dc)];exact L.cf
 ·have:=Heap.lt_size (I2.pin p hp).1;rw [z] at this;exact absurd this (Nat.not_lt.mpr L.cn)
theorem JD (hc:X.calm=true) (hi:PI X (.Name x px) iter wi) (hclos:closureFor scope X.env=pure cl) (hcell:∀ y∈scope.names,y.2≠.cell) (hkind:scope.kind=.function)
  (hnames:∀ y∈scope.names,y.2=.local->scope.names.lookup y.1=some .local) (hx:scope.names.lookup x=some .local) (nd:(x::ns).Nodup) (cap:Capt X scope cl ns idx)
  (hcl:∀ y c,cl.lookup y=some c->X.env.cells.lookup y=some c) (hfr:∀ y,((relabel scope X.env).names.lookup y=some .cell\/(relabel scope X.env).names.lookup y=some .free)->∃ c,cl.lookup y=some c)
  (hel:∀ (C:Addr) (s:Shared) (H:Hp) (fp:List Addr),PE (cxC X (x::ns) scope cl C s H fp) elt te) (hs:∀ v,foldedSetIterable iter X.env v=pure v:=by intro _; rfl) :
  PE X (.ListComp elt [⟨.Name x px,iter,[],0⟩] scope pos) (tLc wi idx te):=by
 intro pins s σ H Q I h;rw [eval_ListComp];refine wpAny_comprehension_free (use:=none) rfl hs hclos hkind hnames (thn (hi pins s σ H _ I h) λv s1 h1=>thn h1 λitv s2 h2=>?_)
 refine lc_main (tt:=ttNil) hc hi hclos hcell hkind hnames hx nd cap hcl hfr (λ_ _ _ _=>pts_nil) hel (RR:=λacc C=>compPost (model X.prog X.w) X.A X.xe none (EP X pins σ Q) acc C) (pie_toT h2) λfp H2 H4 s5 C D ys I2 f2 L q=>?_
 obtain ⟨mC,hnC⟩:=L.ns;exact ⟨mC,hnC,λh' sb=>⟨.ref D,_,L.inv I2 f2 sb,rfl,q⟩⟩
end
theorem all_range_bl (bs:List Bool):(List.range bs.length).all (λi=>bs.getD i false)=bs.all id:=by
 rw [Bool.eq_iff_iff,List.all_eq_true,List.all_eq_true];constructor
 ·intro h b hb;obtain ⟨i,hi,rfl⟩:=List.mem_iff_getElem.mp hb;have:=h i (List.mem_range.mpr hi);simpa [List.getD,hi] using this
 ·intro h i hi;have hi':=List.mem_range.mp hi;have:=h bs[i] (List.getElem_mem hi');simpa [List.getD,hi'] using this
section
variable {X:Cx}
noncomputable def rAll (K:PySem.W.Frag):List V->Hp->VK->Prop:=λxs H Q=>∃ p,∃ bs:List Bool,xs=[.ref p]/\SqL K H p (bs.map V.bl)/\Q (.bl (bs.all id)) H
theorem call_all {K:PySem.W.Frag} (hK:X.K=K) (hc:X.calm=true):yx X (.builtin "all") (rAll K):=by
 subst hK;intro pins s σ H xs us Q I r h;obtain ⟨p,bs,rfl,hp,q⟩:=h;obtain ⟨u,rfl,rx⟩:=Zn r;cases rx
 obtain ⟨its,r',pl,hz⟩:=I.list hp;have hlen:=r'.length;rw [List.length_map] at hlen;have hlt:p < s.heap.objs.size:=by
  obtain ⟨o,n,e,_⟩:=pl;exact Heap.lt_size e
 refine call_all_walk (wpAny_pyIter_list pl.isList ?_);refine ⟨s.heap.objs.size,[s.heap.objs.size,p],[s.heap.objs.size],its.toArray.size,λi v=>its.toArray[i]?=some v,λi h=>h.IsListIter s.heap.objs.size p i/\h.IsList p its.toArray,λi=>bs.getD i false,rfl,Walks.list (A:=X.A.in1) (I.ok.hd hc) s.heap.objs.size p (Nat.ne_of_lt hlt) its.toArray,⟨⟨_,Heap.get?_push_size _ rfl,rfl,rfl⟩,pl.isList.push _⟩,?_,λh' tk kk=>?_⟩
 ·intro i v z Q' E' hv hq;have hv':its[i]?=some v:=by simpa using hv
  obtain ⟨hi,e⟩:=List.getElem?_eq_some_iff.mp hv';have hi':i < bs.length:=by omega
  have eb:(bs.map V.bl)[i]?=some (V.bl bs[i]):=by rw [List.getElem?_map,List.getElem?_eq_getElem hi']; rfl
  obtain ⟨w',hw,rw'⟩:=r'.get eb;rw [hv'] at hw;cases hw
  cases (show v=Value.bool bs[i] from rw')
  have e2:bs.getD i false=bs[i]:=by simp [List.getD,hi']
  dsimp only at hq;rw [e2] at hq;exact wpAny_truthy_bool hq
 ·rw [List.size_toArray,<- hlen,all_range_bl];refine ⟨.bl (bs.all id),H,I.kept (t':=tk) λb o e=>?_,rfl,q⟩
  exact kk b o (λz=>by
   have e':=List.mem_singleton.mp z;have:=Heap.lt_size e;rw [e'] at this
   exact Nat.lt_irrefl _ this) (Heap.get?_push_of_some _ e)
end
section
variable {prog:Program} {w:World} {A:Around} {E:Value->Shared->Prop} {s:Shared} {I l S:Addr} {items:Array Value}
end
section
variable {X:Cx}
noncomputable def del (H:Hp) (a:Addr):Hp:=λb=>if b=a then none else H b
theorem Zc {H:Hp} {a b:Addr} (h:b≠a):del H a b=H b:=if_neg h
theorem Js {H:Hp} {a:Addr}:del H a a=none:=if_pos rfl
theorem Yj {H:Hp} {a b:Addr} (h:H b=none):del H a b=none:=by
 unfold del;split
 ·rfl
 ·exact h
theorem Inv.drop {pins:List (Addr × Obj)} {σ:L2.St} {H:Hp} {s:Shared} {it:Addr} {φ:Heap->Prop} (I:Inv X pins σ H s) (hi:H it=some (.ext φ)):Inv X pins σ (del H it) s:=by
 have nt:∀ b u,H b=some u->(∀ ψ,u≠.ext ψ)->b≠it:=λb u e k y=>by rw [y,hi] at e; cases e; exact k _ rfl
 refine ⟨I.ok,I.os,I.bare,⟨I.base.keep,I.base.slot,λb o q n hx=>Yj (I.base.free b o q n hx),I.base.there,λb xs q=>?_,λb ob u q=>?_,λb ps q=>?_⟩,I.loc,I.cell,Yj I.free,λy c e=>Yj (I.freeC y c e),λp hp=>?_,λa u e=>?_,I.len⟩
 ·have e:=I.base.tups b xs q;rw [Zc (nt b _ e λψ y=>by cases y)]
  exact e
 ·have e:=I.base.frzs b ob u q;rw [Zc (nt b _ e λψ y=>by cases y)]
  exact e
 ·obtain ⟨more,e⟩:=I.base.tbls b ps q;exact ⟨more,by rw [Zc (nt b _ e λψ y=>by cases y)]; exact e⟩
 ·obtain ⟨a,b,c⟩:=I.pin p hp;exact ⟨a,Yj b,c⟩
 ·have na:a≠it:=λy=>by rw [y,Js] at e; cases e
  rw [Zc na] at e;refine (I.hok a u e).stay (λ_ _ _ q=>q) (λb q=>?_) λb xs q=>?_
  ·rw [Zc (nt b _ q λψ y=>by cases y)]
   exact q
  ·rw [Zc (nt b _ q λψ y=>by cases y)]
   exact q
end
section
variable {X:Cx}
end
noncomputable abbrev FQ (K:PySem.W.Frag) (H:Hp) (p:Addr) (x:Rat):Prop:=SqT K H p [.int x.num,.int ((x.den:Nat):Int)]
section
variable {K:PySem.W.Frag} {H H':Hp} {p q:Addr} {x y:Rat} {m n:Nat}
theorem FQ.cast (h:FQ K H p x) (e:x=y):FQ K H p y:=e▸h
theorem FQ.dp (h:FQ K H p x):Dp K H (.ref p) (.tuple [.int x.num,.int ((x.den:Nat):Int)]):=.tup h (.cons (.int _) (.cons (.int _) .nil))
theorem FQ.fit {t b:Int} (h:b≠0) (e:SqT K H p [.int (fT t b),.int (fB t b)]):FQ K H p (Rat.divInt t b):=by
 obtain ⟨e1,e2⟩:=q_fit (t:=t) h;rw [e1,e2] at e;exact e
theorem FQ.ofNeg {i:Int} (h:SqT K H p [.int i,.int ((x.den:Nat):Int)]) (e:i=-x.num):FQ K H p (-x):=by
 subst e;exact h
noncomputable def FB (n:Nat) (x:Rat):Prop:=Bd n x.num/\Bd n ((x.den:Nat):Int)
theorem FB.mono (h:FB m x) (l:m<=n):FB n x:=⟨h.1.mono l,h.2.mono l⟩
theorem FB.cast (h:FB n x) (e:x=y):FB n y:=e▸h
theorem FB.fit {t b:Int} (h:b≠0) (g1:Bd n t) (g2:Bd n b):FB n (Rat.divInt t b):=by
 obtain ⟨e1,e2⟩:=q_fit (t:=t) h;refine ⟨?_,?_⟩
 ·rw [<- e1]; exact bd_fT h g1
 ·rw [<- e2]; exact bd_fB h g2
theorem q_ne (x:Rat):((x.den:Nat):Int)≠0:=by have:=YU x; omega
theorem q_num_ne (h:x≠0):x.num≠0:=λe=>h (Rat.num_eq_zero.mp e)
theorem FB.add (h:FB m x) (g:FB n y):FB (m+n+1) (x+y):=by
 rw [<- q_add];exact FB.fit (Int.mul_ne_zero (q_ne x) (q_ne y)) ((h.1.mul g.2).add ((g.1.mul h.2).mono (by omega))) ((h.2.mul g.2).mono (by omega))
theorem FB.sub (h:FB m x) (g:FB n y):FB (m+n+1) (x - y):=by
 rw [<- q_sub];exact FB.fit (Int.mul_ne_zero (q_ne x) (q_ne y)) ((h.1.mul g.2).sub ((g.1.mul h.2).mono (by omega))) ((h.2.mul g.2).mono (by omega))
theorem FB.mul (h:FB m x) (g:FB n y):FB (m+n) (x * y):=by
 rw [<- q_mul];exact FB.fit (Int.mul_ne_zero (q_ne x) (q_ne y)) (h.1.mul g.1) (h.2.mul g.2)
theorem FB.neg (h:FB n x):FB n (-x):=by
 refine ⟨?_,h.2⟩;have:=h.1;unfold Bd at this ⊢;rw [(q_neg x).1];omega
theorem FB.ofInt {i:Int} (h:Bd n i) (l:64<=n):FB n (i:Rat):=⟨h,(Bd.small (i:=1) (by decide) (by decide)).mono l⟩
theorem j9 {b g:Int} (hb:Bd n b) (d:g ∣ b) (g0:g≠0):Bd n (b.fdiv g):=by
 refine hb.of_le ?_;have e:=yr d;have q:=jk (x:=b.fdiv g) g0;rw [e] at q;exact q
theorem Jd {a b:Int} (h:b≠0) (hb:Bd n b):Bd n ((Int.gcd a b:Nat):Int):=by
 refine hb.of_le ?_;have hd:Int.gcd a b ∣ b.natAbs:=Nat.gcd_dvd_right _ _;have:=Nat.le_of_dvd (by omega) hd
 omega
end
theorem But.fresh {b:Addr} {H H':Hp} (h:H b=none) (s:But b H H'):Same H H':=λa o e=>s a o (zL e h) e
theorem Jh (ns:List Int) (d:Int) (lo:0<=d) (hi:d < (ns.length:Int)):∃ v,atI (ns.map V.int) d=some (.int v)/\v∈ns:=by
 have hk:d.toNat < ns.length:=by omega
 have ek:d=((d.toNat:Nat):Int):=by omega
 have z:atI (ns.map V.int) ((d.toNat:Nat):Int)=some (.int ns[d.toNat]):=zi (by rw [List.getElem?_map,List.getElem?_eq_getElem hk]<;>rfl)
 rw [<- ek] at z;exact ⟨_,z,List.getElem_mem hk⟩
theorem Scr.same {K:PySem.W.Frag} {H H':Hp} {a:Addr} (h:Scr K H a) (s:Same H H'):Scr K H' a:=by
 obtain ⟨ns,x,y⟩:=h;exact ⟨ns,s.seq x,y⟩
theorem Fn.imp {P:Program} {w:World} {K:PySem.W.Frag} {mg:Str->Option Value} {base:Heap} {k:Nat} {x:Str} {ps:List Str} {sp sp':Sp} (F:Fn P w K mg base k x ps sp) (h:∀ vs H Q E,sp' vs H Q E->sp vs H Q E):Fn P w K mg base k x ps sp':=by
 obtain ⟨f,fd,g,r⟩:=F.ex;exact ⟨f,fd,g.imp h,r⟩
theorem yj {c:Prop} [Decidable c] {A B:Prop} (h1:¬ c->A) (h2:c->B):if (!decide c)=true then A else B:=by
 by_cases e:c
 ·rw [decide_eq_true e]; exact iteF (h2 e)
 ·rw [decide_eq_false e]; exact iteT (h1 e)
section
variable {X:Cx}
noncomputable def rAl (K:PySem.W.Frag) (r:Bool):V->V->Hp->VK->Prop:=λx y H Q=>∃ d,Dp K H x d/\Dp K H y d/\d.canLay0=true/\Nat.ble d.depth 60=true/\Q (.bl r) H
theorem op_neA {K:PySem.W.Frag} (hK:X.K=K) (hu:X.A.units+100 < cLine):OpR X (compareOp .NotEq) (rAl K false):=by
 intro pins s σ H x y v u Q I rx ry h;obtain ⟨d,hx,hy,c,dep,q⟩:=h;refine op_neD hK hu pins s σ H x y v u Q I rx ry ⟨d,d,hx,hy,c,c,?_,?_⟩
 ·have:=Nat.le_of_ble_eq_true dep;omega
 ·rw [SeqAt.eqv_refl d c];exact q
theorem q_list {x y:Rat}:([x.num,((x.den:Nat):Int)]=[y.num,((y.den:Nat):Int)])↔x=y:=by
 constructor
 ·intro e;simp only [List.cons.injEq,and_true] at e;exact Rat.ext e.1 (by omega)
 ·intro e;rw [e]
theorem op_eqQ {K:PySem.W.Frag} (hK:X.K=K) (hu:X.A.units+100 < cLine):OpR X (compareOp .Eq) (λa b H Q=>∃ (p q:Addr) (x y:Rat),a=.ref p/\b=.ref q/\FQ K H p x/\FQ K H q y/\Q (.bl (decide (x=y))) H):=by
 subst hK;intro pins s σ H a b v u Q I rx ry h;obtain ⟨p,q,x,y,rfl,rfl,hx,hy,k⟩:=h;refine op_eqTI (by omega) pins s σ H _ _ v u Q I rx ry ⟨p,q,[x.num,((x.den:Nat):Int)],[y.num,((y.den:Nat):Int)],rfl,rfl,hx,hy,?_⟩
 rw [decide_eq_decide.mpr q_list];exact k
noncomputable def IsTup2 (K:PySem.W.Frag) (H:Hp) (x c:V) (b:Bool):Prop:=IsI K H x c b\/∃ a xs,x=.ref a/\SqT K H a xs/\kitOne K (.type "tuple") (valC c)=some b
theorem jF {K:PySem.W.Frag} (hK:X.K=K):yx X (.builtin "isinstance") (λxs H Q=>∃ x c b,xs=[x,c]/\((∃ T,c=.ty T)\/∃ C,c=.ref C)/\IsTup2 K H x c b/\Q (.bl b) H):=by
 subst hK;intro pins s σ H xs us Q I r h;obtain ⟨x,c,b,e0,hc,hi,q⟩:=h;rcases hi with hi|⟨a,ys,rfl,ha,e⟩
 ·exact Ze pins s σ H xs us Q I r ⟨x,c,b,e0,hc,hi,q⟩
 subst e0;obtain ⟨u,w',rfl,rx,rc⟩:=vals2 r;have ec:w'=valC c:=by
  rcases hc with ⟨T,rfl⟩|⟨C,rfl⟩
  ·exact rc
  ·exact rc
 subst ec;cases (show u=Value.ref a from rx)
 obtain ⟨its,_,⟨o,h1,h2,_⟩,_⟩:=I.tuple ha;exact kia_one PySem.W.kitx_tuple I.kIn ⟨o,h1,h2⟩ e (λz=>nomatch z) λtk=>⟨.bl b,H,I.tok _,rfl,q⟩
end
section
variable {K:PySem.W.Frag} {idx:List Nat} {te:TE} {σ:L2.St} {H:Hp} {Q:VK}
theorem ZL {a:Addr} {xs:List V} (Pv:Nat->List V->Hp->Prop) (h0:Pv 0 [] H) (hz:xs.length<=sizeLine) (hy:∀ i ys H,Pv i ys H->ys.length=i) (hl:∀ i ys H,Pv i ys H->SqL K H a xs)
  (hs:∀ i x ys H (Q':VK),xs[i]?=some x->Pv i ys H->(∀ v H2,Pv (i+1) (ys++[v]) H2->Q' v H2)->te (stIn (some x) idx σ) H Q') (hd:∀ ys H,Pv xs.length ys H->∀ p,H p=none->Q (.ref p) (upd H p (.lst ys))) :
  YE (Itl K a) idx te σ Q H:=by
 refine ⟨λi m ys H=>m=xs.length - i/\i<=xs.length/\Pv i ys H,⟨xs.length,by simp,Nat.zero_le _,h0⟩,?_⟩
 rintro i m ys H ⟨rfl,hi,p⟩;have q:=hl i ys H p;refine ⟨by rw [hy i ys H p]; omega,?_⟩
 by_cases hlt:i < xs.length
 ·refine .inr ⟨⟨xs,xs[i],q,by simp [hlt]⟩,λy H' yl=>?_⟩
  obtain ⟨e,yl⟩:=yl;subst e;exact hs i y ys _ _ (yl xs q) p λv H2 z=>⟨xs.length - (i+1),by omega,rfl,hlt,z⟩
 ·have e:i=xs.length:=by omega
  subst e;exact .inl ⟨⟨xs,q,Nat.le_refl _⟩,hd ys H p⟩
end
theorem JS {names:List (Str × NameKind)} {cl:List (Str × Addr)} (h:names.all (λz=>z.2 != .cell && z.2 != .free)=true):∀ y,(names.lookup y=some .cell\/names.lookup y=some .free)->∃ c,cl.lookup y=some c:=λy hy=>by
 have mem:∀ (l:List (Str × NameKind)) k,l.lookup y=some k->∃ z∈l,z.2=k:=λl=>by
  induction l with
  |nil=>intro k e; cases e
  |cons a r ih=>
   intro k e;rw [List.lookup_cons] at e;split at e
   ·exact ⟨a,List.mem_cons_self,Option.some.inj e⟩
   ·obtain ⟨z,hz,ez⟩:=ih k e;exact ⟨z,List.mem_cons_of_mem _ hz,ez⟩
 rcases hy with e|e
 all_goals
  obtain ⟨z,hz,ez⟩:=mem _ _ e;have:=List.all_eq_true.mp h z hz;rw [ez] at this;simp at this
theorem Yh {X:Cx} {scope:Scope} {cl:List (Str × Addr)}:Capt X scope cl [] []:=⟨rfl,λk y h=>by simp at h⟩
section
variable {K:PySem.W.Frag} {H H':Hp} {b:Addr} {v:V}
theorem Zi:kitOne K (.type "list") (.type "list")=some true:=by with_unfolding_all rfl
theorem kit_non_lst:kitOne K (.type "NoneType") (.type "list")=some false:=by with_unfolding_all rfl
theorem kit_bl_lst:kitOne K (.type "bool") (.type "list")=some false:=by with_unfolding_all rfl
theorem JP:kitOne K (.type "str") (.type "list")=some false:=by with_unfolding_all rfl
theorem Zm:kitOne K (.type "tuple") (.type "list")=some false:=by with_unfolding_all rfl
theorem kit_dct_lst:kitOne K (.type "dict") (.type "list")=some false:=by with_unfolding_all rfl
end
section
variable {K:PySem.W.Frag} {H H':Hp} {b c:Addr} {x:V}
end
theorem ZE {X:Cx} {scope:Scope} {cl:List (Str × Addr)} {y:Str} {j:Nat} {c:Addr} (h1:X.N[j]?=some y) (h2:X.env.kindOf y=some .cell) (h3:X.env.cells.lookup y=some c) (h4:cl.lookup y=some c)
  (h5:(relabel scope X.env).names.lookup y=some .cell\/(relabel scope X.env).names.lookup y=some .free):Capt X scope cl [y] [j]:=
 ⟨rfl,λk z h=>by
  cases k with
  |zero=>cases h; exact ⟨j,c,rfl,h1,h2,h3,h4,h5⟩
  |succ k=>simp at h⟩
theorem YF {names:List (Str × NameKind)} {cl:List (Str × Addr)} (h:names.all (λz=>(z.2 != .cell && z.2 != .free) || (cl.lookup z.1).isSome)=true):∀ y,(names.lookup y=some .cell\/names.lookup y=some .free)->∃ c,cl.lookup y=some c:=λy hy=>by
 have mem:∀ (l:List (Str × NameKind)) k,l.lookup y=some k->(y,k)∈l:=λl=>by
  induction l with
  |nil=>intro k e; cases e
  |cons a r ih=>
   intro k e;rw [List.lookup_cons] at e;split at e
   ·rename_i q
    have e1:y=a.1:=by simpa using q
    have e2:=Option.some.inj e;rw [e1,<- e2];exact List.mem_cons_self
   ·exact List.mem_cons_of_mem _ (ih k e)
 rcases hy with e|e
 all_goals
  have:=List.all_eq_true.mp h _ (mem _ _ e);exact Option.isSome_iff_exists.mp (by simpa using this)
end Kw
theorem Kw.ixL {X:L2.Cx} {K:PySem.W.Frag} (hK:X.K=K):L2.IxR X (L2.rIxL K):=by
 subst hK;exact L2.ix_list
theorem Kw.ixT {X:L2.Cx} {K:PySem.W.Frag} (hK:X.K=K):L2.IxR X (L2.rIxT K):=by
 subst hK;exact L2.ix_tup
namespace Kw
open PySem PySem.Spec PyProof.Rows L2
section
variable {K:PySem.W.Frag} {H:Hp} {b:Addr} {x:V}
end
noncomputable def Al2 {β:Type} (R:V->β->Prop):List V->List β->Prop
 |[],[]=>True
 |x::xs,b::bs=>R x b/\Al2 R xs bs
 |_,_=>False
section
variable {β:Type} {R R':V->β->Prop}
theorem Al2.imp (h:∀ x b,R x b->R' x b):∀ {xs:List V} {bs:List β},Al2 R xs bs->Al2 R' xs bs
 |[],[],_=>trivial
 |_::_,_::_,z=>⟨h _ _ z.1,Al2.imp h z.2⟩
 |[],_::_,z=>z.elim
 |_::_,[],z=>z.elim
theorem Al2.len:∀ {xs:List V} {bs:List β},Al2 R xs bs->xs.length=bs.length
 |[],[],_=>rfl
 |_::_,_::_,z=>by simp [Al2.len z.2]
 |[],_::_,z=>z.elim
 |_::_,[],z=>z.elim
theorem Al2.get:∀ {xs:List V} {bs:List β} {i:Nat} {x:V},Al2 R xs bs->xs[i]?=some x->∃ b,bs[i]?=some b/\R x b
 |[],_,_,_,_,e=>by simp at e
 |_::_,[],_,_,z,_=>z.elim
 |_::_,b::_,0,_,z,e=>by
  simp only [List.getElem?_cons_zero,Option.some.injEq] at e;subst e;exact ⟨b,rfl,z.1⟩
 |_::_,_::_,i+1,_,z,e=>by
  simp only [List.getElem?_cons_succ] at e;obtain ⟨b,h1,h2⟩:=Al2.get z.2 e;exact ⟨b,by simpa using h1,h2⟩
theorem Al2.snoc:∀ {xs:List V} {bs:List β} {x:V} {b:β},Al2 R xs bs->R x b->Al2 R (xs++[x]) (bs++[b])
 |[],[],_,_,_,h=>⟨h,trivial⟩
 |_::_,_::_,_,_,z,h=>⟨z.1,Al2.snoc z.2 h⟩
 |[],_::_,_,_,z,_=>z.elim
 |_::_,[],_,_,z,_=>z.elim
theorem zd {bs:List β} {i:Nat} {b:β} (h:bs[i]?=some b):bs.take (i+1)=bs.take i++[b]:=by
 rw [List.take_add_one,h];rfl
end
section
variable {K:PySem.W.Frag} {H H':Hp} {n m:Nat} {x:V} {q:Rat} {b:Rat × Rat × Int}
end
section
variable {X:Cx} {K:PySem.W.Frag}
noncomputable def tGlobT (K:PySem.W.Frag) (t b:Int):TE:=λ_ H Q=>∀ N,(∀ H1,SqT K H1 N [.int t,.int b])->Q (.ref N) H
theorem zp {x:Str} {t b:Int} {pos:Pos} (hK:X.K=K) (hg:Gl X x) (hm:∃ N,X.mg x=some (.ref N)/\∀ H,SqT K H N [.int t,.int b]) (hd:(x == ("__debug__" : Str))=false:=by decide):PE X (.Name x pos) (tGlobT K t b):=by
 obtain ⟨N,hm,hN⟩:=hm;intro pins s σ H Q I h;exact Jc hg hm (v:=.ref N) rfl hd pins s σ H Q I (h N hN)
theorem sqt_const {A:Addr} {o:Option Addr} {t b:Int} {k1 k2:Tok} {n:Nat} {sl:Array (Option Value)} (h:K.lookup A=some ⟨.type "tuple",o,.seq #[.int t k1,.int b k2] n,sl⟩):∀ H,SqT K H A [.int t,.int b]:=λH=>
 .inr ⟨_,_,_,h,rfl,rfl,by show 2<=sizeLine; decide,.cons ⟨_,rfl⟩ (.cons ⟨_,rfl⟩ .nil)⟩
end
section
variable {pr:Program} {wd:World} {Ar:Around} {Er:Value->Shared->Prop}
end
section
variable {X:Cx} {pos:Pos}
end
section
variable {K:PySem.W.Frag} {te:TE} {σ:L2.St} {H:Hp} {Q:VK} {idx:List Nat}
end
section
variable {K:PySem.W.Frag} {H H':Hp} {n:Nat} {x:V} {q:Rat} {b:Rat × Rat × Int} {c:Addr} {zs xs:List V} {bs:List (Rat × Rat × Int)}
noncomputable def frD (q:Rat):PyData:=.tuple [.int q.num,.int ((q.den:Nat):Int)]
theorem newB {H:Hp} {p:Addr} (o:HO):∃ H',upd H p o=H'/\But p H H'/\H' p=some o:=⟨_,rfl,but_upd _,zb⟩
theorem ZY {H H':Hp} {a c:Addr} (s:But c H H') (h:H' a=none) (n:a≠c):H a=none:=by
 cases e:H a with
 |none=>rfl
 |some o=>have:=s _ _ n e; rw [h] at this; cases this
end
section
end
theorem most_of (ns:List Int) (N:Int) (h:1<=N):∃ m:Int,(if (if N < (((ns.map V.int).length:Nat):Int) then N else (((ns.map V.int).length:Nat):Int)) > 1 then (if N < (((ns.map V.int).length:Nat):Int) then N else (((ns.map V.int).length:Nat):Int)) else 1)=m/\1<=m/\m<=N:=by
 refine ⟨_,rfl,?_⟩;split
 ·split<;>omega
 ·omega
section
variable {X:Cx} {pins:List (Addr × Obj)} {σ:L2.St} {H:Hp} {s:Shared} {N ns xs:List Str} {scope:Scope} {cl:List (Str × Addr)} {C:Addr} {fp:List Addr} {idx:List Nat}
end
section
variable {X:Cx} {elt iter tg:Expr} {ifs:List Expr} {xs:List Str} {pos:Pos} {scope:Scope} {cl:List (Str × Addr)} {wi:TI} {g:TG} {tt:TT} {te:TE} {ns:List Str} {idx:List Nat}
end
section
variable {K:PySem.W.Frag} {te:TE} {tt:TT} {g:TG} {σ:L2.St} {H:Hp} {Q:VK} {idx:List Nat} {k:Nat}
end
section
variable {X:Cx} {pos:Pos}
end
theorem Al2.set {β:Type} {R:V->β->Prop}:∀ {xs:List V} {bs:List β} {j:Nat} {x:V} {b:β},Al2 R xs bs->R x b->Al2 R (xs.set j x) (bs.set j b)
 |[],[],_,_,_,_,_=>trivial
 |_::_,_::_,0,_,_,z,h=>⟨h,z.2⟩
 |_::_,_::_,j+1,_,_,z,h=>⟨z.1,Al2.set z.2 h⟩
 |[],_::_,_,_,_,z,_=>z.elim
 |_::_,[],_,_,_,z,_=>z.elim
noncomputable def excO (K:PySem.W.Frag) (C:Addr):Bool:=match K.lookup C with
 |some ⟨.type "type",_,.cls klass,sl⟩=>(match klass.mro,sl.toList with
  |.ref C'::bm,[_,_,_,_,some (.builtin n),_]=>C' == C && n == "ValueError.__new__" && !klass.hasDel && PySem.W.tailIn K bmV bm && PySem.W.nsOkIn K klass.ns
  |_,_=>false)
 |_=>false
theorem YL {K:PySem.W.Frag} {h:Heap} {C:Addr} (X:K.In h) (q:excO K C=true) :
  ∃ bm N nm qn bs hdct sn sub ab col dd k0 k1 k2 k3 k5,h.get? C=some (excClassObj nm qn C N bs bm hdct sn sub ab col dd k0 k1 k2 k3 k5 "ValueError.__new__")/\OwnTail h bmV bm:=by
 unfold excO at q;cases hl:K.lookup C with
 |none=>rw [hl] at q; cases q
 |some o=>
  rw [hl] at q;split at q
  ·rename_i dd klass sl eo
   cases eo
   split at q
   ·rename_i C' bm k0 k1 k2 k3 n k5 hm hs
    simp only [Bool.and_eq_true,beq_iff_eq,Bool.not_eq_true'] at q;obtain ⟨⟨⟨⟨e1,e2⟩,e3⟩,e4⟩,e5⟩:=q;subst e1 e2;cases klass with
    |mk nm bs mro ns qn hd sn sub ab col del=>
     simp only at hm e3 e5;subst hm e3;cases sl with
     |mk sll=>
      simp only at hs;subst hs;exact ⟨bm,ns,nm,qn,bs,hd,sn,sub,ab,col,dd,k0,k1,k2,k3,k5,X _ _ hl,PySem.W.tail_of_in X e4⟩
   ·cases q
  ·cases q
noncomputable abbrev newX (C t:Addr):Obj:={cls:=.ref C,data:=.fields #[.ref t,.none,.none,.none,.bool false,.none]}
section
variable {prog:Program} {w:World} {A:Around} {E:Value->Shared->Prop} {h:Heap} {g:Array GenState} {d:Drawn} {t:Nat} {os:OsState} {C f:Addr} {K:PySem.W.Frag}
theorem type_call_init {more:List Value} {Q:Fin->Shared->Prop} (kx:K.In h) (q:excO K C=true) (hi:findIn K (.ref C) "__init__"=some (some (.ref f))) (hf:typeIn K (.ref f)=some (.type "function"))
  (hz:more.length<=sizeLine)
  (want:codeAny (model prog w) A (.call (.ref f) ⟨.ref (h.objs.size+1)::more,[]⟩) (λr s'=>match r with|.ok (.ret v)=>v=.none/\Q (.done (.ret (.ref (h.objs.size+1)))) s'|.ok _=>False|.error e=>E e s')
   ⟨(h.push {cls:=.type "tuple",data:=.seq more.toArray}).push (newX C h.objs.size),g,d,t,os⟩) :
  wpAny (model prog w) A (Builtin.«type.__call__» ⟨.ref C::more,[]⟩) Q E ⟨h,g,d,t,os⟩:=by
 obtain ⟨bm,N,nm,qn,bs,hdct,sn,sub,ab,col,dd,k0,k1,k2,k3,k5,kC,T⟩:=YL kx q;have F:=PySem.F.excBase_ValueError
 repeat (first|with_reducible refine wpAny_madeBy_exc kC ?_|with_reducible refine wpAny_loadPart_at kC ?_|wp_step)
 refine codeAny_call_builtin_code (Code.quiet_builtin _ F.quiet) (wpAny_check_new_subT F T kC ?_);refine codeAny_exc_new_subT F T kC ?_ hz;show wpAny _ _ _ _ _ _;have hk:∀ b o,h.get? b=some o->((h.push {cls:=.type "tuple",data:=.seq more.toArray}).push (newX C h.objs.size)).get? b=some o:=λb o e=>Heap.get?_push_of_some _ (Heap.get?_push_of_some _ e)
 have Kh:=hk _ _ kC;have GA:K.In ((h.push {cls:=.type "tuple",data:=.seq more.toArray}).push (newX C h.objs.size)):=λa o e=>hk a o (kx a o e)
 have hget:((h.push {cls:=.type "tuple",data:=.seq more.toArray}).push (newX C h.objs.size)).get? (h.objs.size+1)=some (newX C h.objs.size):=by heap_get
 have kself:(Value.ref C::bm).contains (.ref C)=true:=by simp
 unfold isInstance
 repeat (first|with_reducible refine wpAny_loadPart_at hget ?_|(with_reducible refine wpAny_isSubtype_exc Kh ?_; rw [kself])|wp_step)
 show wpAny _ _ (typeLookup (.ref C) _) _ _ _;refine (looks_findIn GA hi).at ?_;refine wpAny_holding (wpAny_bind ((PySem.W.bind_fn GA (.ref (h.objs.size+1)) hf).at ?_));dsimp only;refine wpAny_bind (wpAny_call (codeAny_mono want λr z hr=>?_))
 cases r with
 |error e=>exact hr
 |ok fl=>
  cases fl with
  |ret v=>
   obtain ⟨rfl,hq⟩:=hr;refine wpAny_pure ?_;exact wpAny_pure hq
  |next=>exact hr.elim
  |brk=>exact hr.elim
  |cont=>exact hr.elim
theorem call_init {more:List Value} {Q:Value->Shared->Prop} (kx:K.In h) (q:excO K C=true) (hi:findIn K (.ref C) "__init__"=some (some (.ref f))) (hf:typeIn K (.ref f)=some (.type "function")) (hz:more.length<=sizeLine)
  (want:∀ A':Around,A'=A.under (.builtin "type.__call__" ⟨.ref C::more,[]⟩)->codeAny (model prog w) A' (.call (.ref f) ⟨.ref (h.objs.size+1)::more,[]⟩) (λr s'=>match r with|.ok (.ret v)=>v=.none/\Q (.ref (h.objs.size+1)) s'|.ok _=>False|.error e=>E e s')
   ⟨(h.push {cls:=.type "tuple",data:=.seq more.toArray}).push (newX C h.objs.size),g,d,t,os⟩) :
  wpAny (model prog w) A (call (.ref C) more) Q E ⟨h,g,d,t,os⟩:=by
 obtain ⟨bm,N,nm,qn,bs,hdct,sn,sub,ab,col,dd,k0,k1,k2,k3,k5,kC,T⟩:=YL kx q;have f1:=tc_lookup;have f2:=tc_bind (.ref C);have tC:(⟨h,g,d,t,os⟩:Shared).TypeIs (.ref C) "type":=⟨_,kC,rfl⟩;refine wpAny_call (codeAny_of_tree ?_);show wpAny _ _ (callAny (.ref C) _) _ _ _
 repeat (any_goals (first|assumption|with_reducible refine wpAny_loadPart_at kC ?_|wp_step))
 refine ⟨rfl,?_⟩;refine codeAny_call_builtin_at (Code.quiet_builtin _ (by decide+kernel)) entry_typeCall (wpAny_check_type_call_sub kC (type_call_init kx q hi hf hz (codeAny_mono (want _ ?_) λr z hr=>?_)))
 ·rfl
 ·cases r with
  |error e=>exact hr
  |ok fl=>
   cases fl with
   |ret v=>exact hr
   |next=>exact hr.elim
   |brk=>exact hr.elim
   |cont=>exact hr.elim
end
section
variable {prog:Program} {w:World} {A:Around} {E:Value->Shared->Prop} {h:Heap} {g:Array GenState} {d:Drawn} {t:Nat} {os:OsState} {C e:Addr} {K:PySem.W.Frag} {oe:Obj} {vs:Array Value}
theorem base_init {more:List Value} {Q:Value->Shared->Prop} (kx:K.In h) (q:excO K C=true) (he:h.get? e=some oe) (hcls:oe.cls=.ref C) (hd:oe.data=.fields vs) (h0:0 < vs.size) (hz:more.length<=sizeLine)
  (want:∀ h',(∀ b o,b≠e->h.get? b=some o->h'.get? b=some o)->(∃ v,h'.get? e=some {oe with data:=.fields (vs.setIfInBounds 0 v)})->Q .none ⟨h',g,d,t,os⟩) :
  wpAny (model prog w) A (call (.builtin "ValueError.__init__") (.ref e::more)) Q E ⟨h,g,d,t,os⟩:=by
 obtain ⟨bm,N,nm,qn,bs,hdct,sn,sub,ab,col,dd,k0,k1,k2,k3,k5,kC,T⟩:=YL kx q;have F:=PySem.F.excBase_ValueError;refine wpAny_call (codeAny_call_builtin F.init.plain F.initEntry (wpAny_check_init_subT F T kC he hcls ?_));have GB:=Heap.get?_push_of_some {cls:=.type "tuple",data:=.seq more.toArray} he
 repeat (first|wp_step)
 rw [hd];refine wpAny_pure ?_;rw [Array.getElem?_eq_getElem h0];refine wpAny_pure ?_;refine wpAny_bind (wpAny_setField GB hd h0 ?_)
 have fin:=want ((h.push {cls:=.type "tuple",data:=.seq more.toArray}).update e (Obj.mapFields (·.setIfInBounds 0 (.ref h.objs.size)))) (λb o hb e'=>by
   rw [Heap.get?_update_other _ _ (Ne.symm hb)];exact Heap.get?_push_of_some _ e') (by
   obtain ⟨c,dd',da,sl⟩:=oe;simp only at hd;subst hd;refine ⟨.ref h.objs.size,?_⟩;rw [Heap.get?_update_self _ GB rfl]
   rfl)
 generalize vs[0]=v0;cases v0<;>first|exact wpAny_pure (wpAny_pure fin)|exact wpAny_letGo (wpAny_pure fin)
end
end Kw
namespace Kw
open PySem PySem.Spec PyProof.Rows L2 PySem.Builtin PySem.Builtin.ObjectAttr
noncomputable def isRefV:Value->Bool
 |.ref _=>true
 |_=>false
noncomputable def JZ:List Value->Bool
 |[]=>false
 |c::r=>(c::r) == bmV || (isRefV c && JZ r)
theorem ZZ (self:Value) {n:String} {l:List Value} (h:fastBuiltinOwn n "__setattr__"=none) (h1:(n == "_thread._local")=false) (h2:(n == "_pickle.Pickler" || n == "_pickle.Unpickler")=false) :
  PySem.refuseLoop self "__setattr__" (.type n::l)=PySem.refuseLoop self "__setattr__" l:=by
 have e:classOwn (.type n) "__setattr__"=pure none:=by
  show (pure (builtinOwn n "__setattr__"):Sem (Option Value))=pure none;rw [builtinOwn_eq_fast,h]
 unfold PySem.refuseLoop;simp only [List.forIn_cons,h1,h2,e];rfl
theorem refuse_bm (self:Value):PySem.refuseLoop self "__setattr__" bmV=pure ():=by
 unfold bmV;rw [ZZ self (by decide+kernel) (by decide) (by decide),ZZ self (by decide+kernel) (by decide) (by decide),ZZ self (by decide+kernel) (by decide) (by decide)]
 exact PySem.F.store_object.passes self
theorem isRefV_eq {c:Value} (h:isRefV c=true):∃ a,c=.ref a:=by
 cases c<;>first|exact ⟨_,rfl⟩|cases h
theorem Jr (self:Value):∀ {l:List Value},JZ l=true->PySem.refuseLoop self "__setattr__" l=pure ()
 |c::r,e=>by
  unfold JZ at e;rcases Bool.or_eq_true_iff.mp e with e|e
  ·rw [beq_iff_eq.mp e];exact refuse_bm self
  ·rw [Bool.and_eq_true] at e;obtain ⟨a,rfl⟩:=isRefV_eq e.1;rw [PySem.refuseLoop_ref];exact Jr self e.2
noncomputable def Yb (K:PySem.W.Frag) (C:Addr):Bool:=(PySem.W.clsIn K C).any λklass=>JZ klass.mro && klass.hasDict
section
variable {prog:Program} {w:World} {A:Around} {R:Result->Shared->Prop} {s:Shared} {K:PySem.W.Frag} {x C:Addr} {ox:Obj} {od:Option Obj} {name:Str} {tk:Tok} {v:Value}
theorem xsa_open (X:K.In s.heap) (I:InstAt s.heap x ox C od) (hp:Yb K C=true) (ob:mroIn K C (.type "object")=some true) (hn:findIn K (.ref C) name=some none)
  (want:∀ b,wpAny (model prog w) A.in1 (storeInOwnDict (.ref x) (.ref C) (.str name tk) name v b) (λfin z=>match fin with|.done f=>R (.ok f) z|.again c=>c.quiet=true/\codeAny (model prog w) A c R z) (λe z=>R (.error e) z) s) :
  codeAny (model prog w) A (.call (.builtin "object.__setattr__") ⟨[.ref x,.str name tk,v],[]⟩) R s:=by
 have sto:=PySem.F.store_object;obtain ⟨klass,hc,ho⟩:=any_some hp;rw [Bool.and_eq_true] at ho;have isO:Looks (model prog w) s.heap (isInstance (.ref x) (.type "object")) true:=I.type.andThen (looks_mroIn X ob);refine codeAny_call_builtin sto.slot.plain sto.entry (@PySem.W.check_slot (model prog w) _ _ s "object.__setattr__" "object" "__setattr__" (.ref x) [.str name tk,v] [] _ sto.kind sto.split isO (sto.args (.ref x) (.str name tk) v) ?_);have lm:Looks (model prog w) s.heap (mroOf (.ref C)) klass.mro:=(looks_clsIn X hc).andThen .now;have lt:Looks (model prog w) s.heap (storeTaker? none) none:=.now;rw [PySem.W.osa_eq,PySem.refuse_eq];refine wpAny_bind (wpAny_bind (I.type.here (wpAny_bind (lm.here ?_))));rw [Jr _ ho.1];refine wpAny_pure (wpAny_bind (I.type.here (wpAny_bind ((looks_findIn X hn).here (wpAny_bind (lt.here ?_))))));exact want _
end
end Kw
namespace Kw
open PySem PySem.Spec PyProof.Rows L2 PySem.Builtin PySem.Builtin.ObjectAttr
section
variable {prog:Program} {w:World} {A:Around} {R:Result->Shared->Prop} {s:Shared} {K:PySem.W.Frag} {x C:Addr} {ox:Obj} {od:Option Obj} {name:Str} {tk:Tok} {v:Value}
theorem set_first {Q:Unit->Shared->Prop} {E:Value->Shared->Prop} {vs:Array Value} {sl:Array (Option Value)} (X:K.In s.heap) (hx:s.heap.get? x=some ⟨.ref C,none,.fields vs,sl⟩) (hp:Yb K C=true) (ob:mroIn K C (.type "object")=some true)
  (hsa:findIn K (.ref C) "__setattr__"=some (some (.builtin "object.__setattr__"))) (hn:findIn K (.ref C) name=some none)
  (want:∀ h' tk',h'.get? x=some ⟨.ref C,some s.heap.objs.size,.fields vs,sl⟩->h'.Ns1 s.heap.objs.size (λy=>if y=name then some v else none)->(∀ b o,b≠x->s.heap.get? b=some o->h'.get? b=some o)->Q () {s with heap:=h',toks:=tk'}) :
  wpAny (model prog w) A (setAttr (.ref x) name v) Q E s:=by
 have I:InstAt s.heap x ⟨.ref C,none,.fields vs,sl⟩ C none:=⟨hx,rfl,rfl,True.intro⟩;refine set_plain X I hsa (xsa_open (s:={s with toks:=s.toks+1}) X I hp ob hn λb=>?_)
 obtain ⟨cd,hc,ho⟩:=any_some hp;rw [Bool.and_eq_true] at ho;unfold storeInOwnDict;refine wpAny_bind (wpAny_pure ?_);rw [if_neg (by intro z; cases (beq_iff_eq.mp z))]
 unfold ownDictForStores;refine wpAny_bind ?_;unfold instanceDict;refine wpAny_bind (wpAny_loadPart hx ?_);dsimp only;refine wpAny_bind (PySem.W.Looks.here (s:={s with toks:=s.toks+1}) (looks_clsIn X hc) ?_)
 rw [ho.2];rw [if_neg (by decide),if_neg (by show ¬ ((!true || !true)=true); decide)]
 refine wpAny_bind (wpAny_alloc ?_);have GC:=Heap.get?_push_of_some {cls:=.type "dict",data:=.dict #[]} hx;refine wpAny_bind (wpAny_update GC ?_);refine wpAny_pure ?_;unfold storeInDict;have hlt:x < s.heap.objs.size:=Heap.lt_size hx;have nx:x≠s.heap.objs.size:=Nat.ne_of_lt hlt;have qu:((s.heap.push {cls:=.type "dict",data:=.dict #[]}).update x λo=>{o with dict:=some s.heap.objs.size}).Ns1 s.heap.objs.size λ_=>none:=
  ⟨_,#[],0,(Heap.get?_update_other _ _ nx).trans (Heap.get?_push_size _ rfl),rfl,(λe he=>by simp at he),(by simp [UniqKeys]),λ_=>rfl⟩
 refine wpAny_bind (wpAny_pure (wpAny_bind ?_));refine wpAny_nsSet1 qu λh' gf d8=>?_
 obtain ⟨oD,esD,epD,qv,qw,qx⟩:=gf.count (PySem.Within.cons name v (ns:=[]) (λy hy=>by simp at hy))
 refine wpAny_bind (wpAny_lookBehind qv (by rw [qw]; exact pastItsLine_dict (Nat.le_trans qx (by rw [sizeLine_eq]; simp))) ?_)
 refine wpAny_pure (want h' _ ?_ gf λb o hb e=>?_)
 ·rw [d8.2 x nx,Heap.get?_update_self _ GC rfl]
 ·have hb':b≠s.heap.objs.size:=Nat.ne_of_lt (Heap.lt_size e);rw [d8.2 b hb',Heap.get?_update_other _ _ (Ne.symm hb)];exact Heap.get?_push_of_some _ e
theorem set_more {Q:Unit->Shared->Prop} {E:Value->Shared->Prop} {vs:Array Value} {sl:Array (Option Value)} {dx:Addr} {mA:Str->Option Value} {ns:List Str} (X:K.In s.heap) (hx:s.heap.get? x=some ⟨.ref C,some dx,.fields vs,sl⟩) (hd:s.heap.Ns1 dx mA) (hw:PySem.Within mA ns) (hz:ns.length < sizeLine)
  (hp:Yb K C=true) (ob:mroIn K C (.type "object")=some true) (hsa:findIn K (.ref C) "__setattr__"=some (some (.builtin "object.__setattr__"))) (hn:findIn K (.ref C) name=some none)
  (want:∀ h' tk',h'.Ns1 dx (λy=>if y=name then some v else mA y)->Heap.SameBut dx s.heap h'->Q () {s with heap:=h',toks:=tk'}):wpAny (model prog w) A (setAttr (.ref x) name v) Q E s:=by
 obtain ⟨odx,es,ep,e1,e2⟩:=id hd;have I:InstAt s.heap x ⟨.ref C,some dx,.fields vs,sl⟩ C (some odx):=⟨hx,rfl,rfl,e1⟩;refine set_plain X I hsa (xsa_open (s:={s with toks:=s.toks+1}) X I hp ob hn λb=>?_)
 obtain ⟨cd,hc,ho⟩:=any_some hp;rw [Bool.and_eq_true] at ho;unfold storeInOwnDict;refine wpAny_bind (wpAny_pure ?_);rw [if_neg (by intro z; cases (beq_iff_eq.mp z))]
 unfold ownDictForStores;refine wpAny_bind ?_;unfold instanceDict;refine wpAny_bind (wpAny_loadPart hx ?_);dsimp only;refine wpAny_bind (PySem.W.Looks.here (s:={s with toks:=s.toks+1}) (looks_clsIn X hc) ?_)
 rw [ho.2,if_neg (by decide)]
 refine wpAny_pure ?_;unfold storeInDict;refine wpAny_bind (wpAny_pure (wpAny_bind ?_));refine wpAny_nsSet1 (s:={s with toks:=s.toks+1}) hd λh' gf d8=>?_
 obtain ⟨oD,esD,epD,qv,qw,qx⟩:=gf.count (PySem.Within.cons name v hw);refine wpAny_bind (wpAny_lookBehind qv (by rw [qw]; exact pastItsLine_dict (Nat.le_trans qx (by rw [List.length_cons]; omega))) ?_)
 exact wpAny_pure (want h' _ gf d8)
end
end Kw
namespace Kw
open PySem PySem.Spec PyProof.Rows L2 PySem.Builtin PySem.Builtin.ObjectAttr
theorem look_ns1 {h:Heap} {dx:Addr} {mA:Str->Option Value} {name:Str} (hd:h.Ns1 dx mA):∃ o,h.get? dx=some o/\lookIn name o=some (mA name):=by
 obtain ⟨o,es,ep,e1,e2,k,_,f⟩:=hd;refine ⟨o,e1,?_⟩;unfold lookIn;rw [e2];dsimp only;have e3:(es.toList.find? (·.key.isStr name)).map (·.val)=mA name:=by
  rw [<- f name];unfold nsFind findBy;rw [<- Array.find?_toList]
 cases q:es.toList.find? (·.key.isStr name) with
 |some en=>
  rw [q] at e3;exact congrArg some e3
 |none=>
  rw [q] at e3;have ha:es.toList.any (·.refKey)=false:=by
   rw [List.any_eq_false];intro en hen;obtain ⟨n,t,ek⟩:=k en (by simpa using hen)
   simp [DictEntry.refKey,ek]
  dsimp only;rw [ha,if_neg (by decide)]
  exact congrArg some e3
section
variable {prog:Program} {w:World} {A:Around} {E:Value->Shared->Prop} {s:Shared} {K:PySem.W.Frag} {x C:Addr} {ox:Obj} {odx:Obj} {name:Str} {v:Value}
theorem ga_value {tk:Tok} {Q:Fin->Shared->Prop} (kx:K.In s.heap) (I:InstAt s.heap x ox C (some odx)) (hf:PySem.W.findObj K C (some odx) name=some (.value v)) (want:Q (.done (.ret v)) s) :
  wpAny (model prog w) A (Builtin.«object.__getattribute__» ⟨[.ref x,.str name tk],[]⟩) Q E s:=by
 obtain ⟨z0,z1,z2,z3,z4⟩:=s;have L0:=I.type (M:=model prog w);have L1:=PySem.W.looks_find (M:=model prog w) kx I hf;unfold Builtin.«object.__getattribute__»
 repeat lk
 exact want
theorem exc_fld {expr:Bool} {Q:Value->Shared->Prop} (kx:K.In s.heap) (I:InstAt s.heap x ox C (some odx)) (q:ExcQ K C) (hf:PySem.W.findObj K C (some odx) name=some (.value v)) (hh:handedIn v=true) (want:Q v {s with toks:=s.toks+1}) :
  wpAny (model prog w) A (getAttr (.ref x) name expr) Q E s:=by
 obtain ⟨z0,z1,z2,z3,z4⟩:=s;have L0:=I.type (M:=model prog w);have L1:=looks_findIn (M:=model prog w) kx q.ga;have L2:=looks_findIn (M:=model prog w) kx q.hk;have f3:=PySem.F.excAttr_ValueError.ga.bind (.ref x);unfold getAttr getAttrBy;refine wpAny_bind (wpAny_mkText (wpAny_holding (wpAny_bind (L0.at (wpAny_bind (L1.at ?_))))));dsimp only;have e1:(Value.builtin "BaseException.__getattribute__" == Value.builtin "object.__getattribute__")=false:=by decide+kernel
 rw [e1,Bool.and_false,if_neg (by decide)]
 unfold getAttrByItsOwn hookBefore;rw [show onTheHeap (Value.ref C)=true from rfl,if_pos rfl];refine wpAny_bind (L2.at ?_);refine wpAny_bind (wpAny_attempt (wpAny_holding ?_));unfold callGetattribute boundAndCalled;rw [if_neg (by cases expr<;>decide),f3]
 refine wpAny_bind (wpAny_pure ?_);dsimp only;refine wpAny_call (codeAny_call_builtin PySem.F.excAttr_ValueError.ga.plain PySem.F.entry_bexc_ga (ga_check kx L0 q (ga_value kx I hf ?_)));show wpAny _ _ (handedOut v) _ _ _;rw [PySem.W.handedOut_of hh];exact wpAny_pure want
end
end Kw
namespace Kw
open PySem PySem.Spec PyProof.Rows L2
noncomputable def XoIs (x C:Addr) (od:Option Addr) (h:Heap):Prop:=∃ (vs:Array Value) (sl:Array (Option Value)),(∃ a,vs=#[a,.none,.none,.none,.bool false,.none])/\h.get? x=some ⟨.ref C,od,.fields vs,sl⟩
noncomputable abbrev Xo (x C:Addr) (od:Option Addr):HO:=.ext (XoIs x C od)
noncomputable def XdIs (d:Addr) (fs:List (Str × V)) (h:Heap):Prop:=∃ mA,h.Ns1 d mA/\(∀ f,RelO (fs.lookup f) (mA f))/\PySem.Within mA (fs.map (·.1))
noncomputable abbrev Xd (d:Addr) (fs:List (Str × V)):HO:=.ext (XdIs d fs)
section
variable {P:Program} {w:World} {H:Hp} {h:Heap} {x C d:Addr} {od:Option Addr} {fs:List (Str × V)}
theorem xo_ok (e:XoIs x C od h):zg P w H h x (Xo x C od):=by
 obtain ⟨vs,sl,a,b⟩:=id e;exact ⟨e,⟨_,b⟩,λ_ _ ⟨vs,sl,a,b⟩ k=>⟨vs,sl,a,k _ b⟩⟩
theorem xd_ok (e:XdIs d fs h):zg P w H h d (Xd d fs):=by
 obtain ⟨mA,⟨o,es,ep,ho,_⟩,_⟩:=id e;exact ⟨e,⟨o,ho⟩,λ_ _ ⟨mA,⟨o,es,ep,q,c⟩,r,wi⟩ k=>⟨mA,⟨o,es,ep,k _ q,c⟩,r,wi⟩⟩
end
structure MkX (K:PySem.W.Frag) (C f:Addr):Prop where
 o:excO K C=true
 init:findIn K (.ref C) "__init__"=some (some (.ref f))
 fn:typeIn K (.ref f)=some (.type "function")
 kp:keepIn K (.ref C)=true
structure XCls (K:PySem.W.Frag) (C:Addr):Prop where
 ov:Yb K C=true
 ob:mroIn K C (.type "object")=some true
 sa:findIn K (.ref C) "__setattr__"=some (some (.builtin "object.__setattr__"))
 hd:hasDictIn K C=true
noncomputable def tMkx (C:Addr) (sp:Sp) (E:XK) (t:TA):TE:=λσ H Q=>t σ H λvs H1=>vs.length<=sizeLine/\∀ x,H1 x=none->
 sp (.ref x::vs) (upd H1 x (Xo x C none)) (λv H2=>v=.non/\Q (.ref x) H2) E
noncomputable def tBase (K:PySem.W.Frag) (t:TA):TE:=λσ H Q=>t σ H λvs H1=>∃ x C od more,vs=.ref x::more/\H1 x=some (Xo x C od)/\excO K C=true/\more.length<=sizeLine/\Q .non H1
noncomputable def sXf (K:PySem.W.Frag) (ta tv:TE) (f:Str):TS:=λD σ H=>tv σ H λy H1=>ta σ H1 λx H2=>∃ a C,x=.ref a/\XCls K C/\yB K C f/\
 ((H2 a=some (Xo a C none)/\∀ d,H2 d=none->D.nx σ (upd (upd H2 d (Xd d [(f,y)])) a (Xo a C (some d))))\/
  ∃ d fs,H2 a=some (Xo a C (some d))/\H2 d=some (Xd d fs)/\fs.length < 1000/\D.nx σ (upd H2 d (Xd d (putF f y fs))))
structure FnI (P:Program) (w:World) (K:PySem.W.Frag) (mg:Str->Option Value) (base:Heap) (k:Nat) (C:Addr) (ps:List Str) (sp:Sp):Prop where
 ex:∃ f fd,FnOk P w K mg base (CXE P w) k f fd ps sp/\MkX K C f/\jP K fd ps []
structure DfI (K:PySem.W.Frag) (C:Addr) (qual:Str) (st:Stmt) (ps:List Str):Prop where
 ex:∃ (f:Addr) (oc:Value) (od:Option Addr) (kV doc pm:Value) (an:Option Addr) (cdv ct:Value) (osl:Array (Option Value)),
  K.lookup f=some ⟨oc,od,.func (fnOf "__init__" qual (zK st) (zI st) (zD st) .none kV doc pm an cdv ct),osl⟩/\codeIn K cdv qual=true/\MkX K C f/\
  jP K (fnOf "__init__" qual (zK st) (zI st) (zD st) .none kV doc pm an cdv ct) ps []
section
variable {P:Program} {w:World} {K:PySem.W.Frag} {mg:Str->Option Value} {base:Heap} {C:Addr} {qual:Str} {st:Stmt} {N ps:List Str} {k:Nat} {sp:Sp}
theorem DfI.ok (D:DfI K C qual st ps) (S:FnScope N ps (zD st)) (len:∀ vs H Q E,sp vs H Q E->vs.length=ps.length)
  (hbody:∀ (f:Addr) (cdv:Value) (A:Around) (outer:List Env) (s:Shared) (H:Hp) (vs:List V) (Q:VK) (E:XK),Room k (A.deeper (envOfC qual (zD st) s.heap.objs.size f cdv))->sp vs H Q E->
   ∃ t,PSs (cxOf (CXE P w) P w K mg base N qual (zD st) f cdv A outer s H E).nox (zI st) t/\t {nx:=λ_ H'=>Q .non H',rt:=Q} (Zl N vs) H):FnI P w K mg base (k+1) C ps sp:=by
 obtain ⟨f,oc,od,kV,doc,pm,an,cdv,ct,osl,lk,hcd,M,bd⟩:=D.ex;refine ⟨f,_,fn_of lk hcd S len λA outer s H vs Q E hr hsp=>?_,M,bd⟩
 obtain ⟨t,h,q⟩:=hbody f cdv A outer s H vs Q E hr hsp;exact ⟨t,h.nox,q⟩
end
section
variable {X:Cx} {pins:List (Addr × Obj)} {σ:L2.St} {H:Hp} {s:Shared} {k k':Nat} {f C CK:Addr} {fd:FuncData} {ps:List Str} {sp:Sp} {E:XK} {x:Str} {p pos apos:Pos} {e:Expr} {es:List Expr} {t:TA}
theorem run_mkx {Q:VK} {us:List Value} {vs:List V} (M:MkX X.K C f) (F:FnOk X.prog X.w X.K X.mg X.base (CXE X.prog X.w) k f fd ps sp) (hr:Room (k+1) X.A) (hb:jP X.K fd ps [])
  (hx:yc (CXE X.prog X.w) X E) (I:Inv X pins σ H s) (r:Vals vs us) (hz:vs.length<=sizeLine)
  (h:∀ x,H x=none->sp (.ref x::vs) (upd H x (Xo x C none)) (λv H2=>v=.non/\Q (.ref x) H2) E) :
  wpAny (model X.prog X.w) X.A (call (.ref C) us) (EP X pins σ Q) X.xe s:=by
 obtain ⟨hh,g,d,t,os⟩:=s;have hq:=h (hh.objs.size+1) (I.hok.fresh (Nat.le_succ _));have I1:=I.kept (h':=hh.push {cls:=.type "tuple",data:=.seq us.toArray}) (t':=t) (λb u q=>Heap.get?_push_of_some _ q)
 have e2:((hh.push {cls:=.type "tuple",data:=.seq us.toArray}).push (newX C hh.objs.size)).get? (hh.objs.size+1)=some (newX C hh.objs.size):=by heap_get
 have I2:=I1.laid (a:=hh.objs.size+1) (o:=Xo (hh.objs.size+1) C none) (h':=(hh.push {cls:=.type "tuple",data:=.seq us.toArray}).push (newX C hh.objs.size)) (t':=t)
  (λb u q=>Heap.get?_push_of_some _ q) (Nat.le_of_eq (Heap.size_push _ _)) (xo_ok ⟨_,_,⟨_,rfl⟩,e2⟩)
 have r2:Vals (V.ref (hh.objs.size+1)::vs) (Value.ref (hh.objs.size+1)::us):=.cons rfl r;have hl:(Value.ref (hh.objs.size+1)::us).length=ps.length:=by
  have e:=r2.length;rw [F.len _ _ _ _ hq] at e;exact e.symm
 refine call_init I.kIn M.o M.init M.fn (by rw [<- r.length]; exact hz) λA' eA=>?_
 subst eA;have bd:=hb _ (Value.ref (hh.objs.size+1)::us) I2.kIn (by rw [List.append_nil]; exact hl)
 rw [List.append_nil] at bd;refine codeAny_mono (F.run _ X.stack _ _ ⟨Value.ref (hh.objs.size+1)::us,[]⟩ (Value.ref (hh.objs.size+1)::us) _ _ E (hr.make C us []) (I2.env0.make C us []) bd r2 hq) λr s' hq'=>?_
 cases r with
 |error e=>exact hx pins σ _ _ e s' I2 hq'
 |ok fl=>
  cases fl with
  |ret u=>
   obtain ⟨v,H',I3,rv,ev,q3⟩:=I2.after hq';subst ev;exact ⟨rv,⟨V.ref (hh.objs.size+1),H',I3,rfl,q3⟩⟩
  |next=>exact False.elim hq'
  |brk=>exact False.elim hq'
  |cont=>exact False.elim hq'
theorem pe_mkx (M:FnI X.prog X.w X.K X.mg X.base k C ps sp) (hk:k+1<=k') (hr:Room k' X.A) (hg:Gl X x) (hm:X.mg x=some (.ref C)) (hx:yc (CXE X.prog X.w) X E)
  (ha:PA X (e::es) t) (hdb:(x == ("__debug__" : Str))=false:=by decide) (he:starEach (e::es) X.env=(false,eval e X.env)::starEach es X.env:=by rfl) (hpl:(backTo pos (starEach es X.env)).any (·.1)=false:=by rfl) :
  PE X (.Call (.Name x p) (e::es) [] pos) (tMkx C sp E t):=by
 intro pins s σ H Q I h;obtain ⟨f,fd,F,MX,bd⟩:=M.ex;refine wpAny_Call_Name_kw (ZM I hg hm ?_ hdb);refine callWith_K (h₀:=X.base) I.ok.mod.kin MX.kp (thn (ha pos pins s σ H _ I h) λus s1 ⟨vs,H1,I1,r,hz,q⟩=>⟨I1.kIn,?_⟩) he hpl
 exact run_mkx MX F (hr.mono hk) bd hx I1 r hz q
theorem upd_self {H:Hp} {a:Addr} {o:HO} (h:H a=some o):upd H a o=H:=by
 funext b
 unfold upd;split
 ·rename_i z; rw [z,h]
 ·rfl
theorem pe_base {pl:Sem Bool} (hg:Gl X x) (hm:X.mg x=some (.ref CK)) (rd:readsIn X.K CK (.type "type")=true) (fc:findCls X.K (.ref CK) (.type "type") "__init__"=some (.val (.builtin "ValueError.__init__")))
  (gs:specialIn X.K (.ref CK) "__getattribute__"=some (some (.builtin "type.__getattribute__"))) (ha:PA X (e::es) t) (hdb:(x == ("__debug__" : Str))=false:=by decide)
  (hst:starEach (e::es) X.env=(false,eval e X.env)::starEach es X.env:=by rfl) (hpl:(backTo pos (starEach es X.env)).any (·.1)=false:=by rfl)
  (ht:eval (.Call (.Attribute (.Name x p) "__init__" apos) (e::es) [] pos) X.env=(do
   let ov <- eval (.Name x p) X.env
   standAt apos.atName
   let (f,first) <- holding [ov] (getMethod ov "__init__" pl)
   callWith pos f first (backTo pos (starEach (e::es) X.env)) (backToKw pos (keywordEach [] X.env))):=by rfl) :
  PE X (.Call (.Attribute (.Name x p) "__init__" apos) (e::es) [] pos) (tBase X.K t):=by
 intro pins s σ H Q I h;refine methodCall_KW (pl:=pl) (ZM I hg hm ?_ hdb) ht;refine PySem.W.method_cls I.kIn gs (PySem.W.cls_value I.kIn rd fc rfl ?_);refine PyProof.Rows.callWith_builtin1 (thn (ha pos pins _ σ H _ (I.tok _) h) λus s1 ⟨vs,H1,I1,r,y,C,od,more,ev,hx,ho,hz,q⟩=>?_) hst hpl
 subst ev;cases r with
 |@cons _ u0 _ us' r0 r=>
  cases (show u0=Value.ref y from r0)
  obtain ⟨vs',sl,h0,he⟩:=(show zg X.prog X.w H1 s1.heap y (Xo y C od) from I1.hok y _ hx).1;obtain ⟨hh,g,d,tk,os⟩:=s1;obtain ⟨a0,rfl⟩:=h0;refine base_init I1.kIn ho he rfl rfl (by simp) (by rw [<- r.length]; exact hz) λh' keep ⟨v0,e2⟩=>⟨.non,H1,?_,rfl,q⟩
  have J:=I1.write (x:=y) (e:=y) (o:=Xo y C od) (h':=h') (t':=tk) (by rw [hx]; exact True.intro) (.inl rfl) keep ⟨_,e2⟩ (xo_ok ⟨_,sl,⟨v0,rfl⟩,e2⟩)
  rw [upd_self hx] at J;exact J
theorem Inv.dressed {a C d:Addr} {fs:List (Str × V)} {h':Heap} {tk':Nat} (I:Inv X pins σ H s) (hx:H a=some (Xo a C none)) (hd:s.heap.objs.size<=d)
  (h1:XoIs a C (some d) h') (h2:XdIs d fs h') (keep:∀ b o,b≠a->s.heap.get? b=some o->h'.get? b=some o):Inv X pins σ (upd (upd H d (Xd d fs)) a (Xo a C (some d))) {s with heap:=h',toks:=tk'}:=by
 have hdn:H d=none:=I.hok.fresh hd;have nda:d≠a:=λz=>by rw [z,hx] at hdn; cases hdn
 have nl:∀ b o,s.heap.get? b=some o->b≠d:=λb o q=>Nat.ne_of_lt (Nat.lt_of_lt_of_le (Heap.lt_size q) hd)
 have na:∀ b,H b=none->b≠a:=λb q z=>by rw [z,hx] at q; cases q
 have oth:∀ b u,H b=some u->(∀ φ,u≠.ext φ)->upd (upd H d (Xd d fs)) a (Xo a C (some d)) b=H b:=λb u q nu=>by
  rw [zV (λz=>by rw [z,hx] at q; exact nu _ (Option.some.inj q).symm),zV (λz=>by rw [z,hdn] at q; cases q)]
 refine I.un ⟨λb o q n _ _=>keep b o (na b n) q,λb o q n _ _=>⟨o.slots,keep b o (na b n) q⟩,λb o q n _=>by rw [zV (na b n),zV (nl b o q)]; exact n,λb o q _=>?_,
  λb xs q=>by rw [oth b _ q λφ z=>nomatch z]; exact q,λb o u q=>by rw [oth b _ q λφ z=>nomatch z]; exact q,λb ps q=>⟨#[],by rw [oth b _ q λφ z=>nomatch z]; simpa using q⟩⟩ λb u q=>?_
 ·by_cases z:b=a
  ·obtain ⟨vs,sl,_,e⟩:=h1;exact ⟨_,by rw [z]; exact e⟩
  ·exact ⟨o,keep b o z q⟩
 ·by_cases z:b=a
  ·subst z;rw [zb] at q;cases q
   exact xo_ok h1
  ·rw [zV z] at q;by_cases y:b=d
   ·subst y;rw [zb] at q;cases q
    exact xd_ok h2
   ·rw [zV y] at q;refine (I.hok b u q).stay (λc v hc r=>keep c v ?_ r) (λc r=>by rw [oth c _ r λφ z=>nomatch z]; exact r) λc xs r=>by rw [oth c _ r λφ z=>nomatch z]; exact r
    rcases hc with rfl|hc
    ·exact z
    ·rintro rfl;rw [hx] at hc;cases hc
theorem xd_put {h':Heap} {d:Addr} {fs:List (Str × V)} {mA:Str->Option Value} {f:Str} {y:V} {u:Value} (hn:h'.Ns1 d λg=>if g=f then some u else mA g) (r:∀ g,RelO (fs.lookup g) (mA g)) (wi:PySem.Within mA (fs.map (·.1))) (ry:RelV y u) :
  XdIs d (putF f y fs) h':=by
 refine ⟨_,hn,λg=>?_,λg hg=>?_⟩
 ·rw [Zb];by_cases q:g=f
  ·rw [if_pos q,if_pos q]; exact ry
  ·rw [if_neg q,if_neg q]; exact r g
 ·by_cases q:g=f
  ·rw [q]; exact (jz f y fs).1
  ·refine (jz f y fs).2 g (wi g λz=>hg ?_)
   show (if g=f then some u else mA g)=none
   rw [if_neg q]; exact z
variable {o value:Expr} {f:Str} {pos':Pos} {ta tv:TE}
theorem ps_xf (ha:PE X o ta) (hv:PE X value tv) (hs:swapsWith value (some (.Attribute o f pos')) pos.line X.env=pure false:=by rfl):PS X (.Assign [.Attribute o f pos'] value pos) (sXf X.K ta tv f):=by
 intro pins s σ H D I h;refine plainObj_wpAny_Assign_Attribute (thn (hv pins s σ H _ I h) λu s1 ⟨y,H1,I1,ry,q⟩=>thn (ha pins s1 σ H1 _ I1 q) λov s2 ⟨x,H2,I2,rx,a,C,ex,xc,n,q2⟩=>?_) hs
 subst ex;obtain rfl:ov=Value.ref a:=rx;rcases q2 with ⟨hx,q2⟩|⟨d,fs,hx,hd,hl,q2⟩
 ·obtain ⟨vs,sl,h0,e0⟩:=(show zg X.prog X.w H2 s2.heap a (Xo a C none) from I2.hok a _ hx).1;refine set_first I2.kIn e0 xc.ov xc.ob xc.sa n λh' tk' e1 e2 keep=>⟨σ,_,?_,q2 s2.heap.objs.size (I2.hok.fresh (Nat.le_refl _))⟩
  exact Kw.Inv.dressed I2 hx (Nat.le_refl _) ⟨vs,sl,h0,e1⟩ (xd_put (fs:=[]) e2 (λ_=>True.intro) (λg hg=>absurd rfl hg) ry) keep
 ·obtain ⟨vs,sl,h0,e0⟩:=(show zg X.prog X.w H2 s2.heap a (Xo a C (some d)) from I2.hok a _ hx).1;obtain ⟨mA,hn,r,wi⟩:=(show zg X.prog X.w H2 s2.heap d (Xd d fs) from I2.hok d _ hd).1;refine set_more I2.kIn e0 hn wi (by rw [List.length_map,sizeLine_eq]; omega) xc.ov xc.ob xc.sa n λh' tk' e1 sb=>⟨σ,_,?_,q2⟩
  have gi:=e1;obtain ⟨o',_,_,e2,_⟩:=gi;exact I2.write (x:=d) (e:=d) (h':=h') (t':=tk') (by rw [hd]; exact True.intro) (.inl rfl) (λb v hb z=>(sb.2 b hb).trans z) ⟨o',e2⟩ (xd_ok (xd_put e1 r wi ry))
end
noncomputable def xq (K:PySem.W.Frag) (C:Addr):Bool:=findIn K (.ref C) "__getattribute__" == some (some (.builtin "BaseException.__getattribute__")) && findIn K (.ref C) "__getattr__" == some none &&
 findIn K (.ref C) "__class__" == some (some (.builtin "object.__class__")) && specialIn K (.builtin "object.__class__") "__get__" == some (some (.builtin "getset_descriptor.__get__")) &&
 takesIn K (.builtin "object.__class__") == some true && mroIn K C (.type "object") == some true && mroIn K C (.type "BaseException") == some true
theorem xq_ok {K:PySem.W.Frag} {C:Addr} (h:xq K C=true):ExcQ K C:=by
 simp only [xq,Bool.and_eq_true,beq_iff_eq] at h;obtain ⟨⟨⟨⟨⟨⟨a,b⟩,c⟩,d⟩,e⟩,f⟩,g⟩:=h;exact ⟨a,b,c,d,e,f,g⟩
noncomputable def xcb (K:PySem.W.Frag) (C:Addr):Bool:=Yb K C && mroIn K C (.type "object") == some true && findIn K (.ref C) "__setattr__" == some (some (.builtin "object.__setattr__")) && hasDictIn K C
theorem xcb_ok {K:PySem.W.Frag} {C:Addr} (h:xcb K C=true):XCls K C:=by
 simp only [xcb,Bool.and_eq_true,beq_iff_eq] at h;obtain ⟨⟨⟨a,b⟩,c⟩,d⟩:=h;exact ⟨a,b,c,d⟩
noncomputable def chk1 (K:PySem.W.Frag) (CK:Addr) (C:Nat->Addr) (n m i:Nat):Bool:=xq K (C i) && keepIn K (.ref (C i)) && kitOne K (.ref (C i)) (.ref CK) == some true && kitOne K (.ref (C i)) (.type "ValueError") == some true &&
 ((List.range n).all λj=>kitOne K (.ref (C i)) (.ref (C j)) == some (decide (i=j))) && (if i < m then excIn K (C i) bmV "ValueError.__new__" else excO K (C i) && xcb K (C i))
noncomputable def chkN (K:PySem.W.Frag) (CK:Addr) (C:Nat->Addr) (n m:Nat):Bool:=(List.range n).all (chk1 K CK C n m)
structure Refs (K:PySem.W.Frag) (CK:Addr) (C:Nat->Addr) (n m:Nat):Prop where
 q:∀ i,i < n->ExcQ K (C i)
 kp:∀ i,i < n->keepIn K (.ref (C i))=true
 k:∀ i,i < n->kitOne K (.ref (C i)) (.ref CK)=some true
 v:∀ i,i < n->kitOne K (.ref (C i)) (.type "ValueError")=some true
 mm:∀ i j,i < n->j < n->kitOne K (.ref (C i)) (.ref (C j))=some (decide (i=j))
 x:∀ i,i < m->i < n->ExcC K (C i)
 o:∀ i,m<=i->i < n->excO K (C i)=true
 c:∀ i,m<=i->i < n->XCls K (C i)
theorem refs_ok {K:PySem.W.Frag} {CK:Addr} {C:Nat->Addr} {n m:Nat} (h:chkN K CK C n m=true):Refs K CK C n m:=by
 have g:∀ i,i < n->chk1 K CK C n m i=true:=λi hi=>List.all_eq_true.mp h i (List.mem_range.mpr hi)
 have g':∀ i,i < n->(((((xq K (C i)=true/\keepIn K (.ref (C i))=true)/\kitOne K (.ref (C i)) (.ref CK)=some true)/\kitOne K (.ref (C i)) (.type "ValueError")=some true)/\
   ((List.range n).all λj=>kitOne K (.ref (C i)) (.ref (C j)) == some (decide (i=j)))=true)/\(if i < m then excIn K (C i) bmV "ValueError.__new__" else excO K (C i) && xcb K (C i))=true):=λi hi=>by
  have z:=g i hi;simp only [chk1,Bool.and_eq_true,beq_iff_eq] at z;exact z
 refine ⟨λi hi=>xq_ok (g' i hi).1.1.1.1.1,λi hi=>(g' i hi).1.1.1.1.2,λi hi=>(g' i hi).1.1.1.2,λi hi=>(g' i hi).1.1.2,λi j hi hj=>?_,λi hm hi=>?_,λi hm hi=>?_,λi hm hi=>?_⟩
 ·exact beq_iff_eq.mp (List.all_eq_true.mp (g' i hi).1.2 j (List.mem_range.mpr hj))
 ·have z:=(g' i hi).2;rw [if_pos hm] at z;exact z
 ·have z:=(g' i hi).2;rw [if_neg (by omega),Bool.and_eq_true] at z
  exact z.1
 ·have z:=(g' i hi).2;rw [if_neg (by omega),Bool.and_eq_true] at z
  exact xcb_ok z.2
noncomputable def clsAt (l:List Addr) (n:Nat):Addr:=l.getD n 0
theorem dfi_mk {K:PySem.W.Frag} {C f:Addr} {qual:Str} {st:Stmt} {ps:List Str} {od an:Option Addr} {sl:Array (Option Value)} {oc kV dc pm cd ct:Value} (i:findIn K (.ref C) "__init__"=some (some (.ref f)))
  (t:typeIn K (.ref f)=some (.type "function")) (l:K.lookup f=some ⟨oc,od,.func (fnOf "__init__" qual (zK st) (zI st) (zD st) .none kV dc pm an cd ct),sl⟩) (q:codeIn K cd qual=true) (o:excO K C=true) (kp:keepIn K (.ref C)=true)
  (b:∀ us:List Value,us.length=ps.length->bindArgs (fnOf "__init__" qual (zK st) (zI st) (zD st) .none kV dc pm an cd ct) ⟨us,[]⟩=pure (ps.zip us)):DfI K C qual st ps:=
 ⟨⟨f,oc,od,kV,dc,pm,an,cd,ct,sl,l,q,⟨o,i,t,kp⟩,.all b⟩⟩
noncomputable def jQ (s:Stmt):Stmt:=match s with
 |.ClassDef _ _ _ b _ _ _ _ _ _ _=>b.headD (.Pass ⟨0,0,0,0⟩)
 |_=>.Pass ⟨0,0,0,0⟩
theorem same_of_but {H H':Hp} {x:Addr} {o:HO} (hx:H x=none) (b:But x (upd H x o) H'):Same H H':=λa u q=>by
 have nx:a≠x:=zL q hx;exact b a u nx (by rw [zV nx]; exact q)
theorem dressO {H:Hp} {x d:Addr} {o0:HO} (o1 o2:HO) (hx:H x=some o0) (hd:H d=none):∃ H',upd (upd H d o1) x o2=H'/\But x H H'/\H' x=some o2/\H' d=some o1:=by
 have nd:d≠x:=λz=>by rw [z,hx] at hd; cases hd
 exact ⟨_,rfl,λa o na q=>by rw [zV na,zV (zL q hd)]; exact q,zb,by rw [zV nd,zb]⟩
theorem putO {H0 H:Hp} {x d:Addr} {o0 o2:HO} (o3:HO) (h0:H0 d=none) (h1:H0 x=some o0) (b:But x H0 H) (hx:H x=some o2):∃ H',upd H d o3=H'/\But x H0 H'/\H' x=some o2/\H' d=some o3:=by
 have nd:x≠d:=λz=>by rw [z,h0] at h1; cases h1
 exact ⟨_,rfl,λa o na q=>by rw [zV (zL q h0)]; exact b a o na q,by rw [zV nd]; exact hx,zb⟩
noncomputable def XcIs (x C:Addr) (od:Option Addr) (h:Heap):Prop:=∃ (vs:Array Value) (sl:Array (Option Value)),h.get? x=some ⟨.ref C,od,.fields vs,sl⟩
noncomputable abbrev Xc (x C:Addr) (od:Option Addr):HO:=.ext (XcIs x C od)
theorem xc_ok {P:Program} {w:World} {H:Hp} {h:Heap} {x C:Addr} {od:Option Addr} (e:XcIs x C od h):zg P w H h x (Xc x C od):=by
 obtain ⟨vs,sl,b⟩:=id e;exact ⟨e,⟨_,b⟩,λ_ _ ⟨vs,sl,b⟩ k=>⟨vs,sl,k _ b⟩⟩
theorem xc_exc {h:Heap} {x C:Addr} {od:Option Addr} (e:XcIs x C od h):ExcIs x (.ref C) h:=by
 obtain ⟨vs,sl,b⟩:=e;exact ⟨_,vs,b,rfl,rfl⟩
noncomputable def ClsX (K:PySem.W.Frag) (C:Addr):Prop:=∀ h:Heap,K.In h->∃ bm N nm qn bs hdct sn sub ab col dd k0 k1 k2 k3 k5,h.get? C=some (excClassObj nm qn C N bs bm hdct sn sub ab col dd k0 k1 k2 k3 k5 "ValueError.__new__")/\OwnTail h bmV bm
theorem clsx_o {K:PySem.W.Frag} {C:Addr} (q:excO K C=true):ClsX K C:=λ_ X=>YL X q
theorem clsx_c {K:PySem.W.Frag} {C:Addr} (q:ExcC K C):ClsX K C:=λ_ X=>by
 obtain ⟨bm,N,nm,qn,bs,hdct,sn,sub,ab,col,dd,k0,k1,k2,k3,k5,_,hO,_,_,TL⟩:=exc_obj X q;exact ⟨bm,N,nm,qn,bs,hdct,sn,sub,ab,col,dd,k0,k1,k2,k3,k5,hO,TL⟩
theorem raise_made {M:Model} {A:Around} {E:Value->Shared->Prop} {s:Shared} {env:Env} {x:Sem Value} {Q:Flow->Shared->Prop} {K:PySem.W.Frag} (hh:A.handled=none)
  (h:wpAny M A x (λv s1=>∃ e C od a sl,v=.ref e/\K.In s1.heap/\ClsX K C/\s1.heap.get? e=some ⟨.ref C,od,.fields #[a,.none,.none,.none,.bool false,.none],sl⟩/\E (.ref e) s1) E s) :
  wpAny M A (raiseStmt env (some x) none) Q E s:=by
 unfold raiseStmt;refine wpAny_bind (wpAny_mono h (λv s1 h1=>?_) λ_ _ z=>z)
 obtain ⟨e,C,od,a,sl,rfl,kx,cx,he,hE⟩:=h1;obtain ⟨hp,g,d,tk,os⟩:=s1;obtain ⟨bm,N,nm,qn,bs,hdct,sn,sub,ab,col,dd,k0,k1,k2,k3,k5,hO,TL⟩:=cx hp kx;have hB:(Value.ref C::bm).contains (.type "BaseException")=true:=by rw [List.contains_cons,TL.hasType PySem.F.excBase_ValueError.hasBase,Bool.or_true]
 repeat (first
  |with_reducible refine wpAny_loadPart_at he ?_
  |with_reducible refine wpAny_loadPart_at hO ?_
  | (with_reducible refine wpAny_isSubtype_exc hO ?_; rw [hB])
  |wp_step)
 exact wpAny_raiseNew_none hh hE
section
variable {X:Cx} {E:XK} {e:Expr} {te:TE} {pos:Pos}
noncomputable def tRaiseX (K:PySem.W.Frag) (H0:Hp) (E:XK) (te:TE):TS:=λ_ σ H=>te σ H λv H1=>∃ x C od,v=.ref x/\H1 x=some (Xo x C od)/\H0 x=none/\ClsX K C/\E (.ref C) od (del H1 x)
theorem ps_raiseX (pl:Plain X) (L:Leaves X E) (hc:X.calm=true) (he:PE X e te):PS X (.Raise (some e) none pos) (tRaiseX X.K X.H₀ E te):=by
 intro pins s σ H D I h;rw [arm_exec_Raise];refine wpAny_bind (wpAny_standAt ?_);refine raise_made (K:=X.K) (I.ok.hd hc) (wpAny_bind (wpAny_mono (he pins s σ H _ I h) (λv s1 h1=>wpAny_bind (wpAny_standAt (wpAny_pure ?_))) λ_ _ z=>z))
 obtain ⟨y,H1,I1,r,x,C,od,rfl,hx,hx0,cx,q⟩:=h1;cases (show v=Value.ref x from r)
 obtain ⟨vs,sl,⟨a0,rfl⟩,hox⟩:=(show zg X.prog X.w H1 s1.heap x (Xo x C od) from I1.hok x _ hx).1;refine ⟨x,C,od,a0,sl,rfl,I1.kIn,cx,hox,?_⟩;have n0:X.s₀.heap.get? x=none:=by
  cases z:X.s₀.heap.get? x with
  |none=>rfl
  |some o=>
   have y:=I1.base.free x o z hx0 (by rw [pl.ex]; simp)
   rw [hx] at y;cases y
 have I2:=Kw.Inv.drop I1 hx;refine L _ _ λQ R hQ=>?_
 refine leave0 (bs:=hideAll s1.heap ([x]++frs X.stack)) (up:=X.outer) (by rw [I2.ok.frames,pl.stk]) pl.fr (λb o z=>of_hideAll _ z) (ZG pl I2 _) (hideAll_none _ (by simp)) hox rfl rfl rfl λh' nt=>hQ _ ?_
 have up:=nt.up;have F:Flown X (del H1 x) s1.heap h' [x]:=by
  refine ⟨λb o ho hs hn=>nt.st b o (hideAll_get _ ho λz=>(List.mem_append.mp z).elim hn hs),λb o ho hb=>up b o ho (zZ I2 hb ho),λb hb=>?_⟩
  cases List.mem_singleton.mp hb
  exact ⟨n0,Js⟩
 refine F.cxe pl I2 rfl rfl I2.bare ⟨n0,Js,?_⟩ q;obtain ⟨oe',vs',T',oT',ts',he',hc',hdc',hd',h0',h1',hnT',hTe',hT',hdT',h3'⟩:=nt.tr;refine ⟨oe',vs',_,T',oT',ts',he',hc',hdc',hd',h0',h1',?_,?_,hTe',hT',hdT',h3'⟩;all_goals
  cases z:s1.heap.get? T' with
  |none=>first|exact Y4 pl I2 z|exact yw I2.hok z
  |some o1=>
   have hmm:T'∈[x]++frs X.stack:=Classical.byContradiction λhmm=>by
    rw [hideAll_get _ z hmm] at hnT'; cases hnT'
   rcases List.mem_append.mp hmm with hm|hm
   ·exact absurd (List.mem_singleton.mp hm) hTe'
   ·obtain ⟨sl,ee⟩:=up T' o1 z (zZ I2 hm z);rw [ee] at hT';cases hT'
    exact absurd hdT' (zZ I2 hm z _)
noncomputable def rIsC (K:PySem.W.Frag):List V->Hp->VK->Prop:=λxs H Q=>∃ x C od c b,xs=[.ref x,c]/\((∃ T,c=.ty T)\/∃ C',c=.ref C')/\H x=some (Xc x C od)/\ExcQ K C/\kitOne K (.ref C) (valC c)=some b/\Q (.bl b) H
theorem jK {K:PySem.W.Frag} (hK:X.K=K):yx X (.builtin "isinstance") (rIsC K):=by
 subst hK;intro pins s σ H xs us Q I r h;obtain ⟨x,C,od,c,b,rfl,hc,hx,eq,e,q⟩:=h;obtain ⟨u,w',rfl,rx,rc⟩:=vals2 r;cases (show u=Value.ref x from rx)
 have ec:w'=valC c:=by
  rcases hc with ⟨T,rfl⟩|⟨C',rfl⟩
  ·exact rc
  ·exact rc
 subst ec;have ok:=xc_exc (show zg X.prog X.w H s.heap x (Xc x C od) from I.hok x _ hx).1;exact kia_one (kitx_exc eq) I.kIn ok e (λz=>nomatch z) λtk=>⟨.bl b,H,I.tok _,rfl,q⟩
noncomputable def rIsCT (K:PySem.W.Frag):List V->Hp->VK->Prop:=λxs H Q=>∃ x C od p,∃ Cs:List Addr,∃ b,xs=[.ref x,.ref p]/\H x=some (Xc x C od)/\SqT K H p (Cs.map V.ref)/\ExcQ K C/\kitAny K (.ref C) (Cs.map Value.ref)=some b/\Q (.bl b) H
theorem call_isinstCT {K:PySem.W.Frag} (hK:X.K=K):yx X (.builtin "isinstance") (rIsCT K):=by
 subst hK;intro pins s σ H xs us Q I r h;obtain ⟨x,C,od,p,Cs,b,rfl,hx,hp,eq,e,q⟩:=h;obtain ⟨u,w',rfl,rx,rc⟩:=vals2 r;cases (show u=Value.ref x from rx)
 cases (show w'=Value.ref p from rc)
 have ok:=xc_exc (show zg X.prog X.w H s.heap x (Xc x C od) from I.hok x _ hx).1;obtain ⟨its,r',pl,hz⟩:=I.tuple hp;have ei:its=Cs.map Value.ref:=by
  clear e pl hz hp r;induction Cs generalizing its with
  |nil=>cases r'; rfl
  |cons c cs ih=>
   cases r' with
   |cons a b=>exact congr (congrArg _ (show _=Value.ref c from a)) (ih _ b)
 subst ei;obtain ⟨⟨oc,od',oda,osl⟩,ho,hcl,n,hd⟩:=pl;simp only at hcl hd;subst hcl hd;exact PySem.W.kia_tup (kitx_exc eq) I.kIn ok ho e (λz=>nomatch z) λtk=>⟨.bl b,H,I.tok _,rfl,q⟩
variable {o:Expr} {f:Str} {ta:TE}
noncomputable def tXcf (K:PySem.W.Frag) (ta:TE) (f:Str):TE:=λσ H Q=>ta σ H λx H1=>∃ a C d fs v,x=.ref a/\H1 a=some (Xc a C (some d))/\H1 d=some (Xd d fs)/\ExcQ K C/\XCls K C/\yB K C f/\fs.lookup f=some v/\Q v H1
theorem pe_xcf (he:PE X o ta) (hb:attributeBase o f X.env (eval o X.env)=eval o X.env:=by rfl):PE X (.Attribute o f pos) (tXcf X.K ta f):=by
 intro pins s σ H Q I h;refine attr_of hb (thn (he pins s σ H _ I h) λu s1 zz=>?_)
 obtain ⟨x,H1,I1,rx,a,C,d,fs,v,ex,hx,hd,eq,xc,n,l,q⟩:=zz;subst ex;obtain rfl:u=Value.ref a:=rx;obtain ⟨vs,sl,e0⟩:=(show zg X.prog X.w H1 s1.heap a (Xc a C (some d)) from I1.hok a _ hx).1;obtain ⟨mA,hn,r,wi⟩:=(show zg X.prog X.w H1 s1.heap d (Xd d fs) from I1.hok d _ hd).1;obtain ⟨od,e1,e2⟩:=look_ns1 (name:=f) hn;obtain ⟨u,hu,ru⟩:=RelO.some_of (v:=v) (o:=mA f) (by rw [<- l]; exact r f)
 have J:InstAt s1.heap a ⟨.ref C,some d,.fields vs,sl⟩ C (some od):=⟨e0,rfl,rfl,e1⟩;exact exc_fld I1.kIn J eq (PySem.W.findObj_own xc.hd n rfl (by rw [e2,hu])) (handed_of ru) ⟨v,H1,I1.tok _,ru,q⟩
theorem pe_xcfK {K:PySem.W.Frag} (hK:X.K=K) (he:PE X o ta) (hb:attributeBase o f X.env (eval o X.env)=eval o X.env:=by rfl):PE X (.Attribute o f pos) (tXcf K ta f):=by
 subst hK;exact pe_xcf he hb
end
noncomputable abbrev Cx.cat (X:Cx) (i4:List (Addr × Obj)) (E0:Value->Shared->Prop):Cx:={X with pn:=X.pn++i4,xe:=E0}
section
variable {X:Cx} {pins pins':List (Addr × Obj)} {σ:L2.St} {H:Hp} {s:Shared} {E0:Value->Shared->Prop}
theorem Inv.cat (I:Inv X pins σ H s):Inv (Cx.cat X pins E0) [] σ H s:=by
 obtain ⟨ok,r1,r2,r3,r4,r5,r6,r7,r8,r9,d9⟩:=I;obtain ⟨a1,a2,a3,a4,a5,a6,a7,a8,a9,gG,gH,gI,gJ,gK,gL,gM,gO,gP⟩:=ok;exact ⟨⟨a1,a2,a3,a4,a5,a6,a7,a8,a9,gG,gH,gI,gJ,gK,gL,gM,gO,gP⟩,r1,r2,r3,r4,r5,r6,r7,λp hp=>r8 p (by rw [List.append_nil] at hp; exact hp),r9,d9⟩
theorem Inv.uncat (I:Inv (Cx.cat X pins E0) pins' σ H s):Inv X pins σ H s:=by
 obtain ⟨ok,r1,r2,r3,r4,r5,r6,r7,r8,r9,d9⟩:=I;obtain ⟨a1,a2,a3,a4,a5,a6,a7,a8,a9,gG,gH,gI,gJ,gK,gL,gM,gO,gP⟩:=ok;exact ⟨⟨a1,a2,a3,a4,a5,a6,a7,a8,a9,gG,gH,gI,gJ,gK,gL,gM,gO,gP⟩,r1,r2,r3,r4,r5,r6,r7,λp hp=>r8 p (List.mem_append_left _ hp),r9,d9⟩
theorem SP.uncat {D:Ends} {f:Flow} (h:SP (Cx.cat X pins E0) [] D f s):SP X pins D f s:=by
 cases f with
 |next=>obtain ⟨σ',H',I,q⟩:=h; exact ⟨σ',H',Kw.Inv.uncat I,q⟩
 |brk=>obtain ⟨σ',H',I,q⟩:=h; exact ⟨σ',H',Kw.Inv.uncat I,q⟩
 |cont=>obtain ⟨σ',H',I,q⟩:=h; exact ⟨σ',H',Kw.Inv.uncat I,q⟩
 |ret u=>obtain ⟨v,σ',H',I,r,q⟩:=h; exact ⟨v,σ',H',Kw.Inv.uncat I,r,q⟩
end
noncomputable abbrev blank (X:Cx):L2.St:=List.replicate X.N.length none
structure AtH (X:Cx) (pins:List (Addr × Obj)) (H:Hp) (s:Shared) (hc:Heap) (x CA:Addr) (od:Option Addr):Prop where
 inv:Inv X pins (blank X) H s
 fly:FlyAt H hc s.heap x (.ref CA) od
 pn:∀ p∈X.pn++pins,∃ o,hc.get? p.1=some o
 old:∀ b o,X.s₀.heap.get? b=some o->∃ o',hc.get? b=some o'
 thr:∀ b o,hc.get? b=some o->∃ o',s.heap.get? b=some o'
section
variable {X:Cx} {pins:List (Addr × Obj)} {H:Hp} {s:Shared} {hc:Heap} {x CA:Addr} {od:Option Addr}
theorem AtH.young (a:AtH X pins H s hc x CA od) {b:Addr} (e:hc.get? b=none):X.s₀.heap.get? b=none:=by
 cases q:X.s₀.heap.get? b with
 |none=>rfl
 |some o=>
  obtain ⟨o',z⟩:=a.old b o q;rw [e] at z;cases z
theorem AtH.go {G:Prop} (pl:Plain X) (hcell:X.env.cells=[]) (a:AtH X pins H s hc x CA od)
  (step:∀ (bs:Heap) (a0:Value),bs.StaysIn s.heap->s.heap.FunFrames bs (X.env::X.outer)->bs.get? x=none->TrD s.heap bs x (.ref CA) od a0 .none->(∀ h',Noted bs (X.env::X.outer) x (.ref CA) od a0 .none s.heap h'->AtH X pins H {s with heap:=h'} hc x CA od)->G):G:=by
 obtain ⟨I,⟨new,free,oe,vs,a0,T,oT,ts,he,hcl,hdc,hd,h0,h1,hT0,hTf,hTx,hT,hdT,h3⟩,pn,old,thr⟩:=id a;have n0:=a.young new;have nT:=a.young hT0;refine step (hideAll s.heap ([x,T]++frs X.stack)) a0 (λb o z=>of_hideAll _ z) (ZG pl I _) (hideAll_none _ (by simp))
  ⟨oe,vs,T,oT,ts,he,hcl,hdc,hd,h0,h1,hideAll_none _ (by simp),hTx,hT,hdT,h3⟩ λh' nt=>?_
 have up:=nt.up;have F:Flown X H s.heap h' [x,T]:=by
  refine ⟨λb o ho hs hn=>nt.st b o (hideAll_get _ ho λz=>(List.mem_append.mp z).elim hn hs),λb o ho hb=>up b o ho (zZ I hb ho),λb hb=>?_⟩
  simp only [List.mem_cons,List.not_mem_nil,or_false] at hb;rcases hb with rfl|rfl
  ·exact ⟨n0,free⟩
  ·exact ⟨nT,hTf⟩
 have np:∀ p∈X.pn++pins,p.1∉[x,T]:=λp hp z=>by
  obtain ⟨o,y⟩:=pn p hp;simp only [List.mem_cons,List.not_mem_nil,or_false] at z;rcases z with z|z
  ·rw [z,new] at y; cases y
  ·rw [z,hT0] at y; cases y
 refine ⟨F.inv pl hcell I np rfl rfl I.bare,⟨new,free,?_⟩,pn,old,λb o y=>?_⟩
 ·obtain ⟨oe',vs',T',oT',ts',he',hc',hdc',hd',h0',h1',hnT',hTe',hT',hdT',h3'⟩:=nt.tr;have both:hc.get? T'=none/\H T'=none:=by
   cases z:s.heap.get? T' with
   |none=>
    refine ⟨?_,yw I.hok z⟩;cases y:hc.get? T' with
    |none=>rfl
    |some o=>
     obtain ⟨o',w'⟩:=thr T' o y;rw [z] at w';cases w'
   |some o1=>
    have hm:T'∈[x,T]++frs X.stack:=Classical.byContradiction λhm=>by
     rw [hideAll_get _ z hm] at hnT'; cases hnT'
    rcases List.mem_append.mp hm with hm|hm
    ·simp only [List.mem_cons,List.not_mem_nil,or_false] at hm;rcases hm with rfl|rfl
     ·exact absurd rfl hTe'
     ·exact ⟨hT0,hTf⟩
    ·obtain ⟨sl,ee⟩:=up T' o1 z (zZ I hm z);rw [ee] at hT';cases hT'
     exact absurd hdT' (zZ I hm z _)
  exact ⟨oe',vs',a0,T',oT',ts',he',hc',hdc',hd',h0',h1',both.1,both.2,hTe',hT',hdT',h3'⟩
 ·obtain ⟨o',y'⟩:=thr b o y;by_cases hb:b∈frs X.stack
  ·obtain ⟨sl,ee⟩:=up b o' y' (zZ I hb y');exact ⟨_,ee⟩
  ·refine ⟨o',nt.st b o' (hideAll_get _ y' λz=>?_)⟩
   rcases List.mem_append.mp z with z|z
   ·simp only [List.mem_cons,List.not_mem_nil,or_false] at z;rcases z with rfl|rfl
    ·rw [new] at y; cases y
    ·rw [hT0] at y; cases y
   ·exact hb z
theorem AtH.led {R:Value->Shared->Prop} {Q:Unit->Shared->Prop} {A:Around} (pl:Plain X) (hcell:X.env.cells=[]) (a:AtH X pins H s hc x CA od) (q:∀ h',AtH X pins H {s with heap:=h'} hc x CA od->Q () {s with heap:=h'}) :
  wpAny (model X.prog X.w) A (setFlight (.ref x) none) Q R s:=
 a.go pl hcell λbs a0 st fr nx tr k=>JV st fr tr λh' n=>q h' (k h' n)
theorem AtH.noted {R:Value->Shared->Prop} {Q:Unit->Shared->Prop} (pl:Plain X) (hcell:X.env.cells=[]) (a:AtH X pins H s hc x CA od) (q:∀ h',AtH X pins H {s with heap:=h'} hc x CA od->Q () {s with heap:=h'}) :
  wpAny (model X.prog X.w) X.A (noteFrame (.ref x) X.env) (λ_ s'=>wpAny (model X.prog X.w) X.A (setFlight (.ref x) none) Q R s') R s:=
 a.go pl hcell λbs a0 st fr nx tr k=>look1 (up:=X.outer) (by rw [a.inv.ok.frames,pl.stk]) pl.fr st fr nx tr λh1 n1=>JV n1.st n1.fr n1.tr λh2 n2=>q h2 (k h2 (n1.trans n2))
end
theorem YO {M:Model} {A:Around} {R:Value->Shared->Prop} {Q:Bool->Shared->Prop} {K:PySem.W.Frag} {s:Shared} {x C CK:Addr} {oe:Obj} {b:Bool} (X:K.In s.heap) (he:s.heap.get? x=some oe) (hc:oe.cls=.ref C) (hK:ClsX K CK)
  (hsub:Looks M s.heap (isSubtype (.ref C) (.ref CK)) b) (hq:Q b s):wpAny M A (excMatches (.ref x) (.ref CK)) Q R s:=by
 obtain ⟨hp,gg,dd,tt,oo⟩:=s;obtain ⟨bm,N,nm,qn,bs,hdct,sn,sub,ab,col,dct,k0,k1,k2,k3,k5,hO,TL⟩:=hK hp X;have hB:(Value.ref CK::bm).contains (.type "BaseException")=true:=by
  rw [List.contains_cons,TL.hasType PySem.F.excBase_ValueError.hasBase,Bool.or_true]
 have nt:=tc_notTuple;unfold excMatches
 repeat (first
  | (with_reducible refine hsub.at ?_)
  | (with_reducible refine wpAny_loadPart_at he ?_; rw [hc])
  |with_reducible refine wpAny_loadPart_at hO ?_
  | (with_reducible refine wpAny_isSubtype_exc hO ?_; rw [hB])
  |wp_step)
 cases b
 ·repeat (first|wp_step)
  exact hq
 ·repeat (first|wp_step)
  exact hq
section
variable {X:Cx} {pins:List (Addr × Obj)} {σ:L2.St} {H:Hp} {s:Shared}
theorem Inv.unname (pl:Plain X) (hcell:X.env.cells=[]) (hN:X.N.Nodup) {j:Nat} {n:Str} (hj:X.N[j]?=some n) (I:Inv X pins σ H s) {h':Heap} {m:Str->Option Value} {v:Option Value} {tk:Nat} (hm:s.heap.Ns X.env.locals m)
  (hl:∀ (i:Nat) (x:Str) (v:V),X.N[i]?=some x->σ[i]?=some (some v)->Vis X.env.scope x->∃ u,RelV v u/\Look X.env s.heap m x u)
  (hn:h'.Ns X.env.locals (λy=>if y=n then v else m y)) (sb:Heap.SameBut X.env.locals s.heap h'):Inv X pins (σ.set j none) H {s with heap:=h',toks:=tk}:=by
 have kp:∀ b,b≠X.env.locals->h'.get? b=s.heap.get? b:=λb hb=>sb.2 b hb
 have old:∀ b o,X.s₀.heap.get? b=some o->b≠X.env.locals:=λb o q z=>by
  subst z;exact absurd (Heap.lt_size q) (Nat.not_lt.mpr I.ok.above)
 refine ⟨I.ok,I.os,I.bare,⟨λb o q n a c=>?_,λb o q n a c=>?_,I.base.free,λb o q c=>?_,I.base.tups,I.base.frzs,I.base.tbls⟩,⟨_,hn,λi x v a b c=>?_⟩,λx c z=>?_,I.free,I.freeC,λp hp=>?_,λa o e=>?_,by rw [List.length_set]; exact I.len⟩
 ·exact (kp b (old b o q)).trans (I.base.keep b o q n a c)
 ·obtain ⟨sl,z⟩:=I.base.slot b o q n a c;exact ⟨sl,(kp b (old b o q)).trans z⟩
 ·obtain ⟨o',z⟩:=I.base.there b o q c;exact ⟨o',(kp b (old b o q)).trans z⟩
 ·have hij:j≠i:=λz=>by
   subst z;rw [List.getElem?_set] at b;simp at b
  rw [List.getElem?_set_ne hij] at b;obtain ⟨u,r,lk⟩:=hl i x v a b c;refine ⟨u,r,?_⟩;rcases lk with ⟨k1,k2⟩|⟨_,c',lk,_⟩
  ·refine .inl ⟨k1,?_⟩;show (if x=n then _ else m x)=some u
   rw [if_neg λz=>hij (Jp hN hj (by rw [a,z]))]
   exact k2
  ·rw [hcell] at lk;cases lk
 ·rw [hcell] at z;cases z
 ·obtain ⟨a,b,c,d,e⟩:=I.pin p hp;exact ⟨(kp _ c).trans a,b,c,d,e⟩
 ·refine (I.hok a o e).stay (λb u hb ho=>?_) (λ_ z=>z) λ_ _ z=>z
  have nb:b≠X.env.locals:=λz=>by
   subst z;rcases hb with q|q
   ·rw [<- q,I.free] at e; cases e
   ·rw [I.free] at q; cases q
  exact (kp b nb).trans ho
end
noncomputable def PH (X:Cx) (hs:List ExceptHandler) (t:Ends->Addr->Option Addr->Hp->Prop):Prop:=
 ∀ (pins:List (Addr × Obj)) (s:Shared) (H:Hp) (hc:Heap) (x CA:Addr) (od:Option Addr) (D:Ends),AtH X pins H s hc x CA od->t D CA od H->wpAny (model X.prog X.w) X.A (handleBy (.ref x) X.env hs) (SP X pins D) X.xe s
noncomputable def tHnil:Ends->Addr->Option Addr->Hp->Prop:=λ_ _ _ _=>False
noncomputable def tHas (K:PySem.W.Frag) (N:List Str) (CK:Addr) (j:Nat) (ts:TS) (tr:Ends->Addr->Option Addr->Hp->Prop):Ends->Addr->Option Addr->Hp->Prop:=λD CA od H=>
 (subIn K (.ref CA) (.ref CK)=some true/\∀ x,H x=none->ts {nx:=λσ H'=>D.nx (σ.set j none) H',rt:=D.rt} ((List.replicate N.length none).set j (some (.ref x))) (upd H x (Xc x CA od)))\/
 (subIn K (.ref CA) (.ref CK)=some false/\tr D CA od H)
section
variable {X:Cx} {j:Nat} {n xK:Str} {CK:Addr} {ts:TS} {b₀:Stmt} {suite:List Stmt} {kp hpos pos:Pos} {rest:List ExceptHandler} {tr:Ends->Addr->Option Addr->Hp->Prop}
theorem ph_nil:PH X [] tHnil:=λ_ _ _ _ _ _ _ _ _ h=>h.elim
theorem ph_as (pl:Plain X) (hcell:X.env.cells=[]) (hN:X.N.Nodup) (hj:X.N[j]?=some n) (hn:X.env.scope.names.lookup n=some .local) (hgK:Gl X xK) (hmK:X.mg xK=some (.ref CK)) (hCK:ClsX X.K CK)
  (hs:∀ x,PSs (sut X x) (b₀::suite) ts) (hr:PH X rest tr) (hfn:X.fn n=true:=by rfl) (hdK:(xK == ("__debug__" : Str))=false:=by decide)
  (hkc:(X.env.scope.kind == .class || (X.env.scope.kind == .module && X.env.locals != X.env.globals))=false:=by rfl) (hkn:X.env.kindOf n=some .local:=by rfl) :
  PH X (.ExceptHandler (some (.Name xK kp)) (some n) (b₀::suite) hpos::rest) (tHas X.K X.N CK j ts tr):=by
 intro pins s H hc x CA od D a h;obtain ⟨o5,ho5,hc5⟩:∃ o,s.heap.get? x=some o/\o.cls=.ref CA:=by
  obtain ⟨oe,_,_,_,_,_,z1,z2,_⟩:=a.fly.tr;exact ⟨oe,z1,z2⟩
 refine wpAny_handleBy_cons (codeAny_handlers_test (ZM (X:=sut X x) (Kw.Inv.sut a.inv x) hgK hmK ?_ hdK)) (by intro z; cases z)
 rcases h with ⟨hsub,hq⟩|⟨hsub,hq⟩
 ·refine YO (K:=X.K) a.inv.kIn ho5 hc5 hCK (PySem.W.looks_subIn a.inv.kIn hsub) ?_;refine codeAny_handlers_suite_as ?_;refine a.led pl hcell λh6 a6=>?_
  have I6:=a6.inv;have n0:=a6.young a6.fly.new;obtain ⟨o6,v6,_,_,_,_,ho6,hc6,hdc6,hd6,_⟩:=a6.fly.tr;have free:=a6.fly.free;have hxL:x≠X.env.locals:=λz=>by
   obtain ⟨m,⟨o,es',ep,e1,e2,_⟩,_⟩:=I6.loc;rw [<- z] at e1;have gi:h6.get? x=some o:=e1;have qy:h6.get? x=some o6:=ho6;rw [qy] at gi;cases gi
   rw [hd6] at e2;cases e2
  have ok:XcIs x CA od h6:=by
   obtain ⟨c6,d6,da6,qz⟩:=o6;simp only at hc6 hdc6 hd6;subst hc6 hdc6 hd6;exact ⟨v6,qz,ho6⟩
  have I7:Inv X pins (blank X) (upd H x (Xc x CA od)) {s with heap:=h6}:=Kw.Inv.adopt (λy c z=>by rw [hcell] at z; cases z) I6 n0 free hxL (λp hp z=>by
   obtain ⟨o,y⟩:=a6.pn p hp;rw [z,a6.fly.new] at y
   cases y) (xc_ok ok)
  refine Zf (X:=sut X x) (Kw.Inv.sut I7 x) hN hj (.inl hn) (v:=.ref x) rfl (λs8 I8=>?_) (.inl hfn)
  refine wpAny_mono (hs x pins s8 _ _ _ I8 (hq x free)) (λf9 s9 h9=>?_) λ_ _ z=>z.elim
  cases f9 with
  |ret u=>
   obtain ⟨v,σ9,H9,I9,r9,q9⟩:=h9;have J9:=Kw.Inv.unsut a.inv.ok I9;obtain ⟨m,hn9,_⟩:=J9.loc;exact wpAny_nameGoes hkn hn9 hkc λol T7 gS sb=>⟨v,_,H9,Kw.Inv.forget pl hcell J9 gS sb,r9,q9⟩
  |next=>
   obtain ⟨σ9,H9,I9,q9⟩:=h9;have J9:=Kw.Inv.unsut a.inv.ok I9;obtain ⟨m,hn9,gT⟩:=J9.loc;exact wpAny_nameGoes_keeps hkn hn9 hkc λol T8 gS sb=>⟨_,H9,Kw.Inv.unname pl hcell hN hj J9 hn9 gT gS sb,q9⟩
  |brk=>
   obtain ⟨_,_,_,z⟩:=h9;exact False.elim z
  |cont=>
   obtain ⟨_,_,_,z⟩:=h9;exact False.elim z
 ·refine YO (K:=X.K) a.inv.kIn ho5 hc5 hCK (PySem.W.looks_subIn a.inv.kIn hsub) ?_;exact hr pins s H hc x CA od D a hq
variable {body:List Stmt} {tb:XK->TS} {th:Ends->Addr->Option Addr->Hp->Prop} {h₀:ExceptHandler} {hs:List ExceptHandler}
noncomputable def tTryG (tb:XK->TS) (th:Ends->Addr->Option Addr->Hp->Prop):TS:=λD σ H=>tb (λC od H2=>∃ CA,C=.ref CA/\th D CA od H2) D σ H
theorem ps_tryG (pl:Plain X) (hcell:X.env.cells=[]) (hb:∀ (E:XK) (i4:List (Addr × Obj)) (E0:Value->Shared->Prop),yc (CXE X.prog X.w) (Cx.cat X i4 E0) E->PSs (Cx.cat X i4 E0) body (tb E)) (hh:PH X (h₀::hs) th) :
  PS X (.Try body (h₀::hs) [] [] pos) (tTryG tb th):=by
 intro pins s σ H D I h;refine wpAny_Try_except ?_;have pass:yc (CXE X.prog X.w) (Cx.cat X pins λe s'=>∃ hc x CA od H2,e=.ref x/\AtH X pins H2 s' hc x CA od/\th D CA od H2) (λC od H2=>∃ CA,C=.ref CA/\th D CA od H2):=by
  intro pins' σ' H' s1 e s2 I1 Ki;obtain ⟨x,C,od,H2,rfl,os,bare,un,hok,fly,CA,rfl,hth⟩:=Ki;have I2:=I1.call' (ch:=[]) os un hok bare (λb hb=>absurd hb (by simp))
  have I3:=Kw.Inv.uncat I2;refine ⟨s1.heap,x,CA,od,H2,rfl,⟨I3.weak (by rw [List.length_replicate]; exact I3.len.symm) λi v z=>?_,fly,λp hp=>⟨_,((Kw.Inv.uncat I1).pin p hp).1⟩,λb o z=>(Kw.Inv.uncat I1).base.there b o z (by rw [pl.ex]; simp),λb o z=>un.there b o z (by simp)⟩,hth⟩
  rw [List.getElem?_replicate] at z;split at z<;>cases z
 refine wpAny_mono (hb _ pins _ pass [] s σ H D (Kw.Inv.cat I) h) (λf s' h'=>?_) λe s' h'=>?_
 ·have h2:=Kw.SP.uncat h';cases f with
  |next=>exact wpAny_execs_nil h2
  |ret u=>exact h2
  |brk=>exact h2
  |cont=>exact h2
 ·obtain ⟨hc,x,CA,od,H2,rfl,a,hth⟩:=h';exact a.noted pl hcell λh2 a2=>hh pins _ H2 hc x CA od D a2 hth
end
section
variable {X:Cx}
noncomputable def rEqNil (K:PySem.W.Frag):V->V->Hp->VK->Prop:=λx y H Q=>∃ a b xs,x=.ref a/\y=.ref b/\SqL K H a xs/\SqL K H b []/\Q (.bl xs.isEmpty) H
theorem op_eqNil {K:PySem.W.Frag} (hK:X.K=K) (hu:X.A.units+100 < cLine):OpR X (compareOp .Eq) (rEqNil K):=by
 subst hK;intro pins s σ H x y v u Q I rx ry h;obtain ⟨a,b,xs,rfl,rfl,ha,hb,q⟩:=h;cases xs with
 |nil=>exact op_eqD rfl hu pins s σ H _ _ v u Q I rx ry ⟨.list [],.list [],.lst ha .nil,.lst hb .nil,rfl,rfl,by decide,q⟩
 |cons z zs=>
  cases (show v=Value.ref a from rx)
  cases (show u=Value.ref b from ry)
  obtain ⟨its,r,pl,hz⟩:=I.list ha;obtain ⟨bP,r2,pl2,hz2⟩:=I.list hb;have l1:=r.length;have l2:=r2.length;have w':=SeqAt.RcAt.lists_lengths pl.isList pl2.isList (by simp at l1 l2 ⊢; omega) (show X.A.units < cLine by omega)
  exact w' X.prog X.w X.xe _ ⟨.bl false,H,I,rfl,q⟩
end
section
variable {K:PySem.W.Frag} {idx:List Nat} {tt:TT} {te:TE} {σ:L2.St} {H:Hp} {Q:VK}
theorem lc_filter {a:Addr} {xs:List V} (p:V->Bool) (hl:SqL K H a xs) (hz:xs.length<=sizeLine) (ht:∀ x∈xs,∀ Q':Bool->Hp->Prop,Q' (p x) H->tt (stIn (some x) idx σ) H Q') (he:∀ x∈xs,∀ Q':VK,Q' x H->te (stIn (some x) idx σ) H Q')
  (hd:∀ q,H q=none->Q (.ref q) (upd H q (.lst (xs.filter p)))):ZI (Itl K a) idx tt te σ Q H:=by
 refine ⟨λi m ys H'=>m=xs.length - i/\i<=xs.length/\H'=H/\ys=(xs.take i).filter p,⟨xs.length,by simp,Nat.zero_le _,rfl,by simp⟩,?_⟩
 rintro i m ys H' ⟨rfl,hi,rfl,rfl⟩;refine ⟨Nat.le_trans (List.length_filter_le _ _) (by rw [List.length_take]; omega),?_⟩
 by_cases hlt:i < xs.length
 ·refine .inr ⟨⟨xs,xs[i],hl,by simp [hlt]⟩,λy H' yl=>?_⟩
  obtain ⟨e,yl⟩:=yl;subst e;have hy:=yl xs hl;have hm:y∈xs:=List.mem_of_getElem? hy;have tk:=take_succ_filter p xs i y hy;refine ht y hm _ ?_;cases hp:p y with
  |true=>
   rw [hp] at tk;rw [if_pos rfl];exact he y hm _ ⟨xs.length - (i+1),by omega,rfl,hlt,rfl,by rw [tk]; rfl⟩
  |false=>
   rw [hp] at tk;rw [if_neg (by decide)]
   exact ⟨xs.length - (i+1),by omega,rfl,hlt,rfl,by rw [tk]; simp⟩
 ·have e:i=xs.length:=by omega
  subst e;refine .inl ⟨⟨xs,hl,Nat.le_refl _⟩,?_⟩;rw [List.take_length];exact hd
end
theorem atI_z {xs:List V} {j:Nat} {x:V} (h:xs[j]?=some x):atI xs (0+(j:Int))=some x:=by
 rw [Int.zero_add];exact zi h
section
variable {K:PySem.W.Frag} {te:TE} {tt:TT} {σ:L2.St} {H:Hp} {Q:VK} {idx:List Nat} {n:Nat}
end
section
variable {K:PySem.W.Frag} {H:Hp} {m n:Nat} {x:V} {b:Bod}
end
section
variable {B C:Int} {x y:Rat}
end
end Kw
namespace Kw
end Kw
namespace Kw
end Kw
namespace Kw
open PySem PySem.Spec PyProof.Rows L2
section
variable {X:Cx}
noncomputable def rBits:V->List V->Hp->VK->Prop:=λx vs H Q=>∃ i:Int,x=.int i/\vs=[]/\Q (.int ((Builtin.Int.intBits i:Nat):Int)) H
theorem mt_bits:MtR X "int.bit_length" rBits:=by
 intro pins s σ H x vs v us Q I rx rv h;obtain ⟨i,rfl,rfl,q⟩:=h;obtain ⟨t,rfl⟩:=rx;cases rv
 exact call_gives PySem.F.slot_int_bit_length (typeIs_int s i t) PySem.F.entry_int_bit_length (PySem.F.args_int_bit_length_1 _) (PySem.AutoIntG2.int_bit_length_int_0 i t) ⟨.int ((Builtin.Int.intBits i:Nat):Int),H,I.tok _,⟨_,rfl⟩,q⟩
end
noncomputable def J7:Sp:=λvs H Q _=>∃ a b:Int,vs=[.int a,.int b]/\Bd 4000 b/\Q (.int ((Int.gcd a b:Nat):Int)) H
theorem short_min {a b:Int} (h:Bd 4000 b):¬ (((Builtin.Int.intBits (if (if b < 0 then -b else b) < (if a < 0 then -a else a) then (if b < 0 then -b else b) else (if a < 0 then -a else a)):Nat):Int) > 4000):=by
 have l:Bd 4000 (if (if b < 0 then -b else b) < (if a < 0 then -a else a) then (if b < 0 then -b else b) else (if a < 0 then -a else a)):=by
  refine h.of_le ?_;split<;>split<;>(try split)<;>omega
 have:=l.bits;omega
theorem q_invp {y:Rat} (h:0 < y.num):(y⁻¹).num=((y.den:Nat):Int)/\(((y⁻¹).den:Nat):Int)=y.num:=by
 have e:y⁻¹=Rat.inv y:=rfl;rw [e];unfold Rat.inv;rw [dif_neg (by omega),dif_pos h]
 exact ⟨rfl,by show ((y.num.natAbs:Nat):Int)=y.num; omega⟩
theorem q_invn {y:Rat} (h:y.num < 0):(y⁻¹).num=-((y.den:Nat):Int)/\(((y⁻¹).den:Nat):Int)=-y.num:=by
 have e:y⁻¹=Rat.inv y:=rfl;rw [e];unfold Rat.inv;rw [dif_pos h];exact ⟨rfl,by show ((y.num.natAbs:Nat):Int)=-y.num; omega⟩
theorem FB.inv {n:Nat} {y:Rat} (h:FB n y) (y0:y≠0):FB n y⁻¹:=(FB.fit (q_num_ne y0) h.2 h.1).cast (q_inv y)
noncomputable def mixS (u v:Rat) (m w:Int) (s:Rat):Rat:=u * Rat.divInt (m * ((s.den:Nat):Int) - w * s.num) ((m+w) * ((s.den:Nat):Int))+v * Rat.divInt (w * (((s.den:Nat):Int)+s.num)) ((m+w) * ((s.den:Nat):Int))
theorem mixS_one (u v:Rat) (m w:Int):mixS u v m w ((1:Int):Rat)=mixQ u v m w:=by
 have e1:(((1:Int):Rat)).num=1:=rfl;have e2:(((((1:Int):Rat)).den:Nat):Int)=1:=rfl;unfold mixS mixQ;rw [e1,e2];simp only [Int.mul_one];rw [show w * (1+1)=2 * w by omega]
theorem Ja {m w:Int} {s:Rat} (hm:1<=m) (hw:1<=w):(m+w) * ((s.den:Nat):Int)≠0:=Int.mul_ne_zero (by omega) (q_ne s)
end Kw
namespace Kw
end Kw
namespace Kw
open PySem PySem.Spec PyProof.Rows L2
section
variable {S:V->Prop} {lt:V->V->Bool} {x y:V} {row:List V}
end
noncomputable def JU (C:Addr) (fs:List Str):Sp:=λvs H Q _=>∃ x ys,vs=.ref x::ys/\ys.length=fs.length/\H x=some (Xo x C none)/\∀ d H',d≠x->But x H H'->H' x=some (Xo x C (some d))->H' d=some (Xd d (fs.zip ys))->Q .non H'
section
variable {K:PySem.W.Frag} {H H':Hp} {c:Addr} {x:V} {k k':Int × Int} {xs ys:List V} {key:V->Int × Int}
end
section
variable {K:PySem.W.Frag} {H H':Hp} {b c:Addr} {x:V} {xs ys:List V}
end
theorem g_go {i:Nat} {x:V} {σ:L2.St} {H:Hp} {Q:L2.St->Hp->Prop} (h:Q (σ.set i (some x)) H):gName i x σ H Q:=h
section
variable {idx:List Nat} {tt:TT} {te:TE} {σ:L2.St} {H:Hp} {Q:VK}
end
theorem vals_ints:∀ {ns:List Int} {us:List Value},Vals (ns.map V.int) us->IntsAre us ns
 |[],[],_=>.nil
 |n::ns,u::us,h=>by
  cases h with
  |cons r t=>
   obtain ⟨k,rfl⟩:=r;exact .cons n k (vals_ints t)
theorem Jv:∀ (us:List Value) (k:Nat),(∀ (j:Nat) (v:Value),us[j]?=some v->∃ t,v=Value.int ((0:Int)+((k+j:Nat):Int) * 1) t)->Vals ((List.range' k us.length).map λi:Nat=>V.int (i:Int)) us
 |[],_,_=>.nil
 |u::us,k,h=>by
  obtain ⟨t,e⟩:=h 0 u rfl;have ih:=Jv us (k+1) λj v hj=>by
   obtain ⟨t',e'⟩:=h (j+1) v hj;exact ⟨t',by rw [e']; congr 2; omega⟩
  refine .cons ⟨t,?_⟩ ih;rw [e];congr 1;omega
section
variable {X:Cx}
noncomputable def tLR (ta:TA):TE:=λσ H Q=>ta σ H λvs H1=>∃ n:Nat,vs=[.int (n:Int)]/\n<=1000/\∀ l,H1 l=none->Q (.ref l) (upd H1 l (.lst ((List.range n).map λi:Nat=>V.int (i:Int))))
theorem pe_listRange {a:Expr} {ta:TA} {p p2 pos eS:Pos} (hc:X.calm=true) (hgl:Gl X "list") (hml:X.mg "list"=none) (hgr:Gl X "range") (hmr:X.mg "range"=none) (ha:PA X [a] ta)
  (hs:starEach [a] X.env=[(false,eval a X.env)]:=by rfl) (d8:starEach [.Call (.Name "range" p2) [a] [] eS] X.env=[(false,eval (.Call (.Name "range" p2) [a] [] eS) X.env)]:=by rfl) :
  PE X (.Call (.Name "list" p) [.Call (.Name "range" p2) [a] [] eS] [] pos) (tLR ta):=by
 intro pins s σ H Q I h;refine wpAny_Call_Name_kw (YG I hgl hml PyProof.Rows.Boot.«list» ?_);refine PyProof.Rows.callWith_type1 ?_ d8 rfl;rw [d8];show wpAny _ _ (spliced ((false,eval (.Call (.Name "range" p2) [a] [] eS) X.env)::[])) _ _ s;refine Calls.spliced_cons ?_;refine wpAny_Call_Name_kw (YG I hgr hmr boot_range ?_);refine PyProof.Rows.callWith_type1 (thn (ha eS pins s σ H _ I h) λus s1 ⟨vs,H1,I1,r1,n,e,hn,q⟩=>?_) hs rfl
 subst e;cases r1 with
 |cons r rr=>
  cases rr
  obtain ⟨t,rfl⟩:=r;refine call_range_1 ?_;refine Calls.spliced_nil ?_;have I2:Inv X pins σ H1 {s1 with heap:=s1.heap.push {cls:=.type "range",data:=.fields #[.int 0 s1.toks,.int (n:Int) t,.int 1 (s1.toks+1)]},toks:=s1.toks+1+1}:=I1.kept λb o e=>Heap.get?_push_of_some _ e
  refine call_list_range (n:=n) (I.ok.hd hc) (IsRange.new ..) (small_one (by decide) (by decide) (by omega) (by omega)) ?_ (Nat.le_trans hn (by decide)) λh' tk acc' c' kp e items=>?_
  ·rw [rangeSize_one];split<;>omega
  obtain ⟨i1,i2⟩:=items;have v:Vals ((List.range n).map λi:Nat=>V.int (i:Int)) acc'.toList:=by
   have z:=Jv acc'.toList 0 λj v hj=>by
    rw [Array.getElem?_toList] at hj;obtain ⟨t',e'⟩:=i2 j v hj;exact ⟨t',by rw [e',Nat.zero_add]⟩
   rw [Array.length_toList,i1] at z;rw [List.range_eq_range'];exact z
  refine ⟨.ref _,_,I2.laid (t':=tk) kp (Nat.le_refl _) ?_,rfl,q _ (I2.hok.fresh (Nat.le_refl _))⟩;refine ⟨?_,acc'.toList,c',v,?_⟩
  ·rw [List.length_map,List.length_range];exact Nat.le_trans hn (by decide)
  ·rw [e,Array.toArray_toList]
end
section
variable {X:Cx} {pos:Pos}
end
end Kw
namespace L2
open PySem PySem.Spec PyProof.Rows
section
variable {κ:Type} [DecidableEq κ]
noncomputable def valV (kvs:List (κ × V)) (k:κ):Option V:=(kvs.find? λkv=>decide (kv.1=k)).map (·.2)
noncomputable def putK (kvs:List (κ × V)) (k:κ) (v:V):List (κ × V):=
 if (kvs.any λkv=>decide (kv.1=k))=true then kvs.map (λkv=>if kv.1=k then (kv.1,v) else kv) else kvs++[(k,v)]
theorem YN {p:κ × V} {r:List (κ × V)} {k:κ} (e:p.1=k):valV (p::r) k=some p.2:=by simp [valV,List.find?_cons,e]
theorem YS {p:κ × V} {r:List (κ × V)} {k:κ} (e:¬ p.1=k):valV (p::r) k=valV r k:=by simp [valV,List.find?_cons,e]
theorem valV_any (k:κ):∀ kvs:List (κ × V),(kvs.any λkv=>decide (kv.1=k))=(valV kvs k).isSome
 |[]=>rfl
 |p::r=>by
  rw [List.any_cons];by_cases e:p.1=k
  ·simp only [YN e,decide_eq_true e,Bool.true_or,Option.isSome_some]
  ·rw [YS e,decide_eq_false e,Bool.false_or]; exact valV_any k r
theorem jg (kvs:List (κ × V)) (k:κ) (v:V):(putK kvs k v).length<=kvs.length+1:=by
 unfold putK;split
 ·rw [List.length_map]; omega
 ·rw [List.length_append,List.length_cons,List.length_nil]; omega
theorem RelO.isSome_eq {o:Option V} {u:Option Value} (r:RelO o u):o.isSome=u.isSome:=by
 cases o with
 |none=>cases u with
  |none=>rfl
  |some _=>exact (show False from r).elim
 |some _=>cases u with
  |none=>exact (show False from r).elim
  |some _=>rfl
theorem KV.val {kvs:List (κ × V)} {vs:List (κ × Value)} (r:KV kvs vs) (k:κ):RelO (valV kvs k) (valueAt vs k):=by
 unfold KV at r;induction r with
 |nil=>exact True.intro
 |@cons p q ps qs h t ih=>
  obtain ⟨h1,h2⟩:=h;by_cases e:p.1=k
  ·have e':q.1=k:=h1.symm.trans e;have b:valueAt (q::qs) k=some q.2:=by simp [valueAt,List.find?_cons,e']
   rw [YN e,b]; exact h2
  ·have e':¬ q.1=k:=λz=>e (h1.trans z)
   have b:valueAt (q::qs) k=valueAt qs k:=by simp [valueAt,List.find?_cons,e']
   rw [YS e,b]; exact ih
theorem KV.any {kvs:List (κ × V)} {vs:List (κ × Value)} (r:KV kvs vs) (k:κ):(kvs.any λkv=>decide (kv.1=k))=vs.any λkv=>decide (kv.1=k):=by
 unfold KV at r;induction r with
 |nil=>rfl
 |cons h t ih=>rw [List.any_cons,List.any_cons,ih,h.1]
theorem KV.repl {kvs:List (κ × V)} {vs:List (κ × Value)} (r:KV kvs vs) (k:κ) {y:V} {u:Value} (ry:RelV y u) :
  KV (kvs.map λkv=>if kv.1=k then (kv.1,y) else kv) (vs.map λkv=>if kv.1=k then (kv.1,u) else kv):=by
 unfold KV at r ⊢;induction r with
 |nil=>exact .nil
 |@cons p q ps qs h t ih=>
  rw [List.map_cons,List.map_cons];refine .cons ?_ ih;obtain ⟨h1,h2⟩:=h;by_cases e:p.1=k
  ·rw [if_pos e,if_pos (h1.symm.trans e)]; exact ⟨h1,ry⟩
  ·rw [if_neg e,if_neg (λz=>e (h1.trans z))]; exact ⟨h1,h2⟩
theorem KV.put {kvs:List (κ × V)} {vs:List (κ × Value)} (r:KV kvs vs) (k:κ) {y:V} {u:Value} (ry:RelV y u):KV (putK kvs k y) (stored vs k u):=by
 unfold putK stored;rw [r.any k];by_cases e:(vs.any λkv=>decide (kv.1=k))=true
 ·rw [if_pos e,if_pos e]; exact r.repl k ry
 ·rw [if_neg e,if_neg e]; exact Paired.snoc r ⟨rfl,ry⟩
theorem KV.length {kvs:List (κ × V)} {vs:List (κ × Value)} (r:KV kvs vs):kvs.length=vs.length:=Paired.length r
end
theorem kV_is {P:Program} {w:World} {k:Key} {u:Value} (r:RelV (kV k) u):(yF P w).is k u=true:=by
 cases k with
 |inl i=>obtain ⟨t,e⟩:=(show ∃ t,u=Value.int i t from r); subst e; exact mixKind_int P w i t
 |inr x=>obtain ⟨t,e⟩:=(show ∃ t,u=Value.str x t from r); subst e; exact JM P w x t
theorem items_are {P:Program} {w:World}:∀ {ks:List Key} {us:List Value},Vals (ks.map kV) us->ItemsAre (yF P w) ks us
 |[],_,r=>by rw [List.map_nil] at r; cases r; exact .nil
 |k::ks,_,r=>by
  rw [List.map_cons] at r;cases r with
  |cons h t=>exact .cons (kV_is h) (items_are t)
noncomputable abbrev KT (H:Hp):List (List Key × V)->List (List Key × Addr × Value)->Prop:=Paired λp q=>p.1=q.1/\H q.2.1=some (.tup (p.1.map kV))/\RelV p.2 q.2.2
theorem KT.val {H:Hp} {kvs:List (List Key × V)} {xs:List (List Key × Addr × Value)} (r:KT H kvs xs) (k:List Key):RelO (valV kvs k) ((atKey xs k).map (·.2)):=by
 induction r with
 |nil=>exact True.intro
 |@cons p q ps qs h t ih=>
  obtain ⟨h1,_,h2⟩:=h;by_cases e:p.1=k
  ·have e':q.1=k:=h1.symm.trans e;have b:atKey (q::qs) k=some q.2:=by simp [atKey,List.find?_cons,e']
   rw [YN e,b]; exact h2
  ·have e':¬ q.1=k:=λz=>e (h1.trans z)
   have b:atKey (q::qs) k=atKey qs k:=by simp [atKey,List.find?_cons,e']
   rw [YS e,b]; exact ih
theorem KT.repl {H:Hp} {kvs:List (List Key × V)} {xs:List (List Key × Addr × Value)} (r:KT H kvs xs) (k:List Key) {y:V} {u:Value} (ry:RelV y u) :
  KT H (kvs.map λkv=>if kv.1=k then (kv.1,y) else kv) (xs.map (putAt k u)):=by
 induction r with
 |nil=>exact .nil
 |@cons p q ps qs h t ih=>
  rw [List.map_cons,List.map_cons];refine .cons ?_ ih;obtain ⟨h1,h2,h3⟩:=h;unfold putAt;by_cases e:p.1=k
  ·rw [if_pos e,if_pos (h1.symm.trans e)]; exact ⟨h1,h2,ry⟩
  ·rw [if_neg e,if_neg (λz=>e (h1.trans z))]; exact ⟨h1,h2,h3⟩
theorem KT.put {H:Hp} {kvs:List (List Key × V)} {xs:List (List Key × Addr × Value)} (r:KT H kvs xs) (k:List Key) {b:Addr} {y:V} {u:Value} (hb:H b=some (.tup (k.map kV))) (ry:RelV y u) :
  KT H (putK kvs k y) (storedH xs k b u):=by
 have e:(kvs.any λkv=>decide (kv.1=k))=(atKey xs k).isSome:=by
  rw [valV_any,(r.val k).isSome_eq,Option.isSome_map]
 unfold putK storedH;rw [e];by_cases q:(atKey xs k).isSome=true
 ·rw [if_pos q,if_pos q]; exact r.repl k ry
 ·rw [if_neg q,if_neg q]; exact Paired.snoc r ⟨rfl,hb,ry⟩
theorem KT.keeps {H H':Hp} {kvs:List (List Key × V)} {xs:List (List Key × Addr × Value)} (r:KT H kvs xs) (ht:∀ b ys,H b=some (.tup ys)->H' b=some (.tup ys)):KT H' kvs xs:=
 Paired.mapP r λ_ _ z=>⟨z.1,ht _ _ z.2.1,z.2.2⟩
section
variable {P:Program} {w:World} {H:Hp} {h:Heap} {a:Addr}
theorem rd_of {u:HO} (ok:HOk P w H h) (e:Rd H a u):zg P w H h a u:=e.ok ok
theorem dk_rd {kvs:List (Key × V)} (ok:HOk P w H h) (e:Rd H a (.dK kvs)):kvs.length<=sizeLine/\(a == sysModules)=false/\∃ vs,KV kvs vs/\h.DictOf (yF P w) a vs:=
 show zg P w H h a (.dK kvs) from rd_of ok e
theorem dk_of {kvs:List (Key × V)} (ok:HOk P w H h) (e:H a=some (.dK kvs)):kvs.length<=sizeLine/\(a == sysModules)=false/\∃ vs,KV kvs vs/\h.DictOf (yF P w) a vs:=dk_rd ok (.inl e)
theorem key_of {ks:List Key} (ok:HOk P w H h) (e:H a=some (.tup (ks.map kV))):(tupleKind (yF P w)).is h ks a:=by
 obtain ⟨_,its,r,o,h1,h2,n,h3⟩:=(show zg P w H h a (.tup (ks.map kV)) from ok a _ e);exact ⟨o,its.toArray,n,h1,h2,h3,by simpa using items_are r⟩
theorem dt_rd {kvs:List (List Key × V)} (ok:HOk P w H h) (e:Rd H a (.dT kvs)):kvs.length<=sizeLine/\(a == sysModules)=false/\
  ∃ xs,KT H kvs xs/\h.DictOfH (tupleKind (yF P w)) a xs:=by
 obtain ⟨z,y,xs,r,o,es,ep,h1,h2,h3,h4,h5⟩:=(show zg P w H h a (.dT kvs) from rd_of ok e);refine ⟨z,y,xs,r,o,es,ep,h1,h2,h3,h4,λx hx=>?_,h5⟩
 have all:∀ {l:List (List Key × V)} {m:List (List Key × Addr × Value)},KT H l m->∀ x∈m,(tupleKind (yF P w)).is h x.1 x.2.1:=by
  intro l m q;induction q with
  |nil=>intro x hx; exact nomatch hx
  |@cons p q ps qs hq t ih=>
   intro x hx;rcases List.mem_cons.mp hx with e|hx
   ·subst e;exact key_of ok (by rw [<- hq.1]; exact hq.2.1)
   ·exact ih x hx
 exact all r x hx
theorem dt_of {kvs:List (List Key × V)} (ok:HOk P w H h) (e:H a=some (.dT kvs)):kvs.length<=sizeLine/\(a == sysModules)=false/\
  ∃ xs,KT H kvs xs/\h.DictOfH (tupleKind (yF P w)) a xs:=dt_rd ok (.inl e)
end
noncomputable def DGet (H:Hp) (a:Addr) (y:V) (r:Option V):Prop:=
 (∃ kvs k,Rd H a (.dK kvs)/\y=kV k/\r=valV kvs k)\/∃ kvs k b,Rd H a (.dT kvs)/\y=.ref b/\H b=some (.tup (k.map kV))/\r=valV kvs k
noncomputable def DPut (H:Hp) (a:Addr) (y v:V) (H':Hp):Prop:=
 (∃ kvs k,H a=some (.dK kvs)/\y=kV k/\kvs.length < sizeLine/\H'=upd H a (.dK (putK kvs k v)))\/
 ∃ kvs k b,H a=some (.dT kvs)/\y=.ref b/\H b=some (.tup (k.map kV))/\kvs.length < sizeLine/\H'=upd H a (.dT (putK kvs k v))
theorem DGet.t {H:Hp} {a b:Addr} {kvs:List (List Key × V)} {k:List Key} (e:H a=some (.dT kvs)) (eb:H b=some (.tup (k.map kV))):DGet H a (.ref b) (valV kvs k):=.inr ⟨kvs,k,b,.inl e,rfl,eb,rfl⟩
theorem DPut.t {H:Hp} {a b:Addr} {kvs:List (List Key × V)} {k:List Key} {v:V} (e:H a=some (.dT kvs)) (eb:H b=some (.tup (k.map kV))) (hl:kvs.length < sizeLine) :
  DPut H a (.ref b) v (upd H a (.dT (putK kvs k v))):=.inr ⟨kvs,k,b,e,rfl,eb,hl,rfl⟩
section
variable {X:Cx} {pins:List (Addr × Obj)} {σ:St} {H:Hp} {s:Shared} {a:Addr} {y v:V} {u r:Value} {o:Option V} {A:Around} {E:Value->Shared->Prop}
theorem Inv.big (I:Inv X pins σ H s):sysModules < s.heap.objs.size:=by
 have h:mainGlobals < s.heap.objs.size:=(I.mod.glob.keeps I.bk).lt;exact Nat.lt_trans (by decide) h
theorem d_getItem {Q:Value->Shared->Prop} (hu:A.units+1 < cLine) (I:Inv X pins σ H s) (g:DGet H a y (some v)) (ry:RelV y u) (h:∀ w' s',Inv X pins σ H s'->RelV v w'->Q w' s') :
  wpAny (model X.prog X.w) A (getItem (.ref a) u) Q E s:=by
 rcases g with ⟨kvs,k,e,ey,l⟩|⟨kvs,k,b,e,ey,eb,l⟩
 ·subst ey;obtain ⟨z,hd,vs,rel,dd⟩:=dk_rd I.hok e;obtain ⟨w',hw,rw'⟩:=RelO.some_of (v:=v) (o:=valueAt vs k) (by rw [l]; exact rel.val k)
  exact wpAny_getItem_of (kV_is ry) dd.mapOf hw (h w' _ (I.tok _) rw')
 ·subst ey;cases (show u=Value.ref b from ry)
  obtain ⟨z,hd,xs,rel,dd⟩:=dt_rd I.hok e;obtain ⟨w',hw,rw'⟩:=RelO.some_of (v:=v) (o:=(atKey xs k).map (·.2)) (by rw [l]; exact rel.val k)
  obtain ⟨p,hp,cV⟩:=Option.map_eq_some_iff.mp hw;refine wpAny_getItem_heap (tupleKind_room_in1 hu) (key_of I.hok eb) dd hp ?_;rw [cV];exact h w' _ (I.tok _) rw'
theorem JX {h':Heap} {t':Nat} {ob:HO} (I:Inv X pins σ H s) (mu:Mut (H a)) (hs:Heap.SameBut a s.heap h') (he:∃ q,h'.get? a=some q) (new:zg X.prog X.w (upd H a ob) h' a ob) :
  Inv X pins σ (upd H a ob) {s with heap:=h',toks:=t'}:=
 I.write (x:=a) (e:=a) mu (.inl rfl) (λb q hb z=>(hs.2 b hb).trans z) he new
theorem dk_new {P:Program} {w:World} {H':Hp} {h':Heap} {kvs:List (Key × V)} {vs:List (Key × Value)} (z:kvs.length<=sizeLine) (hd:(a == sysModules)=false) (rel:KV kvs vs) (dd:h'.DictOf (yF P w) a vs) :
  zg P w H' h' a (.dK kvs):=⟨z,hd,vs,rel,dd⟩
theorem d_setItem {H':Hp} {Q:Unit->Shared->Prop} (hu:A.units+1 < cLine) (I:Inv X pins σ H s) (g:DPut H a y v H') (ry:RelV y u) (rv:RelV v r) (h:∀ s',Inv X pins σ H' s'->Q () s') :
  wpAny (model X.prog X.w) A (setItem (.ref a) u r) Q E s:=by
 rcases g with ⟨kvs,k,e,ey,l,eH⟩|⟨kvs,k,b,e,ey,eb,l,eH⟩
 ·subst ey eH;obtain ⟨z,hd,vs,rel,dd⟩:=dk_of I.hok e;have hz:vs.length<=sizeLine:=by rw [<- rel.length]; exact z
  have hl:(putK kvs k v).length<=sizeLine:=by have:=jg kvs k v; omega
  refine wpAny_setItem_pairs (hsz:=hz) (kV_is ry) dd λh' dd' hs=>h _ ?_
  have he:∃ q,h'.get? a=some q:=let ⟨q,_,_,hq,_⟩:=dd'; ⟨q,hq⟩;exact JX I (by rw [e]; exact True.intro) hs he (dk_new hl hd (rel.put k rv) dd')
 ·subst ey eH;cases (show u=Value.ref b from ry)
  obtain ⟨z,hd,xs,rel,dd⟩:=dt_of I.hok e;have hz:xs.length<=sizeLine:=by rw [<- Paired.length rel]; exact z
  have hl:(putK kvs k v).length<=sizeLine:=by have:=jg kvs k v; omega
  refine wpAny_setItem_heap (hsz:=hz) (tupleKind_room_in1 hu) (key_of I.hok eb) dd λh' dd' hs=>h _ ?_
  obtain ⟨q,es,ep,hq,h2,h3,h4,_,h5⟩:=dd';refine JX I (by rw [e]; exact True.intro) hs ⟨q,hq⟩ ⟨hl,hd,_,(rel.put k eb rv).keeps λc ys ec=>?_,q,es,ep,hq,h2,h3,h4,h5⟩
  rw [zV (zq ec e (λz=>nomatch z))]
  exact ec
end
section
variable {X:Cx} {pins:List (Addr × Obj)} {σ:St} {H:Hp} {s:Shared} {a:Addr} {kvs:List (Key × V)} {k:Key} {u:Value} {A:Around} {E:Value->Shared->Prop}
end
noncomputable def NoSl (i:Expr):Prop:=∀ ov iv,subscripted i false ov iv=operate [ov,iv] (getItem ov iv)
theorem subD_of {prog:Program} {w:World} {A:Around} {E:Value->Shared->Prop} {s:Shared} {env:Env} {value slice:Expr} {pos:Pos} {T id:String} {Q:Value->Shared->Prop}
  (hl:typeLookup (.type T) "__getitem__"=pure (some (.builtin id))) (hs:NoSl slice)
  (h:wpAny (model prog w) A (eval value env) (λo s₁=>wpAny (model prog w) A (eval slice env) (λi s₂=>s₂.TypeIs o T/\wpAny (model prog w) A (getItem o i) Q E s₂) E s₁) E s) :
  wpAny (model prog w) A (eval (.Subscript value slice pos) env) Q E s:=by
 refine Subscript_ (wpAny_mono h (λo s₁ h₁=>wpAny_mono h₁ (λi s₂ h₂=>?_) λ_ _ x=>x) λ_ _ x=>x)
 obtain ⟨hT,h₂⟩:=h₂;unfold subscriptTail;refine wpAny_bind ?_;rw [getitemInPython_of_ne hT.not_modules];refine wpAny_bind (wpAny_specialOf hT hl ?_);have fin:wpAny (model prog w) A (subscripted slice false o i) (λr s₃=>wpAny (model prog w) A (letTemporaryGo value o r >>= λ_=>pure r) Q E s₃) E s₂:=by
  rw [hs o i];exact wpAny_operating (wpAny_mono h₂ (λr s₃ h₃=>wpAny_bind (wpAny_letTemporaryGo (wpAny_pure h₃))) λ_ _ x=>x)
 first
  |exact wpAny_pure (wpAny_bind fin)
  |exact wpAny_bind (wpAny_pure (wpAny_bind fin))
  |exact wpAny_bind fin
theorem dict_typeIs {X:Cx} {pins:List (Addr × Obj)} {σ:St} {H:Hp} {s:Shared} {a:Addr} {y:V} {o:Option V} (I:Inv X pins σ H s) (g:DGet H a y o):s.TypeIs (.ref a) "dict":=by
 rcases g with ⟨kvs,k,e,_,_⟩|⟨kvs,k,b,e,_,_,_⟩
 ·obtain ⟨_,_,vs,_,dd⟩:=dk_rd I.hok e;exact dd.typeIs
 ·obtain ⟨_,_,xs,_,dd⟩:=dt_rd I.hok e;exact dd.typeIs
noncomputable def tDGet (td ty:TE):TE:=λσ H Q=>td σ H λx H1=>ty σ H1 λy H2=>∃ a v,x=.ref a/\DGet H2 a y (some v)/\Q v H2
noncomputable def sDPut (td ty tv:TE):TS:=λD σ H=>tv σ H λv H1=>td σ H1 λx H2=>ty σ H2 λy H3=>∃ a H4,x=.ref a/\DPut H3 a y v H4/\D.nx σ H4
section
variable {X:Cx} {o i e value:Expr} {pos pos' tpos:Pos} {td ty tv:TE}
theorem ZN (hu:X.A.units+1 < cLine) (ho:PE X o td) (hi:PE X i ty) (hs:NoSl i):PE X (.Subscript o i pos) (tDGet td ty):=by
 intro pins s σ H Q I h;refine subD_of PySem.F.slot_dict_getitem.lookup hs (thn (ho pins s σ H _ I h) λu s1 ⟨x,H1,I1,rx,q1⟩=>thn (hi pins s1 σ H1 _ I1 q1) λiv s2 zz=>?_)
 obtain ⟨y,H2,I2,ry,a,v,ex,g,q2⟩:=zz;subst ex;obtain rfl:u=Value.ref a:=rx;exact ⟨dict_typeIs I2 g,d_getItem hu I2 g ry λw' s3 I3 rw'=>⟨v,H2,I3,rw',q2⟩⟩
theorem ps_dput (hu:X.A.units+1 < cLine) (ho:PE X o td) (hi:PE X i ty) (hv:PE X value tv) (hs:swapsWith value (some (.Subscript o i pos')) pos.line X.env=pure false) :
  PS X (.Assign [.Subscript o i pos'] value pos) (sDPut td ty tv):=by
 intro pins s σ H D I h;refine wpAny_Assign_Subscript (thn (hv pins s σ H _ I h) λr s1 ⟨v,H1,I1,rv,q1⟩=>thn (ho pins s1 σ H1 _ I1 q1) λu s2 ⟨x,H2,I2,rx,q2⟩=>thn (hi pins s2 σ H2 _ I2 q2) λiv s3 ⟨y,H3,I3,ry,a,H4,ex,g,q3⟩=>?_) hs
 subst ex;obtain rfl:u=Value.ref a:=rx;exact d_setItem hu I3 g ry rv λs4 I4=>⟨σ,H4,I4,q3⟩
end
theorem dt_empty {P:Program} {w:World} {H:Hp} (h:Heap) (hb:sysModules < h.objs.size):zg P w H (h.push {cls:=.type "dict",data:=.dict #[]}) h.objs.size (.dT []):=
 ⟨Nat.zero_le _,beq_eq_false_iff_ne.mpr (Ne.symm (Nat.ne_of_lt hb)),[],.nil,_,#[],0,Heap.get?_push_size _ rfl,⟨rfl,rfl,rfl⟩,rfl,rfl,List.nodup_nil⟩
noncomputable def tDNewT:TE:=λ_ H Q=>∀ p,H p=none->Q (.ref p) (upd H p (.dT []))
section
variable {X:Cx} {pos:Pos}
theorem pe_dnewT:PE X (.Dict [] [] pos) tDNewT:=λpins s σ H Q I h=>
 wpAny_Dict_empty ⟨.ref s.heap.objs.size,_,I.laid (a:=s.heap.objs.size) (o:=.dT []) (t':=s.toks) (λ_ _ q=>Heap.get?_push_of_some _ q) (Nat.le_refl _) (dt_empty s.heap I.big),rfl,h _ (I.hok.fresh (Nat.le_refl _))⟩
end
end L2
namespace Kw
open PySem PySem.Spec PyProof.Rows L2
section
variable {β:Type} {R:V->β->Prop} {xs:List V} {bs:List β}
theorem Al2.takeR:∀ {xs:List V} {bs:List β} (k:Nat),Al2 R xs bs->Al2 R (xs.take k) (bs.take k)
 |[],[],k,_=>by simp [Al2]
 |_::_,_::_,0,_=>trivial
 |_::_,_::_,k+1,z=>⟨z.1,Al2.takeR k z.2⟩
 |[],_::_,_,z=>z.elim
 |_::_,[],_,z=>z.elim
theorem Al2.dropR:∀ {xs:List V} {bs:List β} (k:Nat),Al2 R xs bs->Al2 R (xs.drop k) (bs.drop k)
 |[],[],k,_=>by simp [Al2]
 |_::_,_::_,0,z=>z
 |_::_,_::_,k+1,z=>Al2.dropR k z.2
 |[],_::_,_,z=>z.elim
 |_::_,[],_,z=>z.elim
end
theorem cut_dropR {xs:List V} {k:Nat} (h:k<=xs.length):cutV xs (some (k:Int)) none=xs.drop k:=by
 unfold cutV;rw [HT.sIx_none,HT.sIx_nat,Nat.min_eq_left h];exact List.take_of_length_le (by rw [List.length_drop]; omega)
section
variable {prog:Program} {w:World} {K:Type} [DecidableEq K] {knd:HeapKind prog w K} {A:Around} {E:Value->Shared->Prop} {s:Shared}
theorem iter_raw {d:Addr} {od:Obj} {es:Array DictEntry} {ep:Nat} {Q:Value->Shared->Prop} (hd:(d == sysModules)=false) (ho:s.heap.get? d=some od) (hc:od.ExactDict) (hdat:od.data=.dict es ep)
  (hQ:Q (.ref s.heap.objs.size) {s with heap:=s.heap.push {cls:=.type "dict_keyiterator",data:=.fields #[.ref d,.int 0 0,.int es.size 0,.int ep 0]}}) :
  wpAny (model prog w) A (pyIter (.ref d)) Q E s:=by
 have hT:s.TypeIs (.ref d) "dict":=⟨od,ho,hc.1⟩;refine wpAny_pyIter_slot hT F.slot_dict_iter (wpAny_call_entry F.slot_dict_iter hT F.entry_dict_iter ?_ (F.args_dict_iter_1 _));unfold Builtin.«dict.__iter__»;refine wpAny_bind ?_;unfold Builtin.Dict.dictSlotNone;refine wpAny_bind (wpAny_notOrdered_dict hT ?_);show wpAny _ _ (pure (Value.ref d)) _ _ s;refine wpAny_pure ?_;show wpAny _ _ (Builtin.Dict.showsAll d >>= _) _ _ s;unfold Builtin.Dict.showsAll;rw [if_neg (by rw [hd]; exact Bool.false_ne_true)]
 refine wpAny_bind (wpAny_pure ?_);refine wpAny_bind (wpAny_dictEntries ho hdat ?_);refine wpAny_bind (wpAny_dictEpoch ho hdat ?_);refine wpAny_bind (wpAny_newObj_type (wpAny_pure ⟨_,rfl,"dict_keyiterator",_,⟨_,Heap.get?_push_size _ rfl,rfl⟩,F.slot_dict_keyiterator_next.lookup,?_⟩));simpa [rawInt] using hQ
theorem next_raw {it d:Addr} {i ep:Nat} {od:Obj} {es:Array DictEntry} {Q:Option Value->Shared->Prop} (hit:s.heap.IsKeyIter it d i es.size ep) (hod:s.heap.get? d=some od) (hdd:od.data=.dict es ep) (hlt:i < es.size)
  (hQ:∀ h',h'.IsKeyIter it d (i+1) es.size ep->Heap.SameBut it s.heap h'->Q (some es[i].key) {s with heap:=h'}) :
  wpAny (model prog w) A (pyNext (.ref it)) Q E s:=by
 obtain ⟨o,ho,hc,hd⟩:=id hit;unfold pyNext
 refine wpAny_bind (wpAny_attempt (wpAny_callSpecial?_slot (name:=Str.ofString "__next__") hit.typeIs F.slot_dict_keyiterator_next
  (wpAny_call_entry F.slot_dict_keyiterator_next hit.typeIs F.entry_dict_keyiterator_next ?_ (F.args_dict_keyiterator_next_1 _))))
 refine wpAny_bind (wpAny_pure ?_);refine wpAny_bind ?_;refine wpAny_bind ?_
 first|refine wpAny_bind (wpAny_typeNameOfWhole_keyiter hit.typeIs (wpAny_pure ?_))|refine wpAny_bind (wpAny_typeNameOf_keyiter hit.typeIs (wpAny_pure ?_))
 refine wpAny_bind (wpAny_fieldsOf ho hd ?_);have hown:Builtin.Dict_items.ownsTuple "dict_keyiterator"=false:=by decide
 simp only [hown,Bool.false_eq_true,if_false];show wpAny _ _ (if (Value.ref d == Value.none)=true then _ else _) _ _ s
 rw [if_neg (show ¬ ((Value.ref d == Value.none)=true) from Bool.false_ne_true)];refine wpAny_bind (wpAny_pure ?_);refine wpAny_bind (wpAny_dictEntries hod hdd ?_);rw [if_neg (by simp)]
 refine wpAny_bind (wpAny_pure ?_);refine wpAny_bind (wpAny_dictEpoch hod hdd ?_);rw [if_neg (by simp)]
 refine wpAny_pure ?_;simp only [show ¬ ((i:Int) < 0) from by omega,if_false,Int.toNat_natCast,Array.getElem?_eq_getElem hlt]
 refine wpAny_bind ?_
 first|refine wpAny_bind (wpAny_typeNameOfWhole_keyiter hit.typeIs (wpAny_pure ?_))|refine wpAny_bind (wpAny_typeNameOf_keyiter hit.typeIs (wpAny_pure ?_))
 refine wpAny_bind (wpAny_isOneOf_keyiter hit.typeIs ?_);show wpAny _ _ (setField (.ref it) 1 (rawInt ((i:Int)+1)) >>= _) _ _ s;refine wpAny_bind (wpAny_setField ho hd (by simp) ?_)
 have hit':(s.heap.update it (Obj.mapFields (·.setIfInBounds 1 (rawInt ((i:Int)+1))))).IsKeyIter it d (i+1) es.size ep:=
  ⟨_,Heap.get?_update_self _ ho (Obj.isFreed_of_fields (Obj.data_mapFields hd _)),(Obj.cls_mapFields ..).trans hc,by rw [Obj.data_mapFields hd]; simp [rawInt]⟩
 refine wpAny_bind (wpAny_holding ?_);refine wpAny_bind (wpAny_isOneOf_keyiter (s:={s with heap:=s.heap.update it (Obj.mapFields (·.setIfInBounds 1 (rawInt ((i:Int)+1))))}) hit'.typeIs ?_)
 show wpAny _ _ (pure es[i].key) _ _ _;exact wpAny_pure (wpAny_pure ⟨_,rfl,wpAny_pure (hQ _ hit' (Heap.SameBut.update ..))⟩)
theorem end_raw {it d:Addr} {i ep:Nat} {od:Obj} {es:Array DictEntry} {Q:Option Value->Shared->Prop} (hh:A.handled=none) (hit:s.heap.IsKeyIter it d i es.size ep) (hod:s.heap.get? d=some od) (hdd:od.data=.dict es ep) (hge:es.size<=i)
  (hQ:∀ h',Heap.ExtBut it s.heap h'->Q none {s with heap:=h'}):wpAny (model prog w) A (pyNext (.ref it)) Q E s:=by
 obtain ⟨o,ho,hc,hd⟩:=id hit;unfold pyNext
 refine wpAny_bind (wpAny_attempt (wpAny_callSpecial?_slot (name:=Str.ofString "__next__") hit.typeIs F.slot_dict_keyiterator_next
  (wpAny_call_entry F.slot_dict_keyiterator_next hit.typeIs F.entry_dict_keyiterator_next ?_ (F.args_dict_keyiterator_next_1 _))))
 refine wpAny_bind (wpAny_pure ?_);refine wpAny_bind ?_;refine wpAny_bind ?_
 first|refine wpAny_bind (wpAny_typeNameOfWhole_keyiter hit.typeIs (wpAny_pure ?_))|refine wpAny_bind (wpAny_typeNameOf_keyiter hit.typeIs (wpAny_pure ?_))
 refine wpAny_bind (wpAny_fieldsOf ho hd ?_);have hown:Builtin.Dict_items.ownsTuple "dict_keyiterator"=false:=by decide
 simp only [hown,Bool.false_eq_true,if_false];show wpAny _ _ (if (Value.ref d == Value.none)=true then _ else _) _ _ s
 rw [if_neg (show ¬ ((Value.ref d == Value.none)=true) from Bool.false_ne_true)];refine wpAny_bind (wpAny_pure ?_);refine wpAny_bind (wpAny_dictEntries hod hdd ?_);rw [if_neg (by simp)]
 refine wpAny_bind (wpAny_pure ?_);refine wpAny_bind (wpAny_dictEpoch hod hdd ?_);rw [if_neg (by simp)]
 refine wpAny_pure ?_;simp only [show ¬ ((i:Int) < 0) from by omega,if_false,Int.toNat_natCast,Array.getElem?_eq_none hge]
 refine wpAny_bind ?_
 first|refine wpAny_bind (wpAny_typeNameOfWhole_keyiter hit.typeIs (wpAny_pure ?_))|refine wpAny_bind (wpAny_typeNameOf_keyiter hit.typeIs (wpAny_pure ?_))
 show wpAny _ _ (setField (.ref it) 0 .none >>= _) _ _ s;refine wpAny_bind (wpAny_setField ho hd (by simp) ?_)
 show wpAny _ _ (newExc (.type "StopIteration") [] >>= _) _ _ _;refine wpAny_bind ?_;simp only [newExc,newTuple];refine wpAny_bind (wpAny_newObj_type ?_ (by size_fits))
 refine wpAny_bind (m:=firstArgMember _ _) (wpAny_of_eq (a:=Value.none) (by first|rfl|(simp only [firstArgMember]; rfl)) ?_)
 refine wpAny_newObj_type ?_ (by size_fits)
 simp only [raiseNew];refine wpAny_bind (wpAny_handled ?_);rw [show A.in1.handled=none from hh];refine wpAny_bind (wpAny_pure (wpAny_throw ?_));refine wpAny_bind (wpAny_isInstance (T:="StopIteration") (b:=true) ⟨_,Heap.get?_push_size _ rfl,rfl⟩ isSubtype_stop ?_);exact wpAny_pure (hQ _ (((Heap.SameBut.update ..).extBut.push _).push _))
end
theorem Z3 {n:Nat} (h:n+100 < cLine):n+1 < cLine:=by omega
noncomputable def Itd (a:Addr) (o:Obj) (kvs:List (List Key × V)):It:=
 ⟨λi H=>H a=some (.frz o (.dT kvs))/\i < kvs.length,λi H x H'=>H'=H/\∃ (b:Addr) (kv:List Key × V),kvs[i]?=some kv/\x=.ref b/\H b=some (.tup (kv.1.map kV)),λi H=>H a=some (.frz o (.dT kvs))/\kvs.length<=i⟩
theorem kt_get {H:Hp}:∀ {kvs:List (List Key × V)} {xs:List (List Key × Addr × Value)},KT H kvs xs->∀ {i:Nat} {kv:List Key × V},kvs[i]?=some kv->∃ x,xs[i]?=some x/\H x.2.1=some (.tup (kv.1.map kV)):=by
 intro kvs xs r;induction r with
 |nil=>intro i kv h; simp at h
 |@cons p q ps qs h t ih=>
  intro i kv hk;cases i with
  |zero=>
   simp only [List.getElem?_cons_zero,Option.some.injEq] at hk;subst hk;exact ⟨q,rfl,h.2.1⟩
  |succ j=>
   simp only [List.getElem?_cons_succ] at hk;exact ih hk
theorem turn_dict {P:Program} {w:World} {K:PySem.W.Frag} {tg:Expr} (a it:Addr) (o:Obj) (es:Array DictEntry) (ep:Nat) (kvs:List (List Key × V)) (hd:o.data=.dict es ep) (hl:es.size=kvs.length):Turn P w K tg (Itd a o kvs) [it] it (λi h=>h.IsKeyIter it a i es.size ep) where
 mem:=by simp
 obj:=λi h st b hb=>by
  have e:b=it:=by simpa using hb
  subst e;obtain ⟨o,e,c,d⟩:=st;exact ⟨o,e,λv z=>by rw [d] at z; cases z⟩
 keep:=λi h h' st k=>st.at λo e=>k it (by simp) o e
 item:=by
  intro X hP hw hK hc i pins s σ H E I hf st hg;subst hP hw hK;obtain ⟨hq,hi⟩:=hg;obtain ⟨ho,_,_,xs,rel,o',es',ep',ho',_,hd',he',_⟩:=(show s.heap.get? a=some o/\zg X.prog X.w H s.heap a (.dT kvs) from I.hok a _ hq);rw [ho] at ho';cases ho'
  rw [hd] at hd';cases hd'
  obtain ⟨f0,f1,f2,f3,f4,f5⟩:=hf it (by simp)
  have hlt:i < es.size:=by omega
  refine next_raw st ho hd hlt λh' st' sb=>?_
  have I1:Inv X pins σ H {s with heap:=h'}:=I.turned (t':=s.toks) (λb o hb e=>(sb.2 b hb).trans e) f0 f1 f3 f4 f5
  obtain ⟨ob,e,c,d⟩:=id st';obtain ⟨x,hx,hb⟩:=kt_get rel (List.getElem?_eq_getElem hi);have ek:es[i].key=.ref x.2.1:=by
   have z:=entry_at (knd:=tupleKind (yF X.prog X.w)) he' i;rw [hx,Array.getElem?_eq_getElem hlt] at z;have z':=Option.some.inj z;rw [z'];rfl
  rw [ek];exact ⟨_,rfl,go_of (s:={s with heap:=h'}) e c d (by decide) ⟨.ref x.2.1,H,I1,rfl,⟨rfl,_,_,List.getElem?_eq_getElem hi,rfl,hb⟩,st',λb hb=>(hf b hb).1⟩⟩
 done:=by
  intro X hP hw hK hc i pins s σ H E I hf st hg;subst hP hw hK;obtain ⟨hq,hi⟩:=hg;obtain ⟨ho,_⟩:=(show s.heap.get? a=some o/\zg X.prog X.w H s.heap a (.dT kvs) from I.hok a _ hq);obtain ⟨f0,f1,f2,f3,f4,f5⟩:=hf it (by simp)
  exact end_raw (I.ok.hd hc) st ho hd (by omega) λh' eb=>⟨rfl,I.turned (t':=s.toks) (λb o hb e=>eb b o hb e) f0 f1 f3 f4 f5⟩
 self:=λ_ _ _ _ _ st h=>wpAny_pyIter_keyiter st h
noncomputable def iDict (tl:TE):TI:=λσ H R=>tl σ H λx H1=>∃ (a:Addr) (kvs:List (List Key × V)),x=.ref a/\H1 a=some (.dT kvs)/\∀ o,R (Itd a o kvs) (upd H1 a (.frz o (.dT kvs)))
theorem JY {X:Cx} {tg:Expr} {l:Expr} {tl:TE} (hl:PE X l tl):PI X tg l (iDict tl):=by
 intro pins s σ H R I h;refine thn (hl pins s σ H _ I h) λv s1 zz=>?_
 obtain ⟨x,H1,I1,r1,q1⟩:=zz;obtain ⟨a,kvs,rfl,hq,q⟩:=q1;cases r1
 obtain ⟨hz,hm,xs,rel,o,es,ep,ho,hc,hd,he,hn⟩:=(show zg X.prog X.w H1 s1.heap a (.dT kvs) from I1.hok a _ hq);have len:es.size=kvs.length:=by rw [size_of_entries he,Paired.length rel]
 have kp:∀ c ys,H1 c=some (HO.tup ys)->upd H1 a (.frz o (.dT kvs)) c=some (.tup ys):=λc ys ec=>by
  rw [zV (zq ec hq (λz=>nomatch z))]
  exact ec
 have I2:Inv X pins σ (upd H1 a (.frz o (.dT kvs))) {s1 with heap:=s1.heap,toks:=s1.toks}:=JX I1 (by rw [hq]; exact True.intro) ⟨rfl,λ_ _=>rfl⟩ ⟨o,ho⟩ ⟨ho,hz,hm,xs,KT.keeps rel kp,o,es,ep,ho,hc,hd,he,hn⟩
 refine iter_raw hm ho hc hd ?_;refine ⟨s1.heap.objs.size,[s1.heap.objs.size],_,_,_,rfl,I2.kept (t':=s1.toks) λb o e=>Heap.get?_push_of_some _ e,turn_dict a _ o es ep kvs hd len,⟨_,Heap.get?_push_size _ rfl,rfl,rfl⟩,λb hb=>?_,q o⟩
 have e:b=s1.heap.objs.size:=by simpa using hb
 subst e;exact I2.fpOk (Nat.le_refl _) (I2.hok.fresh (Nat.le_refl _))
theorem for_dict {a:Addr} {o:Obj} {kvs:List (List Key × V)} {g:TG} {tb:TS} {D:Ends} {σ:L2.St} {H:Hp} (Pv:Nat->L2.St->Hp->Prop) (h0:Pv 0 σ H) (hl:∀ i σ H,i<=kvs.length->Pv i σ H->H a=some (.frz o (.dT kvs)))
  (hs:∀ i kv b σ H,kvs[i]?=some kv->H b=some (.tup (kv.1.map kV))->Pv i σ H->g (.ref b) σ H λσ2 H2=>tb {D with nx:=Pv (i+1),ct:=Pv (i+1),bk:=D.nx} σ2 H2) (hd:∀ σ H,Pv kvs.length σ H->D.nx σ H) :
  ∃ W:Nat->Nat->L2.St->Hp->Prop,(∃ m,W 0 m σ H)/\∀ i m σ H,W i m σ H->
   ((Itd a o kvs).stop i H/\D.nx σ H)\/((Itd a o kvs).go i H/\∃ N:L2.St->Hp->Prop,(∀ σ' H',N σ' H'->∃ m',m' < m/\W (i+1) m' σ' H')/\∀ x H',(Itd a o kvs).yld i H x H'->g x σ H' λσ2 H2=>tb {D with nx:=N,ct:=N,bk:=D.nx} σ2 H2):=by
 refine ⟨λi m σ H=>m=kvs.length - i/\i<=kvs.length/\Pv i σ H,⟨kvs.length,by simp,Nat.zero_le _,h0⟩,?_⟩
 rintro i m σ H ⟨rfl,hi,p⟩;have q:=hl i σ H hi p;by_cases hlt:i < kvs.length
 ·refine .inr ⟨⟨q,hlt⟩,Pv (i+1),λσ' H' p'=>⟨kvs.length - (i+1),by omega,rfl,hlt,p'⟩,λx H' y=>?_⟩
  obtain ⟨e,b,kv,hk,ex,hb⟩:=y;subst e ex;exact hs i kv b σ _ hk hb p
 ·have e:i=kvs.length:=by omega
  subst e;exact .inl ⟨⟨q,Nat.le_refl _⟩,hd σ H p⟩
noncomputable def frd (q:Rat):PyData:=.tuple [.int q.num,.int ((q.den:Nat):Int)]
theorem eqv_2 (a b c d:Int):PyData.eqv (.tuple [.int a,.int b]) (.tuple [.int c,.int d])=(decide (a=c) && decide (b=d)):=by
 show ((a == c) && ((b == d) && true))=_;rw [Bool.and_true];congr 1
noncomputable def zQ (s:Stmt) (j:Nat):Stmt:=match s with
 |.ClassDef _ _ _ b _ _ _ _ _ _ _=>b.getD j (.Pass ⟨0,0,0,0⟩)
 |_=>.Pass ⟨0,0,0,0⟩
noncomputable def DfM (K:PySem.W.Frag) (C:Addr) (m qual:Str) (st:Stmt) (ps:List Str):Prop:=
 ∃ (f:Addr) (oc:Value) (od:Option Addr) (kV doc pm:Value) (an:Option Addr) (cdv ct:Value) (osl:Array (Option Value)),
  K.lookup f=some ⟨oc,od,.func (fnOf m qual (zK st) (zI st) (zD st) .none kV doc pm an cdv ct),osl⟩/\codeIn K cdv qual=true/\Meth K C m f/\
  jP K (fnOf m qual (zK st) (zI st) (zD st) .none kV doc pm an cdv ct) ps []
noncomputable def FnM (P:Program) (w:World) (K:PySem.W.Frag) (mg:Str->Option Value) (base:Heap) (k:Nat) (C:Addr) (m:Str) (ps:List Str) (sp:Sp):Prop:=
 ∃ f fd,FnOk P w K mg base (CXE P w) k f fd ps sp/\Meth K C m f/\jP K fd ps []
section
variable {P:Program} {w:World} {K:PySem.W.Frag} {mg:Str->Option Value} {base:Heap} {C:Addr} {m qual:Str} {st:Stmt} {N ps:List Str} {k:Nat} {sp:Sp}
theorem DfM.ok0 (D:DfM K C m qual st ps) (S:FnScope N ps (zD st)) (len:∀ vs H Q E,sp vs H Q E->vs.length=ps.length)
  (hbody:∀ (f:Addr) (cdv:Value) (A:Around) (outer:List Env) (s:Shared) (H:Hp) (vs:List V) (Q:VK) (E:XK),Room k (A.deeper (envOfC qual (zD st) s.heap.objs.size f cdv))->sp vs H Q E->
   ∃ t,PSs (cxOf (CXE P w) P w K mg base N qual (zD st) f cdv A outer s H E).nox (zI st) t/\t {nx:=λ_ H'=>Q .non H',rt:=Q} (Zl N vs) H):FnM P w K mg base (k+1) C m ps sp:=by
 obtain ⟨f,oc,od,kV,doc,pm,an,cdv,ct,osl,lk,hcd,M,bd⟩:=D;refine ⟨f,_,fn_of lk hcd S len λA outer s H vs Q E hr hsp=>?_,M,bd⟩
 obtain ⟨t,h,q⟩:=hbody f cdv A outer s H vs Q E hr hsp;exact ⟨t,h.nox,q⟩
theorem yL {f:Addr} {od an:Option Addr} {sl:Array (Option Value)} {oc kV dc pm cd ct:Value} (i:findIn K (.ref C) m=some (some (.ref f)))
  (t:isFn K (.ref f)=true) (l:K.lookup f=some ⟨oc,od,.func (fnOf m qual (zK st) (zI st) (zD st) .none kV dc pm an cd ct),sl⟩) (q:codeIn K cd qual=true) (kp:keepIn K (.ref f)=true)
  (b:∀ us:List Value,us.length=ps.length->bindArgs (fnOf m qual (zK st) (zI st) (zD st) .none kV dc pm an cd ct) ⟨us,[]⟩=pure (ps.zip us)):DfM K C m qual st ps:=
 ⟨f,oc,od,kV,dc,pm,an,cd,ct,sl,l,q,⟨i,t,kp⟩,.all b⟩
end
section
variable {X:Cx} {k k':Nat} {C:Addr} {m x f:Str} {ps:List Str} {sp:Sp} {E:XK} {p pos apos pos' tpos:Pos} {o e value:Expr} {es:List Expr} {t:TA} {ta tv:TE}
theorem ya {pl:Sem Bool} (c:Cls X.K C) (F:FnM X.prog X.w X.K X.mg X.base k C m ps sp) (hk:k<=k') (hr:Room k' X.A) (hx:yc (CXE X.prog X.w) X E) (he:PE X o ta) (ha:PA X (e::es) t)
  (hst:starEach (e::es) X.env=(false,eval e X.env)::starEach es X.env:=by rfl) (hpl:(backTo pos (starEach es X.env)).any (·.1)=false:=by rfl)
  (ht:eval (.Call (.Attribute o m apos) (e::es) [] pos) X.env=(do
   let ov <- eval o X.env
   standAt apos.atName
   let (f,first) <- holding [ov] (getMethod ov m pl)
   callWith pos f first (backTo pos (starEach (e::es) X.env)) (backToKw pos (keywordEach [] X.env))):=by rfl) :
  PE X (.Call (.Attribute o m apos) (e::es) [] pos) (tMeth C m sp [] E ta t):=by
 obtain ⟨f,fd,G,hm,bd⟩:=F;exact pe_meth he c hm G (hr.mono hk) bd .nil hx ha hst hpl ht
theorem Zg {pl:Sem Bool} (c:Cls X.K C) (F:FnM X.prog X.w X.K X.mg X.base k C m ps sp) (hk:k<=k') (hr:Room k' X.A) (hx:yc (CXE X.prog X.w) X E) (he:PE X o ta)
  (ht:eval (.Call (.Attribute o m apos) [] [] pos) X.env=(do
   let ov <- eval o X.env
   standAt apos.atName
   let (f,first) <- holding [ov] (getMethod ov m pl)
   callWith pos f first (backTo pos (starEach [] X.env)) (backToKw pos (keywordEach [] X.env))):=by rfl) :
  PE X (.Call (.Attribute o m apos) [] [] pos) (tMeth C m sp [] E ta tNil):=by
 obtain ⟨f,fd,G,hm,bd⟩:=F;exact pe_meth0 he c hm G (hr.mono hk) bd .nil hx ht
theorem pe_mko (mk:makesIn X.K C=true) (kp:keepIn X.K (.ref C)=true) (F:FnM X.prog X.w X.K X.mg X.base k C "__init__" ps sp) (hk:k+1<=k') (hr:Room k' X.A) (hg:Gl X x) (hm:X.mg x=some (.ref C)) (hx:yc (CXE X.prog X.w) X E)
  (ha:PA X (e::es) t) (hdb:(x == ("__debug__" : Str))=false:=by decide) (he:starEach (e::es) X.env=(false,eval e X.env)::starEach es X.env:=by rfl) (hpl:(backTo pos (starEach es X.env)).any (·.1)=false:=by rfl) :
  PE X (.Call (.Name x p) (e::es) [] pos) (tMake C sp [] E t):=by
 obtain ⟨f,fd,G,hf,bd⟩:=F;exact pe_make ⟨mk,hf.at_,hf.fn,kp⟩ G (hr.mono hk) hg hm bd .nil hx ha hdb he hpl
noncomputable def tFldC (C:Addr) (ta:TE) (f:Str):TE:=λσ H Q=>ta σ H λx H1=>∃ a dx fs v,x=.ref a/\H1 a=some (.ins C dx fs)/\fs.lookup f=some v/\Q v H1
theorem zW (c:Cls X.K C) (n:yB X.K C f) (he:PE X e ta) (hb:attributeBase e f X.env (eval e X.env)=eval e X.env:=by rfl):PE X (.Attribute e f pos) (tFldC C ta f):=by
 intro pins s σ H Q I h;refine attr_of hb (thn (he pins s σ H _ I h) λu s1 zz=>?_)
 obtain ⟨x,H1,I1,rx,a,dx,fs,v,ex,ea,l,q⟩:=zz;subst ex;obtain rfl:u=Value.ref a:=rx;exact Jk I1 ea c n l λu' s2 I2 ru=>⟨v,H1,I2,ru,q⟩
noncomputable def sFldC (C:Addr) (ta tv:TE) (f:Str):TS:=λD σ H=>tv σ H λy H1=>ta σ H1 λx H2=>∃ a dx fs,x=.ref a/\H2 a=some (.ins C dx fs)/\fs.length < 1000/\
 D.nx σ (upd H2 a (.ins C dx (putF f y fs)))
theorem jN (c:Cls X.K C) (n:yB X.K C f) (ha:PE X o ta) (hv:PE X value tv) (hs:swapsWith value (some (.Attribute o f pos')) pos.line X.env=pure false:=by rfl):PS X (.Assign [.Attribute o f pos'] value pos) (sFldC C ta tv f):=by
 intro pins s σ H D I h;refine plainObj_wpAny_Assign_Attribute (thn (hv pins s σ H _ I h) λu s1 ⟨y,H1,I1,ry,q⟩=>thn (ha pins s1 σ H1 _ I1 q) λov s2 ⟨x,H2,I2,rx,a,dx,fs,ex,ea,l,q2⟩=>?_) hs
 subst ex;obtain rfl:ov=Value.ref a:=rx;exact Ji I2 ea c n l ry λs3 I3=>⟨σ,_,I3,q2⟩
noncomputable def sFldAdd (C:Addr) (ta tv:TE) (f:Str):TS:=λD σ H=>ta σ H λx H1=>∃ a dx fs i,x=.ref a/\H1 a=some (.ins C dx fs)/\fs.lookup f=some (.int i)/\
 tv σ H1 λy H2=>∃ j,y=.int j/\H2=H1/\fs.length < 1000/\D.nx σ (upd H1 a (.ins C dx (putF f (.int (i+j)) fs)))
theorem ps_fldadd (c:Cls X.K C) (n:yB X.K C f) (hop:InOp X .Add rAdd) (ha:PE X o ta) (hv:PE X value tv):PS X (.AugAssign (.Attribute o f tpos) .Add value pos) (sFldAdd C ta tv f):=by
 intro pins s σ H D I h;refine wpAny_AugAssign_AttributeAny (thn (ha pins s σ H _ I h) λov s1 zz=>?_)
 obtain ⟨x,H1,I1,rx,a,dx,fs,i,ex,ea,l,q⟩:=zz;subst ex;obtain rfl:ov=Value.ref a:=rx;refine Jk I1 ea c n l λu s2 I2 ru=>thn (hv pins s2 σ H1 _ I2 q) λw3 s3 zz=>?_
 obtain ⟨y,H2,I3,ry,j,ey,eH,l',q4⟩:=zz;subst ey eH;refine thn (hop pins s3 σ H2 (.int i) (.int j) u w3 (λz H3=>z=.int (i+j)/\H3=H2) I3 ru ry ⟨i,j,rfl,rfl,rfl,rfl⟩) λw4 s4 zz=>?_
 obtain ⟨z,H3,I4,rz,ez,eH3⟩:=zz;subst ez eH3;exact Ji I4 ea c n l' rz λs5 I5=>⟨σ,_,I5,q4⟩
end
noncomputable def Buts (as:List Addr) (H H':Hp):Prop:=∀ a o,a∉as->H a=some o->H' a=some o
section
variable {K:PySem.W.Frag} {H H1 H2:Hp} {as:List Addr}
theorem Buts.refl:Buts as H H:=λ_ _ _ h=>h
theorem Buts.trans (x:Buts as H H1) (y:Buts as H1 H2):Buts as H H2:=λa o n h=>y a o n (x a o n h)
theorem Buts.of (x:Same H H1):Buts as H H1:=λa o _ h=>x a o h
theorem Buts.one {b:Addr} (x:But b H H1) (h:b∈as):Buts as H H1:=λa o n q=>x a o (λe=>n (e▸h)) q
theorem Buts.mono {bs:List Addr} (x:Buts as H H1) (h:∀ a∈as,a∈bs):Buts bs H H1:=λa o n q=>x a o (λe=>n (h a e)) q
noncomputable def NoT (as:List Addr) (H:Hp):Prop:=∀ a∈as,(∀ ys,H a≠some (.tup ys))/\∀ o ys,H a≠some (.frz o (.tup ys))
theorem Buts.tup {p:Addr} {xs:List V} (x:Buts as H H1) (n:NoT as H) (h:SqT K H p xs):SqT K H1 p xs:=by
 rcases h with (h|⟨ob,h⟩)|h
 ·exact .inl (.inl (x _ _ (λm=>(n _ m).1 _ h) h))
 ·exact .inl (.inr ⟨ob,x _ _ (λm=>(n _ m).2 _ _ h) h⟩)
 ·exact .inr h
theorem NoT.nil:NoT [] H:=λ_ h=>nomatch h
theorem NoT.lst {a:Addr} {xs:List V} (h:H a=some (.lst xs)) (r:NoT as H):NoT (a::as) H:=λb hb=>by
 rcases List.mem_cons.mp hb with rfl|hb
 ·rw [h];exact ⟨λ_ z=>(nomatch z),λ_ _ z=>(nomatch z)⟩
 ·exact r b hb
theorem NoT.ins {a C dx:Addr} {fs:List (Str × V)} (h:H a=some (.ins C dx fs)) (r:NoT as H):NoT (a::as) H:=λb hb=>by
 rcases List.mem_cons.mp hb with rfl|hb
 ·rw [h];exact ⟨λ_ z=>(nomatch z),λ_ _ z=>(nomatch z)⟩
 ·exact r b hb
theorem NoT.dct {a:Addr} {kvs:List (List Key × V)} (h:H a=some (.dT kvs)) (r:NoT as H):NoT (a::as) H:=λb hb=>by
 rcases List.mem_cons.mp hb with rfl|hb
 ·rw [h];exact ⟨λ_ z=>(nomatch z),λ_ _ z=>(nomatch z)⟩
 ·exact r b hb
end
section
variable {X:Cx} {pins:List (Addr × Obj)} {σ:L2.St} {H:Hp} {s:Shared}
theorem thaw {a:Addr} {o:Obj} {u:HO} (I:Inv X pins σ H s) (ha:H a=some (.frz o u)) (h0:∀ o u,X.H₀ a≠some (.frz o u)):Inv X pins σ (upd H a u) s:=by
 have nn:∀ {b:Addr},H b=none->upd H a u b=none:=λ{b} h=>by
  rw [zV (Ne.symm (zL ha h))];exact h
 have ns:∀ {b:Addr} {ob:HO},H b=some ob->ob≠.frz o u->upd H a u b=some ob:=λ{b ob} h n=>by
  rw [zV (zq h ha n)];exact h
 refine ⟨I.ok,I.os,I.bare,⟨I.base.keep,I.base.slot,λb ob e n hx=>nn (I.base.free b ob e n hx),I.base.there,λb xs e=>ns (I.base.tups b xs e) (λz=>nomatch z),λb ob v e=>?_,λb ps e=>?_⟩,I.loc,I.cell,nn I.free,λx c e=>nn (I.freeC x c e),λp hp=>?_,λb ob e=>?_,I.len⟩
 ·have z:=I.base.frzs b ob v e;have ne:b≠a:=λy=>h0 ob v (y▸e)
  rw [zV ne];exact z
 ·obtain ⟨more,z⟩:=I.base.tbls b ps e;exact ⟨more,ns z (λz=>nomatch z)⟩
 ·obtain ⟨p1,p2,p3⟩:=I.pin p hp;exact ⟨p1,nn p2,p3⟩
 ·have ho:∀ c y,H c=some (.own y)->upd H a u c=some (.own y):=λc y z=>ns z (λz=>nomatch z)
  have ht:∀ c xs,H c=some (.tup xs)->upd H a u c=some (.tup xs):=λc xs z=>ns z (λz=>nomatch z)
  by_cases ne:b=a
  ·subst ne;rw [zb] at e;cases e
   obtain ⟨_,z⟩:=(show s.heap.get? b=some o/\zg X.prog X.w H s.heap b u from I.hok b _ ha);exact z.stay (λ_ _ _ q=>q) (λc z=>ho c b z) ht
  ·rw [zV ne] at e;exact (I.hok b ob e).stay (λ_ _ _ q=>q) (λc z=>ho c b z) ht
noncomputable def Thw (H H':Hp) (q:Hp->Prop):Prop:=∃ (a:Addr) (o:Obj) (kvs:List (List Key × V)),H a=some (.dT kvs)/\H' a=some (.frz o (.dT kvs))/\q (upd H' a (.dT kvs))
theorem Thw.inv {H':Hp} {s':Shared} {σ':L2.St} {q:Hp->Prop} (I:Inv X pins σ H s) (h:Thw H H' q) (I':Inv X pins σ' H' s'):∃ H2,Inv X pins σ' H2 s'/\q H2:=by
 obtain ⟨a,o,kvs,h1,h2,h3⟩:=h;refine ⟨_,thaw I' h2 λo' u' z=>?_,h3⟩
 have y:=I.base.frzs a o' u' z;rw [h1] at y;cases y
noncomputable def tThaw (t:TE):TE:=λσ H Q=>t σ H λv H'=>Thw H H' (Q v)
theorem pe_thaw {e:Expr} {t:TE} (h:PE X e t):PE X e (tThaw t):=by
 intro pins s σ H Q I q;refine thn (h pins s σ H _ I q) λu s' zz=>?_
 obtain ⟨v,H',I',r,th⟩:=zz;obtain ⟨H2,I2,q2⟩:=th.inv I I';exact ⟨v,H2,I2,r,q2⟩
noncomputable def sThaw (t:TS):TS:=λD σ H=>t {nx:=λσ' H'=>Thw H H' (D.nx σ'),rt:=λv H'=>Thw H H' (D.rt v),bk:=λσ' H'=>Thw H H' (D.bk σ'),ct:=λσ' H'=>Thw H H' (D.ct σ')} σ H
theorem ps_thaw {st:Stmt} {t:TS} (h:PS X st t):PS X st (sThaw t):=by
 intro pins s σ H D I q;refine thn (h pins s σ H _ I q) λf s' hf=>?_
 cases f with
 |next=>obtain ⟨σ',H',I',th⟩:=hf; obtain ⟨H2,I2,q2⟩:=th.inv I I'; exact ⟨σ',H2,I2,q2⟩
 |brk=>obtain ⟨σ',H',I',th⟩:=hf; obtain ⟨H2,I2,q2⟩:=th.inv I I'; exact ⟨σ',H2,I2,q2⟩
 |cont=>obtain ⟨σ',H',I',th⟩:=hf; obtain ⟨H2,I2,q2⟩:=th.inv I I'; exact ⟨σ',H2,I2,q2⟩
 |ret u=>obtain ⟨v,σ',H',I',r,th⟩:=hf; obtain ⟨H2,I2,q2⟩:=th.inv I I'; exact ⟨v,σ',H2,I2,r,q2⟩
end
section
variable {X:Cx}
noncomputable def rCatA (K:PySem.W.Frag):R2:=λx y H Q=>∃ a b xs ys,x=.ref a/\y=.ref b/\SqT K H a xs/\SqT K H b ys/\xs.length+ys.length<=sizeLine/\
 (xs=[]->Q (.ref b) H)/\(xs≠[]->ys=[]->Q (.ref a) H)/\(xs≠[]->ys≠[]->∀ p,H p=none->Q (.ref p) (upd H p (.tup (xs++ys))))
theorem op_catA:OpR X (binaryOp .Add) (rCatA X.K):=by
 intro pins s σ H x y v u Q I rx ry h;obtain ⟨a,b,xs,ys,rfl,rfl,ha,hb,hz,q0,q1,q2⟩:=h;by_cases hx:xs=[]
 ·subst hx;cases rx
  cases ry
  obtain ⟨its,r1,p1,_⟩:=I.tuple ha;obtain ⟨bP,r2,p2,_⟩:=I.tuple hb;cases r1
  obtain ⟨⟨cls,dd,data,sl⟩,ho,hc,n,hd⟩:=id p1;obtain ⟨⟨qm,nY,data2,iH⟩,ho2,hc2,n2,gh⟩:=id p2;simp only at hc hd hc2 gh;subst hc hd hc2 gh;exact concat_meets ⟨_,ho,rfl⟩ ⟨_,ho2,rfl⟩ noFill_tuple_add seq_tuple_add PySem.F.slot_tuple_add PySem.F.entry_tuple_add (PySem.F.args_tuple_add_2 _ _)
   (tuple_addW0 a b #[] bP.toArray n n2 dd nY sl iH (by simp)) ⟨ho,ho2,⟨.ref b,H,I,rfl,q0 rfl⟩⟩
 ·exact op_catT pins s σ H _ _ v u Q I rx ry ⟨a,b,xs,ys,rfl,rfl,ha,hb,hx,hz,q1 hx,q2 hx⟩
theorem Za {K:PySem.W.Frag} (h:X.K=K):OpR X (binaryOp .Add) (rCatA K):=h▸op_catA
theorem Zv {K:PySem.W.Frag} (h:X.K=K):SlR X (rSlT K):=h▸sl_tup
end
section
variable {K:PySem.W.Frag} {idx:List Nat} {te:TE} {σ:L2.St} {H:Hp} {Q:VK}
theorem lc_tup {a:Addr} {xs:List V} (Pv:Nat->List V->Hp->Prop) (h0:Pv 0 [] H) (hz:xs.length<=sizeLine) (hy:∀ i ys H,Pv i ys H->ys.length=i) (hl:∀ i ys H,Pv i ys H->SqT K H a xs)
  (hs:∀ i x ys H (Q':VK),xs[i]?=some x->Pv i ys H->(∀ v H2,Pv (i+1) (ys++[v]) H2->Q' v H2)->te (stIn (some x) idx σ) H Q') (hd:∀ ys H,Pv xs.length ys H->∀ p,H p=none->Q (.ref p) (upd H p (.lst ys))) :
  YE (Itt K a) idx te σ Q H:=by
 refine ⟨λi m ys H=>m=xs.length - i/\i<=xs.length/\Pv i ys H,⟨xs.length,by simp,Nat.zero_le _,h0⟩,?_⟩
 rintro i m ys H ⟨rfl,hi,p⟩;have q:=hl i ys H p;refine ⟨by rw [hy i ys H p]; omega,?_⟩
 by_cases hlt:i < xs.length
 ·refine .inr ⟨⟨xs,xs[i],q,by simp [hlt]⟩,λy H' yl=>?_⟩
  obtain ⟨e,yl⟩:=yl;subst e;exact hs i y ys _ _ (yl xs q) p λv H2 z=>⟨xs.length - (i+1),by omega,rfl,hlt,z⟩
 ·have e:i=xs.length:=by omega
  subst e;exact .inl ⟨⟨xs,q,Nat.le_refl _⟩,hd ys H p⟩
end
noncomputable def FH (H:Hp) (p:Addr) (x:Rat):Prop:=H p=some (.tup [.int x.num,.int ((x.den:Nat):Int)])
section
variable {K:PySem.W.Frag} {H H':Hp} {p b c:Addr} {x y:Rat} {v:V} {ys:List V}
theorem FH.fq (h:FH H p x):FQ K H p x:=SqT.of h
theorem Y3 {n:Nat} {i:Int} (h:0 < i) (l:0 < n):¬ (HT.sIx n 0 (some i)=0/\HT.sIx n n none=n):=λ⟨z,_⟩=>by
 rw [show i=((i.toNat:Nat):Int) by omega,HT.sIx_nat] at z
 omega
end
section
variable {X:Cx}
end
section
variable {K:PySem.W.Frag} {H H':Hp} {b c:Addr} {z:V} {k l:Bx} {ys:List V}
end
end Kw
namespace Kw
end Kw
namespace Kw
open PySem PySem.Spec PyProof.Rows L2
theorem FH.lit {H:Hp} {p:Addr} {t b:Int} (h:H p=some (.tup [.int t,.int b])) (e1:0 < b) (e2:Int.gcd t b=1):FH H p (Rat.divInt t b):=by
 obtain ⟨z1,z2⟩:=q_of e1 e2;unfold FH;rw [z1,z2];exact h
section
variable {X:Cx} {on GD GE GF GG GH:List Expr} {x1 x2 x3 x4 x5 x6:Nat} {q1 q2 q3 q4 q5 q6 q7 pos:Pos} {t1 t2 t3 t4 t5 t6 t7:TE}
theorem pe_lst1 (h1:PE X (.Tuple on x1 q1) t1):PE X (.List [.Tuple on x1 q1] pos) (tLst (yV t1 tNil)):=zv (zA h1 zB)
theorem Z2 {i j:Int} {k1 k2}:PE X (.Tuple [.Constant (.int i) k1 q1,.Constant (.int j) k2 q2] x1 pos) (tTup (yV (tC (.int i)) (yV (tC (.int j)) tNil))):=zP (zA zC (zA zC zB))
theorem pe_tup7 {x7:Nat} {i:Int} {k7} (h1:PE X (.Tuple on x1 q1) t1) (h2:PE X (.Tuple GD x2 q2) t2) (h3:PE X (.Tuple GE x3 q3) t3) (h4:PE X (.Tuple GF x4 q4) t4) (h5:PE X (.Tuple GG x5 q5) t5) (h6:PE X (.Tuple GH x6 q6) t6) :
  PE X (.Tuple [.Tuple on x1 q1,.Tuple GD x2 q2,.Tuple GE x3 q3,.Tuple GF x4 q4,.Tuple GG x5 q5,.Tuple GH x6 q6,.Constant (.int i) k7 q7] x7 pos) (tTup (yV t1 (yV t2 (yV t3 (yV t4 (yV t5 (yV t6 (yV (tC (.int i)) tNil)))))))):=
 zP (zA h1 (zA h2 (zA h3 (zA h4 (zA h5 (zA h6 (zA zC zB)))))))
end
theorem com_fb {n:Int} {D B:Nat} (d1:1<=D) (dB:D < 2 ^ B) (nB:n.natAbs < 2 ^ B):FB B ((n:Rat) / (D:Rat)):=by
 have e:(n:Rat) / (D:Rat)=Rat.divInt n (D:Int):=by
  rw [q_dv];rfl
 rw [e];exact FB.fit (by omega) nB (show ((D:Int)).natAbs < 2 ^ B by rw [Int.natAbs_natCast]; exact dB)
theorem Y1 {D:Nat} (h:1<=D):(D:Rat)≠0:=by
 intro e;have z:((D:Nat):Rat)=((0:Nat):Rat):=e;have z2:=Rat.natCast_inj.mp z;omega
theorem inv_two {a b:Rat} (ha:a≠0) (hb:b≠0):(a * b)⁻¹=a⁻¹ * b⁻¹:=by
 have i1:=Rat.mul_inv_cancel a ha;have i2:=Rat.mul_inv_cancel b hb;have n:a * b≠0:=λz=>by
  rcases Rat.mul_eq_zero.mp z with z|z
  ·exact ha z
  ·exact hb z
 have i3:=Rat.mul_inv_cancel (a * b) n;grind
open AutoSeq1 (wpAny_loadPart')
section
variable {prog:Program} {w:World} {A:Around} {E:Value->Shared->Prop} {s:Shared}
end
section
variable {prog:Program} {w:World} {A:Around} {E:Value->Shared->Prop} {s:Shared}
end
section
variable {X:Cx}
end
theorem ixN_nat {n j:Nat} (h:j < n):ixN n (j:Int)=some j:=by
 unfold ixN;simp;omega
section
variable {K:PySem.W.Frag} {H H':Hp} {v u:V} {o o':Option Rat} {as:List Addr}
end
section
variable {g sh nw x:Addr} {n i:Int} {j:Addr} {co v:V}
end
section
variable {K:PySem.W.Frag} {H H':Hp} {v:V} {m:Rat × Rat × Nat} {as:List Addr}
end
end Kw
namespace Kw
theorem al_app {β:Type} {R:L2.V->β->Prop}:∀ {xs xs':List L2.V} {ys ys':List β},Al2 R xs ys->Al2 R xs' ys'->Al2 R (xs++xs') (ys++ys')
 |[],_,[],_,_,h=>h
 |_::_,_,_::_,_,h,g=>⟨h.1,al_app h.2 g⟩
 |[],_,_::_,_,h,_=>h.elim
 |_::_,_,[],_,h,_=>h.elim
end Kw
namespace Kw
open PySem PySem.Spec PyProof.Rows L2
structure Bq where
 x:Rat
 y:Rat
 w:Rat
 h:Rat
 u:Rat
 v:Rat
 m:Option Int
noncomputable def Bq.pl (b:Bq) (d:Nat):Rat:=if d=0 then b.x else b.y
noncomputable def Bq.sz (b:Bq) (d:Nat):Rat:=if d=0 then b.w else b.h
noncomputable def Bq.sp (b:Bq) (d:Nat):Rat:=if d=0 then b.u else b.v
noncomputable def Bq.far (b:Bq) (d:Nat):Rat:=b.pl d+b.sz d
noncomputable def Bq.with (b:Bq) (d:Nat) (p s:Rat):Bq:=if d=0 then {b with x:=p,u:=s} else {b with y:=p,v:=s}
noncomputable def hicB (a b:Bq) (d:Nat):Bool:=decide (a.pl d < b.far d) && decide (b.pl d < a.far d)
noncomputable def tchB (a b:Bq) (d:Nat):Bool:=decide (a.far d=b.pl d)
noncomputable def besB (a b:Bq) (d:Nat):Bool:=tchB a b d && hicB a b (1 - d)
noncomputable def crnB (a b:Bq):Bool:=(tchB a b 0 || tchB b a 0) && (tchB a b 1 || tchB b a 1)
noncomputable def atB (t:Rat) (b:Bq):Bq:={b with x:=b.x+b.u * t,y:=b.y+b.v * t}
noncomputable abbrev Pr:=Nat × Int × Int
noncomputable def jj (R:Rat × Rat) (d:Nat) (i:Int):Bq:=
 if d=0 then (if i=-1 then ⟨-1,0,1,R.2,0,0,none⟩ else ⟨R.1,0,1,R.2,0,0,none⟩) else (if i=-1 then ⟨0,-1,R.1,1,0,0,none⟩ else ⟨0,R.2,R.1,1,0,0,none⟩)
noncomputable def bxAt (gs:List Bq) (i:Nat):Bq:=gs.getD i ⟨0,0,1,1,0,0,none⟩
noncomputable def boxB (R:Rat × Rat) (gs:List Bq) (d:Nat) (i:Int):Bq:=if 0<=i then bxAt gs i.toNat else jj R d i
noncomputable def jntP (R:Rat × Rat) (gs:List Bq) (p:Pr):Option Rat:=
 if (boxB R gs p.1 p.2.1).sp p.1<=(boxB R gs p.1 p.2.2).sp p.1 then none else some (((boxB R gs p.1 p.2.2).pl p.1 - (boxB R gs p.1 p.2.1).far p.1) / ((boxB R gs p.1 p.2.1).sp p.1 - (boxB R gs p.1 p.2.2).sp p.1))
noncomputable def prs1 (n d:Nat) (one:Int):List Pr:=(((-2:Int)::(List.range n).map λ(i:Nat)=>(i:Int)).filter λo=>decide (one≠o) && (decide (0<=one) || decide (0<=o))).map λo=>(d,one,o)
noncomputable def prsD (n d:Nat):List Pr:=((-1:Int)::(List.range n).map λ(i:Nat)=>(i:Int)).flatMap (prs1 n d)
noncomputable def prsP (n:Nat):List Pr:=prsD n 0++prsD n 1
noncomputable def metP (R:Rat × Rat) (gs:List Bq) (t:Rat) (p:Pr):Bool:=hicB (atB t (boxB R gs p.1 p.2.1)) (atB t (boxB R gs p.1 p.2.2)) (1 - p.1)
noncomputable def corP (R:Rat × Rat) (gs:List Bq) (p:Pr):Bool:=decide (0<=p.2.1) && (decide (0<=p.2.2) && (decide (jntP R gs p=jntP R gs (1 - p.1,p.2.1,p.2.2)) || decide (jntP R gs p=jntP R gs (1 - p.1,p.2.2,p.2.1))))
noncomputable def soonP (now:Rat) (c o:Option Rat):Bool:=match o with
 |none=>false
 |some t=>if t < now then false else (match c with|none=>true|some s=>decide (t < s))
noncomputable def je (R:Rat × Rat) (gs:List Bq) (now:Rat) (c:Option Rat) (p:Pr):Option Rat:=
 if (soonP now c (jntP R gs p) && (metP R gs ((jntP R gs p).getD 0) p || corP R gs p))=true then jntP R gs p else c
noncomputable def comP (R:Rat × Rat) (gs:List Bq) (now:Rat):Option Rat:=(prsP gs.length).foldl (je R gs now) none
noncomputable def cmgP (R:Rat × Rat) (gs:List Bq) (c:Option Rat) (p:Pr):Bool:=decide (c≠none) && decide (jntP R gs p=c)
noncomputable def dueP (R:Rat × Rat) (gs:List Bq) (now:Rat):List Pr:=(prsP gs.length).filter λp=>cmgP R gs (comP R gs now) p && metP R gs ((comP R gs now).getD 0) p
noncomputable def numP (ps:List Pr):List Int:=(ps.map (·.2.1)++ps.map (·.2.2)).filter λi=>decide (0<=i)
noncomputable def twoP (ps:List Pr):Bool:=decide (¬ (numP ps).Nodup)
noncomputable def hemP (R:Rat × Rat) (bs:List Bq) (ps:List Pr):Bool:=(prsP bs.length).any λn=>besB (boxB R bs n.1 n.2.1) (boxB R bs n.1 n.2.2) n.1 && ps.any λp=>decide (p.1=n.1) && (decide (p.2.1=n.2.2) || decide (p.2.2=n.2.1))
noncomputable def cnrP (bs:List Bq) (ps:List Pr):Bool:=(List.range bs.length).any λo=>(List.range o).any λi=>(decide ((i:Int)∈numP ps) || decide ((o:Int)∈numP ps)) && crnB (bxAt bs i) (bxAt bs o)
noncomputable def cloP (R:Rat × Rat) (gs:List Bq) (c:Option Rat):Bool:=(prsP gs.length).any λp=>cmgP R gs c p && corP R gs p
noncomputable def crwP (R:Rat × Rat) (gs:List Bq) (now:Rat):Bool:=
 twoP (dueP R gs now) || (hemP R (gs.map (atB ((comP R gs now).getD 0))) (dueP R gs now) || (cnrP (gs.map (atB ((comP R gs now).getD 0))) (dueP R gs now) || cloP R gs (comP R gs now)))
noncomputable def ptd (a b:Rat × Rat × Option Int):Rat × Rat:=match b.2.2 with
 |none=>(b.1+b.1 - a.1,-a.2.1)
 |some u=>(mixQ a.1 b.1 (a.2.2.getD 1) u,mixQ a.2.1 b.2.1 (a.2.2.getD 1) u)
noncomputable def farG (b:Bq) (d:Nat):Rat × Rat × Option Int:=(b.far d,b.sp d,b.m)
noncomputable def jI (b:Bq) (d:Nat):Rat × Rat × Option Int:=(b.pl d,b.sp d,b.m)
noncomputable def withF (b:Bq) (d:Nat) (g:Rat × Rat):Bq:=b.with d (g.1 - b.sz d) g.2
noncomputable def withN (b:Bq) (d:Nat) (g:Rat × Rat):Bq:=b.with d g.1 g.2
noncomputable def prtA (R:Rat × Rat) (gs:List Bq) (p:Pr):List Bq:=
 if 0<=p.2.1 then gs.set p.2.1.toNat (withF (boxB R gs p.1 p.2.1) p.1 (ptd (farG (boxB R gs p.1 p.2.1) p.1) (jI (boxB R gs p.1 p.2.2) p.1))) else gs
noncomputable def prtP (R:Rat × Rat) (gs:List Bq) (p:Pr):List Bq:=
 if 0<=p.2.2 then (prtA R gs p).set p.2.2.toNat (withN (boxB R gs p.1 p.2.2) p.1 (ptd (jI (boxB R gs p.1 p.2.2) p.1) (farG (boxB R gs p.1 p.2.1) p.1))) else prtA R gs p
noncomputable def onP (R:Rat × Rat) (gs:List Bq) (now:Rat):List Bq:=(dueP R gs now).foldl (prtP R) gs
noncomputable def mtsP (R:Rat × Rat) (gs:List Bq) (now:Rat):List (Rat × Pr):=(dueP R gs now).map λp=>((comP R gs now).getD 0,p)
inductive RunP (R:Rat × Rat):List Bq->Rat->Nat->String->List (Rat × Pr)->List Bq->Rat->Prop
 |still {gs:List Bq} {now:Rat} {n:Nat} (h:comP R gs now=none):RunP R gs now n "still" [] gs now
 |more {gs:List Bq} {now t:Rat} (h:comP R gs now=some t):RunP R gs now 0 "more" [] gs now
 |crowd {gs:List Bq} {now t:Rat} {n:Nat} (h:comP R gs now=some t) (c:crwP R gs now=true):RunP R gs now (n+1) "crowd" [] gs now
 |step {gs:List Bq} {now t:Rat} {n:Nat} {wd:String} {ms:List (Rat × Pr)} {es:List Bq} {last:Rat} (h:comP R gs now=some t) (c:crwP R gs now=false) (r:RunP R (onP R gs now) t n wd ms es last):RunP R gs now (n+1) wd (mtsP R gs now++ms) es last
noncomputable def wV:Option Int->V
 |none=>.non
 |some m=>.int m
noncomputable def WtO (o:Option Int):Prop:=∀ m,o=some m->1<=m/\m<=1000
noncomputable def BqH (K:PySem.W.Frag) (N:Nat) (H:Hp) (z:V) (b:Bq):Prop:=∃ p a0 a1 a2 a3 a4 a5,z=.ref p/\SqT K H p [.ref a0,.ref a1,.ref a2,.ref a3,.ref a4,.ref a5,wV b.m]/\
 (FQ K H a0 b.x/\FQ K H a1 b.y/\FQ K H a2 b.w/\FQ K H a3 b.h/\FQ K H a4 b.u/\FQ K H a5 b.v)/\(FB N b.x/\FB N b.y/\FB 1990 b.w/\FB 1990 b.h/\FB 1990 b.u/\FB 1990 b.v)/\WtO b.m
noncomputable def GoQ (K:PySem.W.Frag) (N:Nat) (H:Hp) (z:V) (g:Rat × Rat × Option Int):Prop:=∃ p a c,z=.ref p/\SqT K H p [.ref a,.ref c,wV g.2.2]/\FQ K H a g.1/\FQ K H c g.2.1/\FB N g.1/\FB 1990 g.2.1/\WtO g.2.2
section
variable {K:PySem.W.Frag} {H H':Hp} {N M:Nat} {z:V} {b:Bq} {g:Rat × Rat × Option Int} {as:List Addr}
theorem BqH.same (h:BqH K N H z b) (s:Same H H'):BqH K N H' z b:=by
 obtain ⟨p,a0,a1,a2,a3,a4,a5,e,h1,⟨g0,g1,g2,g3,g4,g5⟩,d⟩:=h;exact ⟨p,a0,a1,a2,a3,a4,a5,e,Kw.Same.tup s h1,⟨Kw.Same.tup s g0,Kw.Same.tup s g1,Kw.Same.tup s g2,Kw.Same.tup s g3,Kw.Same.tup s g4,Kw.Same.tup s g5⟩,d⟩
theorem BqH.buts (h:BqH K N H z b) (s:Buts as H H') (n:NoT as H):BqH K N H' z b:=by
 obtain ⟨p,a0,a1,a2,a3,a4,a5,e,h1,⟨g0,g1,g2,g3,g4,g5⟩,d⟩:=h;exact ⟨p,a0,a1,a2,a3,a4,a5,e,s.tup n h1,⟨s.tup n g0,s.tup n g1,s.tup n g2,s.tup n g3,s.tup n g4,s.tup n g5⟩,d⟩
theorem BqH.mono (h:BqH K N H z b) (l:N<=M):BqH K M H z b:=by
 obtain ⟨p,a0,a1,a2,a3,a4,a5,e,h1,g,⟨d0,d1,d⟩,w⟩:=h;exact ⟨p,a0,a1,a2,a3,a4,a5,e,h1,g,⟨d0.mono l,d1.mono l,d⟩,w⟩
theorem zY {vs:List V} {bs:List Bq} (h:Al2 (BqH K N H) vs bs) (s:Same H H'):Al2 (BqH K N H') vs bs:=Al2.imp (λ_ _ z=>z.same s) h
theorem yg {vs:List V} {bs:List Bq} (h:Al2 (BqH K N H) vs bs) (s:Buts as H H') (n:NoT as H):Al2 (BqH K N H') vs bs:=Al2.imp (λ_ _ z=>z.buts s n) h
theorem GoQ.same (h:GoQ K N H z g) (s:Same H H'):GoQ K N H' z g:=by
 obtain ⟨p,a,c,e,h1,h2,h3,d⟩:=h;exact ⟨p,a,c,e,Kw.Same.tup s h1,Kw.Same.tup s h2,Kw.Same.tup s h3,d⟩
theorem d01 {d:Nat} (h:d<=1):d=0\/d=1:=by omega
end
noncomputable def keyP (p:Pr):List Key:=[.inl (p.1:Int),.inl p.2.1,.inl p.2.2]
noncomputable def keyW (d:Nat) (i:Int):List Key:=[.inl (d:Int),.inl i]
theorem keyP_inj {a b:Pr} (h:keyP a=keyP b):a=b:=by
 obtain ⟨a1,a2,a3⟩:=a;obtain ⟨b1,b2,b3⟩:=b;unfold keyP at h;simp only [List.cons.injEq,Sum.inl.injEq,and_true] at h;obtain ⟨h1,h2,h3⟩:=h;have:a1=b1:=by omega
 subst this h2 h3;rfl
noncomputable def OptB (K:PySem.W.Frag) (H:Hp) (v:V) (o:Option Rat):Prop:=(o=none/\v=.non)\/∃ (q:Rat) (p:Addr),o=some q/\v=.ref p/\FQ K H p q/\FB 2000 q
noncomputable def Wls (K:PySem.W.Frag) (H:Hp) (wl:Addr) (R:Rat × Rat):Prop:=∃ w0 w1 w2 w3:V,H wl=some (.dT [(keyW 0 (-1),w0),(keyW 0 (-2),w1),(keyW 1 (-1),w2),(keyW 1 (-2),w3)])/\BqH K 1990 H w0 (jj R 0 (-1))/\BqH K 1990 H w1 (jj R 0 (-2))/\BqH K 1990 H w2 (jj R 1 (-1))/\BqH K 1990 H w3 (jj R 1 (-2))
section
variable {K:PySem.W.Frag} {H H':Hp} {v:V} {o:Option Rat} {as:List Addr} {wl:Addr} {R:Rat × Rat} {a:Addr} {u:HO}
theorem OptB.same (h:OptB K H v o) (s:Same H H'):OptB K H' v o:=by
 rcases h with h|⟨q,p,e,e2,g,d⟩
 ·exact .inl h
 ·exact .inr ⟨q,p,e,e2,Kw.Same.tup s g,d⟩
theorem OptB.buts (h:OptB K H v o) (s:Buts as H H') (n:NoT as H):OptB K H' v o:=by
 rcases h with h|⟨q,p,e,e2,g,d⟩
 ·exact .inl h
 ·exact .inr ⟨q,p,e,e2,s.tup n g,d⟩
theorem OptB.non (h:OptB K H v o):v=.non↔o=none:=by
 rcases h with ⟨e,e2⟩|⟨q,p,e,e2,_⟩
 ·exact ⟨λ_=>e,λ_=>e2⟩
 ·exact ⟨λz=>by (rw [e2] at z; cases z),λz=>by (rw [e] at z; cases z)⟩
theorem optb_same {vs:List V} {os:List (Option Rat)} (h:Al2 (OptB K H) vs os) (s:Same H H'):Al2 (OptB K H') vs os:=Al2.imp (λ_ _ z=>z.same s) h
theorem yY {vs:List V} {os:List (Option Rat)} (h:Al2 (OptB K H) vs os) (s:Buts as H H') (n:NoT as H):Al2 (OptB K H') vs os:=Al2.imp (λ_ _ z=>z.buts s n) h
theorem Wls.same (h:Wls K H wl R) (s:Same H H'):Wls K H' wl R:=by
 obtain ⟨w0,w1,w2,w3,e,h0,h1,h2,h3⟩:=h;exact ⟨w0,w1,w2,w3,s _ _ e,h0.same s,h1.same s,h2.same s,h3.same s⟩
theorem Wls.buts (h:Wls K H wl R) (s:Buts as H H') (n:NoT as H) (nw:wl∉as):Wls K H' wl R:=by
 obtain ⟨w0,w1,w2,w3,e,h0,h1,h2,h3⟩:=h;exact ⟨w0,w1,w2,w3,s _ _ nw e,h0.buts s n,h1.buts s n,h2.buts s n,h3.buts s n⟩
theorem Wls.get (h:Wls K H wl R) {d:Nat} {i:Int} (hd:d<=1) (hi:i=-1\/i=-2):∃ w kvs,H wl=some (.dT kvs)/\valV kvs (keyW d i)=some w/\BqH K 1990 H w (jj R d i):=by
 obtain ⟨w0,w1,w2,w3,e,h0,h1,h2,h3⟩:=h;rcases d01 hd with rfl|rfl
 ·rcases hi with rfl|rfl
  ·exact ⟨w0,_,e,by with_unfolding_all rfl,h0⟩
  ·exact ⟨w1,_,e,by with_unfolding_all rfl,h1⟩
 ·rcases hi with rfl|rfl
  ·exact ⟨w2,_,e,by with_unfolding_all rfl,h2⟩
  ·exact ⟨w3,_,e,by with_unfolding_all rfl,h3⟩
theorem rd_same (h:Rd H a u) (s:Same H H'):Rd H' a u:=h.elim (λz=>.inl (s _ _ z)) λ⟨o,z⟩=>.inr ⟨o,s _ _ z⟩
end
structure NoM (fs:List (Str × V)):Prop where
 one_of:fs.lookup ("one_of" : Str)=none
 other_of:fs.lookup ("other_of" : Str)=none
 joint_of:fs.lookup ("joint_of" : Str)=none
 look_ahead:fs.lookup ("look_ahead" : Str)=none
 is_sooner:fs.lookup ("is_sooner" : Str)=none
 is_coming:fs.lookup ("is_coming" : Str)=none
 meet_at:fs.lookup ("meet_at" : Str)=none
 close_at_a_corner:fs.lookup ("close_at_a_corner" : Str)=none
 meetings:fs.lookup ("meetings" : Str)=none
 boxes_met:fs.lookup ("boxes_met" : Str)=none
 is_crowded:fs.lookup ("is_crowded" : Str)=none
 has_two_meetings:fs.lookup ("has_two_meetings" : Str)=none
 is_hemmed_in:fs.lookup ("is_hemmed_in" : Str)=none
 has_a_corner:fs.lookup ("has_a_corner" : Str)=none
 bodies_at:fs.lookup ("bodies_at" : Str)=none
 part:fs.lookup ("part" : Str)=none
 go_on:fs.lookup ("go_on" : Str)=none
structure PlG (K:PySem.W.Frag) (H:Hp) (C p:Addr) (R:Rat × Rat) (gs:List Bq) (dx:Addr) (fs:List (Str × V)) (wl g:Addr) (xs:List V):Prop where
 ob:H p=some (.ins C dx fs)
 fw:fs.lookup ("walls" : Str)=some (.ref wl)
 fg:fs.lookup ("goings" : Str)=some (.ref g)
 ws:Wls K H wl R
 hg:H g=some (.lst xs)
 al:Al2 (BqH K 1990 H) xs gs
 nm:NoM fs
structure PlJ (K:PySem.W.Frag) (H:Hp) (R:Rat × Rat) (gs:List Bq) (fs:List (Str × V)) (j:Addr) (kvs:List (List Key × V)):Prop where
 fj:fs.lookup ("joints" : Str)=some (.ref j)
 hj:Rd H j (.dT kvs)
 ks:kvs.map (·.1)=(prsP gs.length).map keyP
 js:Al2 (OptB K H) (kvs.map (·.2)) ((prsP gs.length).map (jntP R gs))
structure PlC (K:PySem.W.Frag) (H:Hp) (now:Rat) (c:Option Rat) (fs:List (Str × V)) (nw:Addr) (co:V):Prop where
 fn:fs.lookup ("now" : Str)=some (.ref nw)
 gn:FQ K H nw now
 dn:FB 2000 now
 fc:fs.lookup ("coming" : Str)=some co
 oc:OptB K H co c
section
variable {K:PySem.W.Frag} {H H':Hp} {C p:Addr} {R:Rat × Rat} {gs:List Bq} {dx:Addr} {fs:List (Str × V)} {wl g j nw:Addr} {xs:List V} {kvs:List (List Key × V)} {now:Rat} {c:Option Rat} {co:V} {as:List Addr}
theorem PlG.same (h:PlG K H C p R gs dx fs wl g xs) (s:Same H H'):PlG K H' C p R gs dx fs wl g xs:=⟨s _ _ h.ob,h.fw,h.fg,h.ws.same s,s _ _ h.hg,zY h.al s,h.nm⟩
theorem PlJ.same (h:PlJ K H R gs fs j kvs) (s:Same H H'):PlJ K H' R gs fs j kvs:=⟨h.fj,rd_same h.hj s,h.ks,optb_same h.js s⟩
theorem PlC.same (h:PlC K H now c fs nw co) (s:Same H H'):PlC K H' now c fs nw co:=⟨h.fn,Kw.Same.tup s h.gn,h.dn,h.fc,h.oc.same s⟩
theorem val_at:∀ {kvs:List (List Key × V)} {ps:List Pr} {os:List (Option Rat)} {f:Pr->Option Rat},kvs.map (·.1)=ps.map keyP->Al2 (OptB K H) (kvs.map (·.2)) (ps.map f)->∀ q∈ps,∃ v,valV kvs (keyP q)=some v/\OptB K H v (f q)
 |[],[],_,_,_,_,q,hq=>nomatch hq
 |[],_::_,_,_,h,_,_,_=>nomatch h
 |_::_,[],_,_,h,_,_,_=>nomatch h
 |kv::kvs,p::ps,os,f,h,al,q,hq=>by
  simp only [List.map_cons,List.cons.injEq] at h;obtain ⟨e,r⟩:=h;by_cases z:p=q
  ·subst z;exact ⟨kv.2,YN e,al.1⟩
  ·have hq':q∈ps:=(List.mem_cons.mp hq).resolve_left λy=>z y.symm
   obtain ⟨v,e1,e2⟩:=val_at (os:=os) r al.2 q hq';exact ⟨v,by rw [YS (λy=>z (keyP_inj (e▸y)))]; exact e1,e2⟩
theorem PlJ.get (h:PlJ K H R gs fs j kvs) {q:Pr} (hq:q∈prsP gs.length):∃ v,valV kvs (keyP q)=some v/\OptB K H v (jntP R gs q):=val_at (os:=[]) h.ks h.js q hq
end
theorem mem_prs1 {n d:Nat} {one:Int} {q:Pr}:q∈prs1 n d one↔q.1=d/\q.2.1=one/\(q.2.2=-2\/∃ i,i < n/\q.2.2=(i:Int))/\one≠q.2.2/\(0<=one\/0<=q.2.2):=by
 obtain ⟨q1,q2,q3⟩:=q;unfold prs1;simp only [List.mem_map,List.mem_filter,List.mem_cons,List.mem_range,Bool.and_eq_true,Bool.or_eq_true,decide_eq_true_eq,Prod.mk.injEq];constructor
 ·rintro ⟨o,⟨h1,h2,h3⟩,rfl,rfl,rfl⟩;refine ⟨rfl,rfl,?_,h2,h3⟩;rcases h1 with h1|⟨i,hi,e⟩
  ·exact .inl h1
  ·exact .inr ⟨i,hi,e.symm⟩
 ·rintro ⟨rfl,rfl,h1,h2,h3⟩;refine ⟨q3,⟨?_,h2,h3⟩,rfl,rfl,rfl⟩;rcases h1 with h1|⟨i,hi,e⟩
  ·exact .inl h1
  ·exact .inr ⟨i,hi,e.symm⟩
noncomputable def InP (n:Nat) (q:Pr):Prop:=q.1<=1/\(q.2.1=-1\/∃ i,i < n/\q.2.1=(i:Int))/\(q.2.2=-2\/∃ i,i < n/\q.2.2=(i:Int))/\q.2.1≠q.2.2/\(0<=q.2.1\/0<=q.2.2)
theorem mem_prsD {n d:Nat} {q:Pr}:q∈prsD n d↔q.1=d/\(q.2.1=-1\/∃ i,i < n/\q.2.1=(i:Int))/\(q.2.2=-2\/∃ i,i < n/\q.2.2=(i:Int))/\q.2.1≠q.2.2/\(0<=q.2.1\/0<=q.2.2):=by
 unfold prsD;rw [List.mem_flatMap];constructor
 ·rintro ⟨one,h1,h2⟩;obtain ⟨a,rfl,b,c,e⟩:=mem_prs1.mp h2;refine ⟨a,?_,b,c,e⟩;rcases List.mem_cons.mp h1 with h1|h1
  ·exact .inl h1
  ·obtain ⟨i,hi,ei⟩:=List.mem_map.mp h1;exact .inr ⟨i,List.mem_range.mp hi,ei.symm⟩
 ·rintro ⟨a,h1,b,c,e⟩;refine ⟨q.2.1,?_,mem_prs1.mpr ⟨a,rfl,b,c,e⟩⟩;rcases h1 with h1|⟨i,hi,ei⟩
  ·rw [h1];exact List.mem_cons_self ..
  ·rw [ei];exact List.mem_cons_of_mem _ (List.mem_map.mpr ⟨i,List.mem_range.mpr hi,rfl⟩)
theorem jC {n:Nat} {q:Pr}:q∈prsP n↔InP n q:=by
 unfold prsP InP;rw [List.mem_append,mem_prsD,mem_prsD];constructor
 ·rintro (⟨a,r⟩|⟨a,r⟩)
  ·exact ⟨by omega,r⟩
  ·exact ⟨by omega,r⟩
 ·rintro ⟨a,r⟩;rcases d01 a with a|a
  ·exact .inl ⟨a,r⟩
  ·exact .inr ⟨a,r⟩
end Kw
namespace Kw
open PySem PySem.Spec PySem.NumText PyProof.Rows L2
end Kw
namespace Kw
open PySem PySem.Spec PySem.NumText PyProof.Rows L2
section
variable {X:Cx}
theorem any_range_bl (bs:List Bool):(List.range bs.length).any (λi=>bs.getD i false)=bs.any id:=by
 rw [Bool.eq_iff_iff,List.any_eq_true,List.any_eq_true];constructor
 ·rintro ⟨i,hi,h⟩;have hi':=List.mem_range.mp hi;exact ⟨bs[i],List.getElem_mem hi',by simpa [List.getD,hi'] using h⟩
 ·rintro ⟨b,hb,h⟩;obtain ⟨i,hi,rfl⟩:=List.mem_iff_getElem.mp hb;exact ⟨i,List.mem_range.mpr hi,by simpa [List.getD,hi] using h⟩
noncomputable def rAny (K:PySem.W.Frag):List V->Hp->VK->Prop:=λxs H Q=>∃ p,∃ bs:List Bool,xs=[.ref p]/\SqL K H p (bs.map V.bl)/\Q (.bl (bs.any id)) H
theorem call_any {K:PySem.W.Frag} (hK:X.K=K) (hc:X.calm=true):yx X (.builtin "any") (rAny K):=by
 subst hK;intro pins s σ H xs us Q I r h;obtain ⟨p,bs,rfl,hp,q⟩:=h;obtain ⟨u,rfl,rx⟩:=Zn r;cases rx
 obtain ⟨its,r',pl,hz⟩:=I.list hp;have hlen:=r'.length;rw [List.length_map] at hlen;have hlt:p < s.heap.objs.size:=by
  obtain ⟨o,n,e,_⟩:=pl;exact Heap.lt_size e
 refine call_any_walk (wpAny_pyIter_list pl.isList ?_);refine ⟨s.heap.objs.size,[s.heap.objs.size,p],[s.heap.objs.size],its.toArray.size,λi v=>its.toArray[i]?=some v,λi h=>h.IsListIter s.heap.objs.size p i/\h.IsList p its.toArray,λi=>bs.getD i false,rfl,Walks.list (A:=X.A.in1) (I.ok.hd hc) s.heap.objs.size p (Nat.ne_of_lt hlt) its.toArray,⟨⟨_,Heap.get?_push_size _ rfl,rfl,rfl⟩,pl.isList.push _⟩,?_,λh' tk kk=>?_⟩
 ·intro i v z Q' E' hv hq;have hv':its[i]?=some v:=by simpa using hv
  obtain ⟨hi,e⟩:=List.getElem?_eq_some_iff.mp hv';have hi':i < bs.length:=by omega
  have eb:(bs.map V.bl)[i]?=some (V.bl bs[i]):=by rw [List.getElem?_map,List.getElem?_eq_getElem hi']; rfl
  obtain ⟨w',hw,rw'⟩:=r'.get eb;rw [hv'] at hw;cases hw
  cases (show v=Value.bool bs[i] from rw')
  have e2:bs.getD i false=bs[i]:=by simp [List.getD,hi']
  dsimp only at hq;rw [e2] at hq;exact wpAny_truthy_bool hq
 ·rw [List.size_toArray,<- hlen,any_range_bl];refine ⟨.bl (bs.any id),H,I.kept (t':=tk) λb o e=>?_,rfl,q⟩
  exact kk b o (λz=>by
   have e':=List.mem_singleton.mp z;have:=Heap.lt_size e;rw [e'] at this
   exact Nat.lt_irrefl _ this) (Heap.get?_push_of_some _ e)
end
end Kw
namespace Kw
open PySem PySem.Spec PySem.NumText PyProof.Rows L2
section
variable {X:Cx}
end
end Kw
namespace Kw
open PySem PySem.Spec PySem.NumText PyProof.Rows L2
section
variable {prog:Program} {w:World} {A:Around} {E:Value->Shared->Prop} {s:Shared} {I l:Addr} {items:Array Value}
end
section
variable {X:Cx}
end
end Kw
namespace Kw
open PySem PySem.Spec PySem.NumText PyProof.Rows L2
end Kw
namespace Kw
open PySem PySem.Spec PySem.NumText PyProof.Rows L2
end Kw
namespace Kw
open PySem PySem.Spec PySem.NumText PyProof.Rows L2
section
variable {X:Cx}
noncomputable def rInD (K:PySem.W.Frag):V->V->Hp->VK->Prop:=λx y H Q=>∃ (d:PyData) (ds:List PyData),Dp K H x d/\(Dp K H y (.list ds)\/Dp K H y (.tuple ds))/\PyData.canLayAll0 ds=true/\d.canLay0=true/\min (PyData.depthAll ds) d.depth<=60/\Q (.bl (ds.any λz=>PyData.eqv z d)) H
theorem op_inD {K:PySem.W.Frag} (hK:X.K=K) (hu:X.A.units+100 < cLine):OpR X (compareOp .In) (rInD K):=by
 subst hK;intro pins s σ H x y v u Q I rx ry h;obtain ⟨d,ds,hx,hy,cs,cd,dep,q⟩:=h;obtain ⟨as,ra⟩:=hx.reads I rx;rcases hy with hy|hy
 ·obtain ⟨bs,rb⟩:=hy.reads I ry;exact SeqAt.in_list_reads rb ra cs cd (by omega) ⟨.bl _,H,I,rfl,q⟩
 ·obtain ⟨bs,rb⟩:=hy.reads I ry;exact SeqAt.in_tuple_reads rb ra cs cd (by omega) ⟨.bl _,H,I,rfl,q⟩
end
end Kw
namespace Kw
open PySem PySem.Spec PyProof.Rows L2
section
variable {β:Type} {R:V->β->Prop} {xs:List V} {bs:List β}
end
end Kw
namespace Kw
open PySem PySem.Spec PySem.NumText PyProof.Rows L2
section
variable {X:Cx}
end
end Kw
namespace Kw
open PySem PySem.Spec PyProof.Rows L2
section
variable {X:Cx}
end
section
variable {X:Cx} {k k':Nat} {C:Addr} {x:Str} {ps:List Str} {sp:Sp} {E:XK} {p pos:Pos}
end
noncomputable def strV (k:String):V:=.str (Str.ofString k)
theorem sqt2 {K:PySem.W.Frag} {A:Addr} {o:Option Addr} {a b:String} {k1 k2:Tok} {n:Nat} {sl:Array (Option Value)} (h:K.lookup A=some ⟨.type "tuple",o,.seq #[.str (Str.ofString a) k1,.str (Str.ofString b) k2] n,sl⟩):∀ H,SqT K H A ([a,b].map strV):=λH=>
 .inr ⟨_,_,_,h,rfl,rfl,by show 2<=sizeLine; decide,.cons ⟨_,rfl⟩ (.cons ⟨_,rfl⟩ .nil)⟩
noncomputable def tGlobS (K:PySem.W.Frag) (ks:List String):TE:=λ_ H Q=>∀ N,(∀ H1,SqT K H1 N (ks.map strV))->Q (.ref N) H
theorem pe_globS3 {X:Cx} {K:PySem.W.Frag} {ks:List String} {x:Str} {pos:Pos} (hK:X.K=K) (hg:Gl X x) (hm:∃ N,X.mg x=some (.ref N)/\∀ H,SqT K H N (ks.map strV)) (hd:(x == ("__debug__" : Str))=false:=by decide):PE X (.Name x pos) (tGlobS K ks):=by
 obtain ⟨N,hm,hN⟩:=hm;intro pins s σ H Q I h;exact Jc hg hm (v:=.ref N) rfl hd pins s σ H Q I (h N hN)
noncomputable def dd (ns:List Int):List Int:=ns.foldl step_dedup []
theorem first_dd (ns:List Int):firstMet (λi=>ns.getD i 0) ns.length=dd ns:=by
 unfold firstMet dd;congr 1;refine List.ext_getElem? λi=>?_
 rw [List.getElem?_map];by_cases h:i < ns.length
 ·rw [List.getElem?_range h,List.getElem?_eq_getElem h];simp [List.getD_eq_getElem?_getD,List.getElem?_eq_getElem h]
 ·rw [List.getElem?_eq_none (by simpa using h),List.getElem?_eq_none (by omega)]
  rfl
theorem dd_fold:∀ (ns σ:List Int),σ.Nodup->(ns.foldl step_dedup σ).length<=σ.length+ns.length/\((ns.foldl step_dedup σ).length=σ.length+ns.length↔(σ++ns).Nodup)
 |[],σ,h=>by simp [h]
 |n::ns,σ,h=>by
  rw [List.foldl_cons];by_cases e:σ.any (· == n)=true
  ·have m:n∈σ:=by simpa [List.any_eq_true,beq_iff_eq] using e
   have es:step_dedup σ n=σ:=if_pos e;rw [es];have ih:=dd_fold ns σ h;refine ⟨by simp; omega,⟨λz=>?_,λz=>?_⟩⟩
   ·simp only [List.length_cons] at z;omega
   ·have:=(List.nodup_append.mp z).2.2 n m n (List.mem_cons_self ..);exact absurd rfl this
  ·have m:n∉σ:=by simpa [List.any_eq_true,beq_iff_eq] using e
   have es:step_dedup σ n=σ++[n]:=if_neg e;rw [es];have h':(σ++[n]).Nodup:=List.nodup_append.mpr ⟨h,by simp,λa ha b hb e=>m (by rw [List.mem_singleton.mp hb] at e; exact e▸ha)⟩
   have ih:=dd_fold ns (σ++[n]) h';rw [List.length_append,List.length_singleton] at ih;rw [show σ++n::ns=σ++[n]++ns by simp]
   refine ⟨by simp; omega,?_⟩
   rw [<- ih.2];simp only [List.length_cons];omega
theorem dd_two (ns:List Int):(dd ns).length < ns.length↔¬ ns.Nodup:=by
 have z:=dd_fold ns [] List.nodup_nil;simp only [List.length_nil,Nat.zero_add,List.nil_append] at z;unfold dd;rw [<- z.2];omega
section
variable {X:Cx}
theorem call_setI (hc:X.calm=true):yx X (.type "set") (λxs H Q=>∃ p ns,xs=[.ref p]/\SqL X.K H p (ns.map V.int)/\ns.length < 4000/\∀ l,H l=none->Q (.ref l) (upd H l (.set (λk=>(dd ns).any (· == k)) (dd ns).length))):=by
 intro pins s σ H xs us Q I r h;obtain ⟨p,ns,rfl,hq,h64,q⟩:=h;obtain ⟨u,rfl,rx⟩:=Zn r;cases rx
 obtain ⟨its,r',pl,hz⟩:=I.list hq;have hlen:=r'.length;rw [List.length_map] at hlen;refine PySem.call_set_list (I.ok.hd hc) pl.isList (by simpa using Kw.vals_ints r') (by show its.toArray.size+1 < 4096; simp; omega) λh' tk hS hk=>?_
 have hsz:its.toArray.size=ns.length:=by simp; omega
 rw [hsz,first_dd] at hS;exact ⟨.ref s.heap.objs.size,_,I.laid (t':=tk) (o:=.set (λk=>(dd ns).any (· == k)) (dd ns).length) (λb o ho=>hk b o (Heap.lt_size ho) ho) (Nat.le_refl _) hS,rfl,q _ (I.hok.fresh (Nat.le_refl _))⟩
theorem call_lenS:yx X (.builtin "len") (λxs H Q=>∃ p S n,xs=[.ref p]/\H p=some (.set S n)/\Q (.int n) H):=by
 intro pins s σ H xs us Q I r h;obtain ⟨p,S,n,rfl,hp,q⟩:=h;obtain ⟨u,rfl,rx⟩:=Zn r;cases rx
 obtain ⟨o,es,ep,t,ho,hex,hd,_,_,hb,hf,rfl⟩:=(I.hok p _ hp:s.heap.SetOf (intKind X.prog X.w) p S n);have hb':es.size < 4096:=hb;exact call_len_set ho hex hd hf (by omega) ⟨.int _,H,I.tok _,⟨_,rfl⟩,q⟩
end
noncomputable def opD:Option Rat->PyData
 |none=>.none
 |some q=>frd q
theorem YZ (o:Option Rat):(opD o).canLay0=true:=by cases o<;>rfl
theorem opD_dep (o:Option Rat):(opD o).depth<=2:=by
 cases o with
 |none=>decide
 |some q=>exact Nat.le_of_ble_eq_true rfl
theorem opD_eqv (a b:Option Rat):PyData.eqv (opD a) (opD b)=decide (a=b):=by
 cases a with
 |none=>cases b with
  |none=>rfl
  |some q=>rfl
 |some p=>cases b with
  |none=>rfl
  |some q=>
   show PyData.eqv (frd p) (frd q)=_;unfold frd;rw [eqv_2];by_cases e:p=q
   ·subst e;rw [decide_eq_true rfl,decide_eq_true rfl,decide_eq_true rfl];rfl
   ·rw [decide_eq_false (λz=>e (Option.some.inj z))]
    by_cases e1:p.num=q.num
    ·by_cases e2:p.den=q.den
     ·exact absurd (Rat.ext e1 e2) e
     ·rw [decide_eq_false (show ¬ ((p.den:Nat):Int)=((q.den:Nat):Int) by omega),Bool.and_false]
    ·rw [decide_eq_false e1,Bool.false_and]
theorem OptB.dp {K:PySem.W.Frag} {H:Hp} {v:V} {o:Option Rat} (h:OptB K H v o):Dp K H v (opD o):=by
 rcases h with ⟨rfl,rfl⟩|⟨q,p,rfl,rfl,g,_⟩
 ·exact .non
 ·exact .tup g (.cons (.int _) (.cons (.int _) .nil))
theorem op_eqOB {X:Cx} {K:PySem.W.Frag} (hK:X.K=K) (hu:X.A.units+100 < cLine):OpR X (compareOp .Eq) (λa b H Q=>∃ o o',OptB K H a o/\OptB K H b o'/\Q (.bl (decide (o=o'))) H):=by
 intro pins s σ H a b v u Q I rx ry h;obtain ⟨o,o',h1,h2,k⟩:=h;refine op_eqD hK hu pins s σ H _ _ v u Q I rx ry ⟨opD o,opD o',h1.dp,h2.dp,YZ _,YZ _,?_,?_⟩
 ·have:=opD_dep o;have:=opD_dep o';omega
 rw [opD_eqv];exact k
theorem op_inOB {X:Cx} {K:PySem.W.Frag} (hK:X.K=K) (hu:X.A.units+100 < cLine):OpR X (compareOp .In) (λx y H Q=>∃ (t:Addr) (a b:V) (o o1 o2:Option Rat),y=.ref t/\SqT K H t [a,b]/\OptB K H x o/\OptB K H a o1/\OptB K H b o2/\Q (.bl (decide (o=o1) || decide (o=o2))) H):=by
 intro pins s σ H x y v u Q I rx ry h;obtain ⟨t,a,b,o,o1,o2,rfl,ht,h0,h1,h2,k⟩:=h;refine op_inD hK hu pins s σ H _ _ v u Q I rx ry ⟨opD o,[opD o1,opD o2],h0.dp,.inr (.tup ht (.cons h1.dp (.cons h2.dp .nil))),?_,YZ _,?_,?_⟩
 ·show (PyData.canLay0 (opD o1) && (PyData.canLay0 (opD o2) && true))=true;rw [YZ,YZ];rfl
 ·have:=opD_dep o;omega
 ·simp only [List.any_cons,List.any_nil,Bool.or_false,opD_eqv];rw [show decide (o1=o)=decide (o=o1) from decide_eq_decide.mpr eq_comm,show decide (o2=o)=decide (o=o2) from decide_eq_decide.mpr eq_comm];exact k
theorem ZB {f k:Str} {v:V} (h:k≠f):∀ fs:List (Str × V),(putF f v fs).lookup k=fs.lookup k
 |[]=>by
  show (match k == f with|true=>some v|false=>none)=none
  rw [beq_false_of_ne h]
 | (g,x)::r=>by
  unfold putF;by_cases e:g=f
  ·subst e;rw [if_pos rfl,List.lookup_cons,List.lookup_cons,beq_false_of_ne h]
  ·rw [if_neg e,List.lookup_cons,List.lookup_cons,ZB h r]
theorem look_eq {f:Str} {v:V}:∀ fs:List (Str × V),(putF f v fs).lookup f=some v
 |[]=>by
  show (match f == f with|true=>some v|false=>none)=some v
  rw [beq_self_eq_true]
 | (g,x)::r=>by
  unfold putF;by_cases e:g=f
  ·subst e;rw [if_pos rfl,List.lookup_cons,beq_self_eq_true]
  ·rw [if_neg e,List.lookup_cons,look_eq r,beq_false_of_ne (Ne.symm e)]
theorem put_put {f:Str} {v u:V}:∀ fs:List (Str × V),putF f v (putF f u fs)=putF f v fs
 |[]=>by simp [putF]
 | (g,x)::r=>by
  by_cases e:g=f
  ·subst e;simp [putF]
  ·simp [putF,e,put_put r]
theorem Je {f:Str} {v:V}:∀ fs:List (Str × V),(putF f v fs).length<=fs.length+1
 |[]=>Nat.le_refl _
 | (g,x)::r=>by
  unfold putF;split
  ·simp
  ·have:=Je (f:=f) (v:=v) r;simp only [List.length_cons];omega
theorem NoM.put {fs:List (Str × V)} (h:NoM fs) {f:Str} {v:V} (hf:f="coming"\/f="due"\/f="now"\/f="gone_through"):NoM (putF f v fs):=by
 have ne:∀ k:Str,k≠"coming"->k≠"due"->k≠"now"->k≠"gone_through"->k≠f:=λk a b c d e=>by
  subst e;rcases hf with z|z|z|z
  ·exact a z
  ·exact b z
  ·exact c z
  ·exact d z
 have g:∀ k:Str,k≠"coming"->k≠"due"->k≠"now"->k≠"gone_through"->fs.lookup k=none->(putF f v fs).lookup k=none:=λk a b c d e=>by rw [ZB (ne k a b c d)]; exact e
 obtain ⟨h1,h2,h3,h4,h5,h6,h7,h8,h9,ol,h11,h12,h13,h14,h15,h16,h17⟩:=h;constructor<;>exact g _ (by decide) (by decide) (by decide) (by decide) (by assumption)
section
variable {K:PySem.W.Frag} {H H':Hp} {C p:Addr} {R:Rat × Rat} {gs:List Bq} {dx:Addr} {fs:List (Str × V)} {wl g j nw:Addr} {xs:List V} {kvs:List (List Key × V)} {now:Rat} {c:Option Rat} {co:V} {as:List Addr} {f:Str} {v:V}
theorem PlG.put (h:PlG K H C p R gs dx fs wl g xs) (hf:f="coming"\/f="due"\/f="now"\/f="gone_through") (s:Buts as H H') (n:NoT as H) (nw:wl∉as) (ng:g∉as) (e:H' p=some (.ins C dx (putF f v fs))):PlG K H' C p R gs dx (putF f v fs) wl g xs:=by
 have n1:("walls" : Str)≠f:=λz=>by subst z; revert hf; decide
 have n2:("goings" : Str)≠f:=λz=>by subst z; revert hf; decide
 exact ⟨e,by rw [ZB n1]; exact h.fw,by rw [ZB n2]; exact h.fg,h.ws.buts s n nw,s _ _ ng h.hg,yg h.al s n,h.nm.put hf⟩
theorem PlG.buts (h:PlG K H C p R gs dx fs wl g xs) (s:Buts as H H') (n:NoT as H) (np:p∉as) (nw:wl∉as) (ng:g∉as):PlG K H' C p R gs dx fs wl g xs:=⟨s _ _ np h.ob,h.fw,h.fg,h.ws.buts s n nw,s _ _ ng h.hg,yg h.al s n,h.nm⟩
theorem PlJ.buts (h:PlJ K H R gs fs j kvs) (s:Buts as H H') (n:NoT as H) (hj:Rd H' j (.dT kvs)):PlJ K H' R gs fs j kvs:=⟨h.fj,hj,h.ks,yY h.js s n⟩
theorem PlJ.put (h:PlJ K H R gs fs j kvs) (hf:f="coming"\/f="due"\/f="now"\/f="gone_through") (s:Buts as H H') (n:NoT as H) (hj:Rd H' j (.dT kvs)):PlJ K H' R gs (putF f v fs) j kvs:=by
 have n1:("joints" : Str)≠f:=λz=>by subst z; revert hf; decide
 exact ⟨by rw [ZB n1]; exact h.fj,hj,h.ks,yY h.js s n⟩
end
noncomputable def PrH (H:Hp) (v:V) (q:Pr):Prop:=∃ b,v=.ref b/\H b=some (.tup ((keyP q).map kV))
theorem PrH.same {H H':Hp} {v:V} {q:Pr} (h:PrH H v q) (s:Same H H'):PrH H' v q:=by
 obtain ⟨b,e,h⟩:=h;exact ⟨b,e,s _ _ h⟩
theorem z8 {H H':Hp} {vs:List V} {qs:List Pr} (h:Al2 (PrH H) vs qs) (s:Same H H'):Al2 (PrH H') vs qs:=Al2.imp (λ_ _ z=>z.same s) h
theorem PrH.but {H H':Hp} {v:V} {q:Pr} {as:List Addr} (h:PrH H v q) (s:Buts as H H') (n:NoT as H):PrH H' v q:=by
 obtain ⟨b,e,h⟩:=h;exact ⟨b,e,s _ _ (λm=>(n b m).1 _ h) h⟩
theorem yt {H H':Hp} {vs:List V} {qs:List Pr} {as:List Addr} (h:Al2 (PrH H) vs qs) (s:Buts as H H') (n:NoT as H):Al2 (PrH H') vs qs:=Al2.imp (λ_ _ z=>z.but s n) h
theorem Y6 {kvs:List (List Key × V)} {ps:List Pr} (h:kvs.map (·.1)=ps.map keyP) {i:Nat} {kv:List Key × V} (hk:kvs[i]?=some kv):∃ q,ps[i]?=some q/\kv.1=keyP q:=by
 have lk:kvs.length=ps.length:=by
  have:=congrArg List.length h;rwa [List.length_map,List.length_map] at this
 have hi:=(List.getElem?_eq_some_iff.mp hk).1;obtain ⟨q,hq⟩:∃ q,ps[i]?=some q:=⟨_,List.getElem?_eq_getElem (by omega)⟩
 refine ⟨q,hq,?_⟩;have z:=congrArg (λl=>l[i]?) h
 simp only [List.getElem?_map,hk,hq,Option.map_some] at z;exact Option.some.inj z
theorem NoT.frz {H:Hp} {as:List Addr} {a:Addr} {o:Obj} {kvs:List (List Key × V)} (h:H a=some (.frz o (.dT kvs))) (r:NoT as H):NoT (a::as) H:=λb hb=>by
 rcases List.mem_cons.mp hb with rfl|hb
 ·exact ⟨λys z=>by (rw [h] at z; cases z),λo' ys z=>by (rw [h] at z; cases z)⟩
 ·exact r b hb
theorem Zz {n:Nat} (h:n<=6):(prsP n).length<=200:=by
 have:n=0\/n=1\/n=2\/n=3\/n=4\/n=5\/n=6:=by omega
 rcases this with rfl|rfl|rfl|rfl|rfl|rfl|rfl<;>decide+kernel
theorem lc_dictF {idx:List Nat} {tt:TT} {te:TE} {σ:L2.St} {H:Hp} {Q:VK} {a:Addr} {o:Obj} {kvs:List (List Key × V)} {ps:List Pr} (f:Pr->Bool) (hk:kvs.map (·.1)=ps.map keyP) (hf:H a=some (.frz o (.dT kvs))) (hz:kvs.length<=sizeLine)
  (ht:∀ q b (H1:Hp),q∈ps->Same H H1->H1 b=some (.tup ((keyP q).map kV))->∀ Q':Bool->Hp->Prop,(∀ H2,Same H1 H2->Q' (f q) H2)->tt (stIn (some (.ref b)) idx σ) H1 Q')
  (he:∀ b (H1:Hp),∀ Q':VK,Q' (.ref b) H1->te (stIn (some (.ref b)) idx σ) H1 Q')
  (hd:∀ H1 ds,Same H H1->Al2 (PrH H1) ds (ps.filter f)->∀ q,H1 q=none->Q (.ref q) (upd H1 q (.lst ds))):ZI (Itd a o kvs) idx tt te σ Q H:=by
 have lk:kvs.length=ps.length:=by
  have:=congrArg List.length hk;rwa [List.length_map,List.length_map] at this
 refine ⟨λi m ys H'=>m=kvs.length - i/\i<=kvs.length/\Same H H'/\Al2 (PrH H') ys ((ps.take i).filter f),⟨kvs.length,by simp,Nat.zero_le _,Same.refl _,trivial⟩,?_⟩
 rintro i m ys H' ⟨rfl,hi,s1,al⟩;have ly:=Al2.len al;have lf:=List.length_filter_le f (ps.take i);rw [List.length_take] at lf;refine ⟨by omega,?_⟩
 by_cases hlt:i < kvs.length
 ·refine .inr ⟨⟨s1 _ _ hf,hlt⟩,λy H2 yl=>?_⟩
  obtain ⟨e,b,kv,hkv,ex,hb⟩:=yl;subst e ex;obtain ⟨q,hq⟩:∃ q,ps[i]?=some q:=⟨_,List.getElem?_eq_getElem (by omega)⟩
  have ek:kv.1=keyP q:=by
   have z:=congrArg (λl=>l[i]?) hk
   simp only [List.getElem?_map,hkv,hq,Option.map_some] at z;exact Option.some.inj z
  rw [ek] at hb;have tk:(ps.take (i+1)).filter f=(ps.take i).filter f++(if f q=true then [q] else []):=by
   rw [zd hq,List.filter_append];congr 1;show (match f q with|true=>q::[]|false=>[])=_
   cases f q<;>rfl
  refine ht q b _ (List.mem_of_getElem? hq) s1 hb _ λH3 s3=>?_
  cases hp:f q with
  |true=>
   rw [hp] at tk;rw [if_pos rfl];exact he b _ _ ⟨kvs.length - (i+1),by omega,rfl,hlt,s1.trans s3,by rw [tk,if_pos rfl]; exact Al2.snoc (z8 al s3) ⟨b,rfl,s3 _ _ hb⟩⟩
  |false=>
   rw [hp] at tk;rw [if_neg (by decide)]
   exact ⟨kvs.length - (i+1),by omega,rfl,hlt,s1.trans s3,by rw [tk,if_neg (by decide),List.append_nil]; exact z8 al s3⟩
 ·have e:i=kvs.length:=by omega
  subst e;rw [lk,List.take_length] at al;exact .inl ⟨⟨s1 _ _ hf,Nat.le_refl _⟩,hd H' ys s1 al⟩
theorem lc_dictB {idx:List Nat} {te:TE} {σ:L2.St} {H:Hp} {Q:VK} {a:Addr} {o:Obj} {kvs:List (List Key × V)} {ps:List Pr} (f:Pr->Bool) (hk:kvs.map (·.1)=ps.map keyP) (hf:H a=some (.frz o (.dT kvs))) (hz:kvs.length<=sizeLine)
  (he:∀ q b (H1:Hp),q∈ps->Same H H1->H1 b=some (.tup ((keyP q).map kV))->∀ Q':VK,(∀ H2,Same H1 H2->Q' (.bl (f q)) H2)->te (stIn (some (.ref b)) idx σ) H1 Q')
  (hd:∀ H1,Same H H1->∀ q,H1 q=none->Q (.ref q) (upd H1 q (.lst ((ps.map f).map V.bl)))):YE (Itd a o kvs) idx te σ Q H:=by
 have lk:kvs.length=ps.length:=by
  have:=congrArg List.length hk;rwa [List.length_map,List.length_map] at this
 refine ⟨λi m ys H'=>m=kvs.length - i/\i<=kvs.length/\Same H H'/\ys=((ps.take i).map f).map V.bl,⟨kvs.length,by simp,Nat.zero_le _,Same.refl _,rfl⟩,?_⟩
 rintro i m ys H' ⟨rfl,hi,s1,rfl⟩;refine ⟨by rw [List.length_map,List.length_map,List.length_take]; omega,?_⟩
 by_cases hlt:i < kvs.length
 ·refine .inr ⟨⟨s1 _ _ hf,hlt⟩,λy H2 yl=>?_⟩
  obtain ⟨e,b,kv,hkv,ex,hb⟩:=yl;subst e ex;obtain ⟨q,hq,ek⟩:=Y6 hk hkv;rw [ek] at hb;refine he q b _ (List.mem_of_getElem? hq) s1 hb _ λH3 s3=>⟨kvs.length - (i+1),by omega,rfl,hlt,s1.trans s3,?_⟩
  rw [zd hq,List.map_append,List.map_append];rfl
 ·have e:i=kvs.length:=by omega
  subst e;refine .inl ⟨⟨s1 _ _ hf,Nat.le_refl _⟩,?_⟩;rw [lk,List.take_length];exact hd H' s1
theorem jE {α:Type} {l:List α} {i:Nat} {a:α} (f:α->Bool) (h:l[i]?=some a) (h0:(l.take i).any f=false) (h1:f a=false):(l.take (i+1)).any f=false:=by
 rw [zd h,List.any_append,h0];simp [h1]
theorem jb {α:Type} {l:List α} {i:Nat} {a:α} (f:α->Bool) (h:l[i]?=some a) (h1:f a=true):l.any f=true:=List.any_eq_true.mpr ⟨a,List.mem_of_getElem? h,h1⟩
theorem thawed {H H1 H2 H3:Hp} {j:Addr} {u v:HO} (hj:H j=some u) (s1:But j H H1) (s2:Same H1 H2) (s3:But j H2 H3) (e:H3 j=some u):Same H H3:=λa o ha=>by
 by_cases z:a=j
 ·subst z;rw [hj] at ha;cases ha
  exact e
 ·exact s3 _ _ z (s2 _ _ (s1 _ _ z ha))
theorem JW (l:List Int) (k:Int):inV (.int k) (l.map V.int)=decide (k∈l):=by
 induction l with
 |nil=>rfl
 |cons a l ih=>
  show (eqV (.int a) (.int k) || inV (.int k) (l.map V.int))=_;have e:eqV (.int a) (.int k)=decide (k=a):=by
   show decide (a=k)=_;exact decide_eq_decide.mpr eq_comm
  rw [ih,e,<- Bool.decide_or];exact decide_eq_decide.mpr List.mem_cons.symm
theorem Zx (l:List Int):(l.map V.int).all YV=true:=by
 rw [List.all_map];exact List.all_eq_true.mpr λ_ _=>rfl
section
variable {prog:Program} {w:World} {A:Around} {E:Value->Shared->Prop} {s:Shared} {I d S:Addr} {od:Obj} {es:Array DictEntry} {ep:Nat}
noncomputable abbrev KeyAt (es:Array DictEntry):Nat->Value->Prop:=λi v=>∃ e,es[i]?=some e/\v=e.key
theorem walks_raw (hh:A.handled=none) (I d:Addr) (hne:d≠I) (hdd:od.data=.dict es ep) :
  Walks prog w A I [I,d] [I] es.size (KeyAt es) (λi h=>h.IsKeyIter I d i es.size ep/\h.get? d=some od) where
 sub:=λb hb=>by simp at hb; simp [hb]
 frame:=λ_ _ _ st hk=>⟨st.1.at λo e=>hk I (by simp) o e,hk d (by simp) _ st.2⟩
 item:=λi s Q E hi st hQ=>by
  refine next_raw st.1 st.2 hdd hi λh' hit' hs'=>?_
  exact hQ _ h' s.toks ⟨es[i],Array.getElem?_eq_getElem hi,rfl⟩ ⟨hit',hs'.extBut d _ hne st.2⟩ λb o hb e=>hs'.extBut b o (λh=>hb (by simp [h])) e
 done:=λs Q E st hQ=>end_raw hh st.1 st.2 hdd (Nat.le_refl _) λh' he'=>hQ h' s.toks λb o hb e=>he' b o (λh=>hb (by simp [h])) e
 self:=λ_ _ _ _ st hQ=>wpAny_pyIter_keyiter st.1 hQ
theorem hint_raw {Q:Bool->Shared->Prop} (tI:s.TypeIs (.ref d) "dict") (h:Q false s):wpAny (model prog w) A (Builtin.List.listLengthHint (.ref d)) Q E s:=by
 unfold Builtin.List.listLengthHint;refine wpAny_bind (wpAny_specialOf tI F.slot_dict_len.lookup ?_);generalize hid:("dict.__len__" : String)=id0
 wp_delta
 rw [show splitId id0=some ("dict","__len__") from by subst hid; decide+kernel]
 subst hid;refine wpAny_bind (wpAny_isInstance (b:=true) tI (by rw [isSubtype_type]; kernel_rfl) ?_)
 refine wpAny_ite_split (λhab=>absurd hab (by decide)) (λ_=>?_)
 refine wpAny_ite_split (λ_=>?_) (λhab=>absurd (by decide+kernel) hab)
 refine wpAny_bind (wpAny_typeOf tI ?_);exact wpAny_pure h
theorem extend_dct {R:Result->Shared->Prop} {res:Value} {c0:Nat} (hh:A.handled=none) (hd:(d == sysModules)=false) (ho:s.heap.get? d=some od) (hc:od.ExactDict) (hdd:od.data=.dict es ep) (hz:es.size<=sizeLine) (nS:S≠d)
  (kS:s.heap.get? S=some {cls:=.type "list",data:=.seq #[] c0})
  (hR:∀ z acc c,(∀ b o,b≠S->s.heap.get? b=some o->z.heap.get? b=some o)->z.gens=s.gens->z.drawn=s.drawn->z.os=s.os->z.heap.get? S=some {cls:=.type "list",dict:=none,data:=.seq acc c,slots:=#[]}->ItemsOf (KeyAt es) acc es.size->R (.ok (.ret res)) z) :
  wpAny (model prog w) A.in1 (Builtin.List.listExtendWith (.ref S) (.ref d) res) (λfin z=>match fin with|.done f=>R (.ok f) z|.again c=>c.quiet=true/\codeAny (model prog w) A c R z) (λe z=>R (.error e) z) s:=by
 have lS:=Heap.lt_size kS;have ld:=Heap.lt_size ho;have Wk:=(walks_raw (prog:=prog) (w:=w) (A:=A.in1) hh s.heap.objs.size d (Nat.ne_of_lt ld) hdd).toS;have tI:s.TypeIs (.ref d) "dict":=⟨od,ho,hc.1⟩;have d1:Builtin.List.listSameRef (.ref S) (.ref d)=false:=by simp [Builtin.List.listSameRef,nS]
 unfold Builtin.List.listExtendWith;refine wpAny_bind (wpAny_typeOf tI ?_);rw [if_neg (by rw [d1]; decide)]
 refine wpAny_bind (iter_raw hd ho hc hdd ?_);refine wpAny_bind (wpAny_holding ?_);refine hint_raw ⟨od,Heap.get?_push_of_some _ ho,hc.1⟩ ?_;rw [if_pos (by decide+kernel)]
 have GI:=Heap.get?_push_of_some {cls:=.type "dict_keyiterator",data:=.fields #[.ref d,.int 0 0,.int es.size 0,.int ep 0]} kS;refine wpAny_bind (wpAny_rule ?_);refine wpAny_bind ?_;show wpAny _ _ (updateSeq S (·.push .none) >>= λ_=>updateSeq S (·.pop)) _ _ _
 refine wpAny_bind (wpAny_updateSeq GI rfl ?_);have GJ:=Heap.get?_update_self (Obj.mapSeq (·.push Value.none)) GI rfl;refine wpAny_updateSeq (hz:=by seq_fits) GJ rfl ?_
 have Kj:=Heap.get?_update_self (Obj.mapSeq (·.pop)) GJ rfl;have oth:∀ b u,b≠S->(s.heap.push {cls:=.type "dict_keyiterator",data:=.fields #[.ref d,.int 0 0,.int es.size 0,.int ep 0]}).get? b=some u->(((s.heap.push {cls:=.type "dict_keyiterator",data:=.fields #[.ref d,.int 0 0,.int es.size 0,.int ep 0]}).update S (Obj.mapSeq (·.push Value.none))).update S (Obj.mapSeq (·.pop))).get? b=some u:=λb u hb e=>(Heap.get?_update_other _ _ (Ne.symm hb)).trans ((Heap.get?_update_other _ _ (Ne.symm hb)).trans e)
 refine wpAny_pure ⟨plainId_quiet F.plain_extend_loop _,codeAny_extend_loopS Wk hz S (by simp [nS,Nat.ne_of_lt lS]) res es.size 0 _ #[] _ rfl (Nat.zero_le _) ⟨⟨_,oth _ _ (Ne.symm (Nat.ne_of_lt lS)) (Heap.get?_push_size _ rfl),rfl,rfl⟩,oth _ _ (Ne.symm nS) (Heap.get?_push_of_some _ ho)⟩ Kj (ItemsOf.nil _) λz acc c hm hS hacc=>hR z acc c ?_ hm.gens hm.drawn hm.os hS hacc⟩
 intro b o hb e;refine hm.heap b o (λhx=>?_) (oth b o hb (Heap.get?_push_of_some _ e))
 rcases List.mem_cons.mp hx with y|y
 ·exact hb y
 ·exact absurd (Heap.lt_size e) (by rw [List.mem_singleton.mp y]; exact Nat.lt_irrefl _)
theorem init_dct {R:Result->Shared->Prop} (hh:A.handled=none) (hd:(d == sysModules)=false) (ho:s.heap.get? d=some od) (hc:od.ExactDict) (hdd:od.data=.dict es ep) (hz:es.size<=sizeLine) (nS:S≠d) (kS:s.heap.get? S=some {cls:=.type "list",data:=.seq #[]})
  (hR:∀ z acc c,(∀ b o,b≠S->s.heap.get? b=some o->z.heap.get? b=some o)->z.gens=s.gens->z.drawn=s.drawn->z.os=s.os->z.heap.get? S=some {cls:=.type "list",dict:=none,data:=.seq acc c,slots:=#[]}->ItemsOf (KeyAt es) acc es.size->R (.ok (.ret .none)) z) :
  wpAny (model prog w) A.in1 (Builtin.«list.__init__» ⟨[.ref S,.ref d],[]⟩) (λfin z=>match fin with|.done f=>R (.ok f) z|.again c=>c.quiet=true/\codeAny (model prog w) A c R z) (λe z=>R (.error e) z) s:=by
 show wpAny _ _ (do let o <- Builtin.List.listItems (.ref S); Builtin.List.listUpdate (.ref S) (λ_=>#[]); letGo o.toList.reverse; Builtin.List.listExtendWith (.ref S) (.ref d) .none) _ _ s
 refine wpAny_bind ?_;unfold Builtin.List.listItems;refine wpAny_bind (wpAny_seqItems kS rfl (wpAny_pure ?_));show wpAny _ _ (updateSeq S (λ_=>#[]) >>= λ_=>letGo (#[]:Array Value).toList.reverse >>= λ_=>Builtin.List.listExtendWith (.ref S) (.ref d) .none) _ _ s
 refine wpAny_bind (wpAny_updateSeq kS rfl ?_);have k2:=Heap.get?_update_self (Obj.mapSeq (λ_=>(#[]:Array Value))) kS rfl
 have oth:∀ b u,b≠S->s.heap.get? b=some u->(s.heap.update S (Obj.mapSeq (λ_=>(#[]:Array Value)))).get? b=some u:=λb u hb e=>(Heap.get?_update_other _ _ (Ne.symm hb)).trans e
 refine wpAny_bind (wpAny_letGo ?_);exact extend_dct hh hd (oth _ _ (Ne.symm nS) ho) hc hdd hz nS k2 λz acc c hm g1 g2 g3 hS hacc=>hR z acc c (λb u hb e=>hm b u hb (oth b u hb e)) g1 g2 g3 hS hacc
theorem list_dct {Q:Value->Shared->Prop} (hh:A.handled=none) (hd:(d == sysModules)=false) (ho:s.heap.get? d=some od) (hc:od.ExactDict) (hdd:od.data=.dict es ep) (hz:es.size<=sizeLine)
  (hQ:∀ z acc c,(∀ b o,s.heap.get? b=some o->z.heap.get? b=some o)->z.gens=s.gens->z.drawn=s.drawn->z.os=s.os->z.heap.get? s.heap.objs.size=some {cls:=.type "list",dict:=none,data:=.seq acc c,slots:=#[]}->
   ItemsOf (KeyAt es) acc es.size->Q (.ref s.heap.objs.size) z):wpAny (model prog w) A (call (.type "list") [.ref d]) Q E s:=by
 have ld:=Heap.lt_size ho;refine callType_codes (Q₁:=λob z=>ob=.ref s.heap.objs.size/\z={s with heap:=s.heap.push {cls:=.type "list",data:=.seq #[]}}) F.called_list (F.typeCall_list_1 _) F.entry_list_init (code_list_new _ ⟨rfl,rfl⟩) λob z q=>?_
 obtain ⟨rfl,rfl⟩:=q;have kS:(s.heap.push {cls:=.type "list",data:=.seq #[]}).get? s.heap.objs.size=some {cls:=.type "list",data:=.seq #[]}:=Heap.get?_push_size _ rfl;refine ⟨⟨_,kS,rfl⟩,F.args_list_init_2 _ _,init_dct hh hd (Heap.get?_push_of_some _ ho) hc hdd hz (Ne.symm (Nat.ne_of_lt ld)) kS λz acc c hm g1 g2 g3 hS hacc=>⟨rfl,hQ z acc c (λb o e=>hm b o (Nat.ne_of_lt (Heap.lt_size e)) (Heap.get?_push_of_some _ e)) g1 g2 g3 hS hacc⟩⟩
end
section
variable {X:Cx}
theorem call_list_dct (hc:X.calm=true):yx X (.type "list") (λxs H Q=>∃ (a:Addr) (kvs:List (List Key × V)) (ps:List Pr),xs=[.ref a]/\H a=some (.dT kvs)/\kvs.map (·.1)=ps.map keyP/\∀ (l:Addr) (ds:List V),H l=none->Al2 (PrH H) ds ps->Q (.ref l) (upd H l (.lst ds))):=by
 intro pins s σ H xs us Q I r h;obtain ⟨a,kvs,ps,rfl,ha,hk,q⟩:=h;obtain ⟨u,rfl,rx⟩:=Zn r;cases rx
 obtain ⟨hz,hm,ys,rel,o,es,ep,ho,hcc,hd,he,hn⟩:=(show zg X.prog X.w H s.heap a (.dT kvs) from I.hok a _ ha);have len:es.size=kvs.length:=by rw [size_of_entries he,Paired.length rel]
 refine list_dct (I.ok.hd hc) hm ho hcc hd (by omega) λz acc c keep g1 g2 g3 hS hacc=>?_
 obtain ⟨h0,h2⟩:=hacc;have kat:∀ (i:Nat) (q:Pr),ps[i]?=some q->∃ b,acc[i]?=some (.ref b)/\H b=some (.tup ((keyP q).map kV)):=λi q hq=>by
  have hi:i < kvs.length:=by
   have z1:=congrArg List.length hk;rw [List.length_map,List.length_map] at z1;have:=(List.getElem?_eq_some_iff.mp hq).1;omega
  obtain ⟨kv,hkv⟩:∃ kv,kvs[i]?=some kv:=⟨_,List.getElem?_eq_getElem hi⟩;obtain ⟨q',hq',ek⟩:=Y6 hk hkv;rw [hq] at hq';cases hq'
  obtain ⟨y,hy,hyb⟩:=kt_get rel hkv;rw [ek] at hyb;have hia:i < acc.size:=by omega
  obtain ⟨e,ee,ev⟩:=h2 i acc[i] (Array.getElem?_eq_getElem hia);have ee':es.toList[i]?=some e:=by rw [Array.getElem?_toList]; exact ee
  rw [he,List.getElem?_map,hy] at ee';simp only [Option.map_some,Option.some.injEq] at ee';refine ⟨y.2.1,?_,hyb⟩;rw [Array.getElem?_eq_getElem hia,ev,<- ee'];rfl
 have al:∀ (qs:List Pr) (k:Nat),(∀ i q,qs[i]?=some q->ps[k+i]?=some q)->∃ ds:List V,Al2 (PrH H) ds qs/\Vals ds ((acc.toList.drop k).take qs.length):=λqs=>by
  induction qs with
  |nil=>exact λk _=>⟨[],trivial,.nil⟩
  |cons q qs ih=>
   intro k hq;obtain ⟨b,dw,dQ⟩:=kat k q (hq 0 q rfl);obtain ⟨ds,d1,d2⟩:=ih (k+1) λi q' hi=>by
    have z1:=hq (i+1) q' (by simpa using hi)
    rwa [show k+(i+1)=k+1+i by omega] at z1
   refine ⟨.ref b::ds,⟨⟨b,rfl,dQ⟩,d1⟩,?_⟩;have Kk:acc.toList[k]?=some (.ref b):=by rw [Array.getElem?_toList]; exact dw
   obtain ⟨hl,hv⟩:=List.getElem?_eq_some_iff.mp Kk;rw [List.drop_eq_getElem_cons hl,hv,List.length_cons,List.take_succ_cons];exact .cons rfl d2
 obtain ⟨ds,d1,d2⟩:=al ps 0 λi q hi=>by rw [Nat.zero_add]; exact hi
 have lp:ps.length=kvs.length:=by
  have z1:=congrArg List.length hk;rw [List.length_map,List.length_map] at z1;exact z1.symm
 rw [List.drop_zero,List.take_of_length_le (by rw [Array.length_toList]; omega)] at d2
 have ld:ds.length<=sizeLine:=by
  have:=Al2.len d1;omega
 have ez:z={s with heap:=z.heap,toks:=z.toks}:=by
  obtain ⟨h',g',d',tk',os'⟩:=z;cases g1
  cases g2
  cases g3
  rfl
 rw [ez];exact ⟨.ref s.heap.objs.size,_,I.laid (t':=z.toks) (o:=.lst ds) keep (Nat.le_refl _) ⟨ld,acc.toList,c,d2,by rw [hS,Array.toArray_toList]⟩,rfl,q _ ds (I.hok.fresh (Nat.le_refl _)) d1⟩
end
noncomputable def Rt (D B:Nat) (r:Rat):Prop:=∃ n:Int,r=(n:Rat) / (D:Rat)/\n.natAbs < 2 ^ B
section
variable {D B:Nat} {x y:Rat}
theorem Rt.mono {B':Nat} (h:Rt D B x) (l:B<=B'):Rt D B' x:=by
 obtain ⟨n,e,b⟩:=h;have p:2 ^ B<=2 ^ B':=Nat.pow_le_pow_right (by decide) l
 exact ⟨n,e,by omega⟩
theorem Rt.fb (h:Rt D B x) (d1:1<=D) (dB:D < 2 ^ B):FB B x:=by
 obtain ⟨n,e,b⟩:=h;rw [e];exact com_fb d1 dB b
theorem Rt.add (h:Rt D B x) (g:Rt D B y):Rt D (B+1) (x+y):=by
 obtain ⟨n,e,b⟩:=h;obtain ⟨m,f,c⟩:=g;have p:2 ^ (B+1)=2 ^ B * 2:=Nat.pow_succ ..;refine ⟨n+m,?_,by omega⟩
 rw [e,f,Rat.intCast_add,Rat.div_def,Rat.div_def,Rat.div_def];grind
theorem Rt.neg (h:Rt D B x):Rt D B (-x):=by
 obtain ⟨n,e,b⟩:=h;refine ⟨-n,?_,by omega⟩
 rw [e,Rat.intCast_neg,Rat.div_def,Rat.div_def];grind
theorem Rt.sub (h:Rt D B x) (g:Rt D B y):Rt D (B+1) (x - y):=by
 have z:=h.add g.neg;rwa [show x+-y=x - y by grind] at z
theorem Rt.int {i:Int} (d1:1<=D) (dB:D < 2 ^ B) (hi:i.natAbs<=1):Rt D B (i:Rat):=by
 refine ⟨i * (D:Int),?_,?_⟩
 ·have D0:=Y1 d1;have c:((((D:Nat):Int)):Rat)=(D:Rat):=rfl;rw [Rat.intCast_mul,c,Rat.div_def];have i1:=Rat.mul_inv_cancel _ D0;grind
 ·rw [Int.natAbs_mul,Int.natAbs_natCast];have:=Nat.mul_le_mul_right D hi;omega
theorem Rt.up (h:Rt D B x) (d1:1<=D) {c:Nat} (c1:1<=c) (c2:c<=2000):Rt (D * c) (B+11) x:=by
 obtain ⟨n,e,b⟩:=h;have p:2 ^ (B+11)=2 ^ B * 2048:=Nat.pow_add ..;refine ⟨n * (c:Int),?_,?_⟩
 ·have D0:=Y1 d1;have s0:=Y1 c1;have e1:((D * c:Nat):Rat)=(D:Rat) * (c:Rat):=by rw [Rat.natCast_mul]
  have e2:(((c:Nat):Int):Rat)=(c:Rat):=rfl;rw [e,e1,Rat.intCast_mul,e2,Rat.div_def,Rat.div_def,inv_two D0 s0];have i1:=Rat.mul_inv_cancel _ s0;grind
 ·rw [Int.natAbs_mul,Int.natAbs_natCast,p];exact Nat.lt_of_lt_of_le (Nat.mul_lt_mul_of_pos_right b (by omega)) (Nat.mul_le_mul_left _ (by omega))
theorem Rt.mix (h:Rt D B x) (g:Rt D B y) (d1:1<=D) {m u:Nat} (m1:1<=m) (m2:m<=1000) (u1:1<=u) (u2:u<=1000):Rt (D * (m+u)) (B+12) (mixQ x y (m:Int) (u:Int)):=by
 obtain ⟨n,e1,b1⟩:=h;obtain ⟨n',e2,b2⟩:=g;have p:2 ^ (B+12)=2 ^ B * 4096:=Nat.pow_add ..;refine ⟨((m:Int) - u) * n+2 * u * n',?_,?_⟩
 ·rw [mixQ_eq,e1,e2];have ab:((m+u:Nat):Rat)≠0:=Y1 (by omega)
  have D0:=Y1 d1;have c1:((D * (m+u):Nat):Rat)=(D:Rat) * ((m:Rat)+(u:Rat)):=by push_cast; rfl
  have c2:((m+u:Nat):Rat)=(m:Rat)+(u:Rat):=by push_cast; rfl
  have c3:(((m:Int)):Rat)=(m:Rat):=rfl;have c4:(((u:Int)):Rat)=(u:Rat):=rfl;rw [c1,Rat.intCast_add,Rat.intCast_mul,Rat.intCast_mul,Rat.intCast_sub,Rat.intCast_mul,c3,c4];rw [c2] at ab;have two:((2:Int):Rat)=2:=rfl;rw [two];rw [Rat.div_def,Rat.div_def,Rat.div_def,Rat.div_def,Rat.div_def,inv_two D0 ab];have i1:=Rat.mul_inv_cancel _ ab;have i2:=Rat.mul_inv_cancel _ D0;grind
 ·have z1:(((m:Int) - u) * n).natAbs<=1000 * n.natAbs:=by
   rw [Int.natAbs_mul];exact Nat.mul_le_mul_right _ (by omega)
  have z2:(2 * (u:Int) * n').natAbs<=2000 * n'.natAbs:=by
   rw [Int.natAbs_mul];exact Nat.mul_le_mul_right _ (by omega)
  have z3:=Int.natAbs_add_le (((m:Int) - u) * n) (2 * u * n');omega
end
noncomputable def RtB (D B:Nat) (b:Bq):Prop:=Rt D B b.x/\Rt D B b.y/\Rt D B b.w/\Rt D B b.h/\Rt D B b.u/\Rt D B b.v
noncomputable def CmP (B:Nat) (R:Rat × Rat) (gs:List Bq):Prop:=∃ D:Nat,1<=D/\D < 2 ^ B/\Rt D B R.1/\Rt D B R.2/\∀ b∈gs,RtB D B b
noncomputable def WtB (gs:List Bq):Prop:=∀ b∈gs,∃ m:Int,b.m=some m/\1<=m/\m<=1000
section
variable {D B:Nat} {R:Rat × Rat} {gs:List Bq} {b:Bq} {d:Nat}
theorem RtB.pl (h:RtB D B b):Rt D B (b.pl d):=by
 unfold Bq.pl;split
 ·exact h.1
 ·exact h.2.1
theorem RtB.sz (h:RtB D B b):Rt D B (b.sz d):=by
 unfold Bq.sz;split
 ·exact h.2.2.1
 ·exact h.2.2.2.1
theorem RtB.sp (h:RtB D B b):Rt D B (b.sp d):=by
 unfold Bq.sp;split
 ·exact h.2.2.2.2.1
 ·exact h.2.2.2.2.2
theorem RtB.far (h:RtB D B b):Rt D (B+1) (b.far d):=h.pl.add h.sz
theorem Jn (d1:1<=D) (dB:D < 2 ^ B) (r1:Rt D B R.1) (r2:Rt D B R.2) (al:∀ b∈gs,RtB D B b) (d:Nat) (i:Int):RtB D B (boxB R gs d i):=by
 have z0:Rt D B (0:Rat):=Rt.int (i:=0) d1 dB (by decide)
 have z1:Rt D B (1:Rat):=Rt.int (i:=1) d1 dB (by decide)
 have z2:Rt D B (-1:Rat):=Rt.int (i:=-1) d1 dB (by decide)
 unfold boxB;split
 ·unfold bxAt;rw [List.getD_eq_getElem?_getD];cases q:gs[i.toNat]? with
  |none=>exact ⟨z0,z0,z1,z1,z0,z0⟩
  |some b=>exact al b (List.mem_of_getElem? q)
 ·unfold jj;split<;>split
  ·exact ⟨z2,z0,z1,r2,z0,z0⟩
  ·exact ⟨r1,z0,z1,r2,z0,z0⟩
  ·exact ⟨z0,z2,r1,z1,z0,z0⟩
  ·exact ⟨z0,r2,r1,z1,z0,z0⟩
theorem CmP.far (h:CmP B R gs) (d:Nat) (i:Int):FB (B+1) ((boxB R gs d i).far d):=by
 obtain ⟨D,d1,dB,r1,r2,al⟩:=h;have p:2 ^ (B+1)=2 ^ B * 2:=Nat.pow_succ ..;exact ((Jn d1 dB r1 r2 al d i).far).fb d1 (by omega)
theorem CmP.jnt (h:CmP B R gs) {q:Pr} {t:Rat} (e:jntP R gs q=some t):FB (B+2) t:=by
 obtain ⟨D,d1,dB,r1,r2,al⟩:=h;unfold jntP at e;split at e
 ·cases e
 ·rename_i c
  have ha:=Jn d1 dB r1 r2 al q.1 q.2.1;have hb:=Jn d1 dB r1 r2 al q.1 q.2.2;generalize boxB R gs q.1 q.2.1=a at *;generalize boxB R gs q.1 q.2.2=b at *;have p1:2 ^ (B+1)=2 ^ B * 2:=Nat.pow_succ ..;have p2:2 ^ (B+2)=2 ^ (B+1) * 2:=Nat.pow_succ ..;obtain ⟨n,en,bn⟩:=(hb.pl (d:=q.1)).mono (Nat.le_succ B) |>.sub (ha.far (d:=q.1));obtain ⟨k,ek,bk⟩:=(ha.sp (d:=q.1)).sub (hb.sp (d:=q.1));injection e with e
  have k0:k≠0:=λz=>by
   rw [z] at ek;have:a.sp q.1 - b.sp q.1=0:=by
    rw [ek];show ((0:Int):Rat) / _=0;rw [Rat.div_def];grind
   exact c (by grind)
  rw [en,ek] at e;have D0:=Y1 d1;have kr:(k:Rat)≠0:=q_intne k0;have v:t=Rat.divInt n k:=by
   rw [<- e,q_dv,Rat.div_def,Rat.div_def,Rat.div_def,Rat.div_def];have i1:=Rat.mul_inv_cancel (D:Rat) D0;have i2:=Rat.mul_inv_cancel (k:Rat) kr;have f:(k:Rat) * (D:Rat)⁻¹≠0:=λz=>kr (by grind)
   have i3:=Rat.mul_inv_cancel _ f;grind
  rw [v];exact FB.fit k0 (show n.natAbs < 2 ^ (B+2) by omega) (show k.natAbs < 2 ^ (B+2) by omega)
theorem CmP.mono {B':Nat} (h:CmP B R gs) (l:B<=B'):CmP B' R gs:=by
 obtain ⟨D,d1,dB,r1,r2,al⟩:=h;have p:2 ^ B<=2 ^ B':=Nat.pow_le_pow_right (by decide) l
 exact ⟨D,d1,by omega,r1.mono l,r2.mono l,λb hb=>by
  obtain ⟨h1,h2,h3,h4,h5,h6⟩:=al b hb
  exact ⟨h1.mono l,h2.mono l,h3.mono l,h4.mono l,h5.mono l,h6.mono l⟩⟩
end
section
variable {b:Bq} {d d':Nat} {p s:Rat}
theorem JR (h:d<=1) (h':d'<=1):(b.with d p s).pl d'=if d'=d then p else b.pl d':=by
 rcases d01 h with rfl|rfl<;>rcases d01 h' with rfl|rfl<;>rfl
theorem Jf (h:d<=1) (h':d'<=1):(b.with d p s).sp d'=if d'=d then s else b.sp d':=by
 rcases d01 h with rfl|rfl<;>rcases d01 h' with rfl|rfl<;>rfl
theorem with_sz:(b.with d p s).sz d'=b.sz d':=by
 unfold Bq.with Bq.sz;split<;>split<;>rfl
theorem with_m:(b.with d p s).m=b.m:=by
 unfold Bq.with;split<;>rfl
end
section
variable {R:Rat × Rat} {gs:List Bq} {q r:Pr}
theorem YK:(prtA R gs q).length=gs.length:=by
 unfold prtA;split
 ·rw [List.length_set]
 ·rfl
theorem jy:(prtP R gs q).length=gs.length:=by
 unfold prtP;split
 ·rw [List.length_set,YK]
 ·exact YK
noncomputable def oneP (R:Rat × Rat) (gs:List Bq) (q:Pr):Bq:=withF (boxB R gs q.1 q.2.1) q.1 (ptd (farG (boxB R gs q.1 q.2.1) q.1) (jI (boxB R gs q.1 q.2.2) q.1))
noncomputable def othP (R:Rat × Rat) (gs:List Bq) (q:Pr):Bq:=withN (boxB R gs q.1 q.2.2) q.1 (ptd (jI (boxB R gs q.1 q.2.2) q.1) (farG (boxB R gs q.1 q.2.1) q.1))
theorem set_at (l:List Bq) (k i:Nat) (b:Bq) (hk:k < l.length):bxAt (l.set k b) i=if i=k then b else bxAt l i:=by
 unfold bxAt;rw [List.getD_eq_getElem?_getD,List.getD_eq_getElem?_getD,List.getElem?_set];by_cases e:k=i
 ·subst e;rw [if_pos rfl,if_pos hk,if_pos rfl];rfl
 ·rw [if_neg e,if_neg (λz=>e z.symm)]
theorem prt_box (h:InP gs.length q) (d:Nat) (i:Int):boxB R (prtP R gs q) d i=if 0<=i/\i=q.2.1 then oneP R gs q else if 0<=i/\i=q.2.2 then othP R gs q else boxB R gs d i:=by
 obtain ⟨_,h1,h2,ne,_⟩:=h;have l1:0<=q.2.1->q.2.1.toNat < gs.length:=λz=>by
  rcases h1 with y|⟨i,hi,y⟩<;>omega
 have l2:0<=q.2.2->q.2.2.toNat < gs.length:=λz=>by
  rcases h2 with y|⟨i,hi,y⟩<;>omega
 by_cases i0:0<=i
 ·have bx:∀ l:List Bq,boxB R l d i=bxAt l i.toNat:=λl=>by unfold boxB; rw [if_pos i0]
  rw [bx,bx];have a1:∀ k:Nat,bxAt (prtA R gs q) k=if 0<=q.2.1/\k=q.2.1.toNat then oneP R gs q else bxAt gs k:=λk=>by
   unfold prtA;by_cases c:0<=q.2.1
   ·rw [if_pos c,set_at _ _ _ _ (l1 c)];by_cases e:k=q.2.1.toNat
    ·rw [if_pos e,if_pos ⟨c,e⟩];rfl
    ·rw [if_neg e,if_neg (λz=>e z.2)]
   ·rw [if_neg c,if_neg (λz=>c z.1)]
  have a2:bxAt (prtP R gs q) i.toNat=if 0<=q.2.2/\i.toNat=q.2.2.toNat then othP R gs q else bxAt (prtA R gs q) i.toNat:=by
   unfold prtP;by_cases c:0<=q.2.2
   ·rw [if_pos c,set_at _ _ _ _ (by rw [YK]; exact l2 c)]
    by_cases e:i.toNat=q.2.2.toNat
    ·rw [if_pos e,if_pos ⟨c,e⟩];rfl
    ·rw [if_neg e,if_neg (λz=>e z.2)]
   ·rw [if_neg c,if_neg (λz=>c z.1)]
  rw [a2,a1];by_cases e1:i=q.2.1
  ·rw [if_neg (show ¬ (0<=q.2.2/\i.toNat=q.2.2.toNat) by omega),if_pos (show 0<=q.2.1/\i.toNat=q.2.1.toNat by omega),if_pos ⟨i0,e1⟩]
  ·by_cases e2:i=q.2.2
   ·rw [if_pos (show 0<=q.2.2/\i.toNat=q.2.2.toNat by omega),if_neg (λz=>e1 z.2),if_pos ⟨i0,e2⟩]
   ·rw [if_neg (show ¬ (0<=q.2.2/\i.toNat=q.2.2.toNat) by omega),if_neg (show ¬ (0<=q.2.1/\i.toNat=q.2.1.toNat) by omega),if_neg (λz=>e1 z.2),if_neg (λz=>e2 z.2)]
 ·rw [if_neg (λz=>i0 z.1),if_neg (λz=>i0 z.1)]
  unfold boxB;rw [if_neg i0,if_neg i0]
theorem box_other (h:InP gs.length q) {d:Nat} (hd:d<=1) (ne:d≠q.1) (i:Int):(boxB R (prtP R gs q) d i).pl d=(boxB R gs d i).pl d/\(boxB R (prtP R gs q) d i).sz d=(boxB R gs d i).sz d/\(boxB R (prtP R gs q) d i).sp d=(boxB R gs d i).sp d:=by
 have bd:∀ i:Int,0<=i->boxB R gs q.1 i=boxB R gs d i:=λi z=>by
  unfold boxB;rw [if_pos z,if_pos z]
 rw [prt_box h];split
 ·rename_i c
  unfold oneP withF;rw [JR h.1 hd,with_sz,Jf h.1 hd,if_neg ne,if_neg ne,<- c.2,bd i c.1];exact ⟨rfl,rfl,rfl⟩
 ·split
  ·rename_i c
   unfold othP withN;rw [JR h.1 hd,with_sz,Jf h.1 hd,if_neg ne,if_neg ne,<- c.2,bd i c.1];exact ⟨rfl,rfl,rfl⟩
  ·exact ⟨rfl,rfl,rfl⟩
theorem JJ {R:Rat × Rat} {gs gs':List Bq} {r:Pr} (a:(boxB R gs' r.1 r.2.1).pl r.1=(boxB R gs r.1 r.2.1).pl r.1/\(boxB R gs' r.1 r.2.1).sz r.1=(boxB R gs r.1 r.2.1).sz r.1/\(boxB R gs' r.1 r.2.1).sp r.1=(boxB R gs r.1 r.2.1).sp r.1)
  (b:(boxB R gs' r.1 r.2.2).pl r.1=(boxB R gs r.1 r.2.2).pl r.1/\(boxB R gs' r.1 r.2.2).sz r.1=(boxB R gs r.1 r.2.2).sz r.1/\(boxB R gs' r.1 r.2.2).sp r.1=(boxB R gs r.1 r.2.2).sp r.1):jntP R gs' r=jntP R gs r:=by
 unfold jntP Bq.far;rw [a.1,a.2.1,a.2.2,b.1,b.2.2]
theorem jnt_else (h:InP gs.length q) (hr:r.1<=1) (c:r.1≠q.1\/(¬ (0<=r.2.1/\(r.2.1=q.2.1\/r.2.1=q.2.2))/\¬ (0<=r.2.2/\(r.2.2=q.2.1\/r.2.2=q.2.2)))):jntP R (prtP R gs q) r=jntP R gs r:=by
 rcases c with c|⟨c1,c2⟩
 ·exact JJ (box_other h hr c _) (box_other h hr c _)
 ·have e1:boxB R (prtP R gs q) r.1 r.2.1=boxB R gs r.1 r.2.1:=by
   rw [prt_box h,if_neg (λz=>c1 ⟨z.1,.inl z.2⟩),if_neg (λz=>c1 ⟨z.1,.inr z.2⟩)]
  have e2:boxB R (prtP R gs q) r.1 r.2.2=boxB R gs r.1 r.2.2:=by
   rw [prt_box h,if_neg (λz=>c2 ⟨z.1,.inl z.2⟩),if_neg (λz=>c2 ⟨z.1,.inr z.2⟩)]
  exact JJ ⟨by rw [e1],by rw [e1],by rw [e1]⟩ ⟨by rw [e2],by rw [e2],by rw [e2]⟩
theorem mem_prt {b:Bq} (h:b∈prtP R gs q):b∈gs\/b=oneP R gs q/\0<=q.2.1\/b=othP R gs q/\0<=q.2.2:=by
 have a1:b∈prtA R gs q->b∈gs\/b=oneP R gs q/\0<=q.2.1\/b=othP R gs q/\0<=q.2.2:=λh=>by
  unfold prtA at h;split at h
  ·rcases List.mem_or_eq_of_mem_set h with z|z
   ·exact .inl z
   ·exact .inr (.inl ⟨z,by assumption⟩)
  ·exact .inl h
 unfold prtP at h;split at h
 ·rcases List.mem_or_eq_of_mem_set h with z|z
  ·exact a1 z
  ·exact .inr (.inr ⟨z,by assumption⟩)
 ·exact a1 h
theorem YA (hw:WtB gs) {d:Nat} {i:Int} (i0:0<=i) (hi:i.toNat < gs.length):∃ m:Int,(boxB R gs d i).m=some m/\1<=m/\m<=1000:=by
 unfold boxB bxAt;rw [if_pos i0,List.getD_eq_getElem?_getD,List.getElem?_eq_getElem hi];exact hw _ (List.getElem_mem hi)
theorem wall_m {d:Nat} {i:Int} (i0:¬ 0<=i):(boxB R gs d i).m=none:=by
 unfold boxB;rw [if_neg i0];unfold jj;split<;>split<;>rfl
theorem InP.l1 (h:InP gs.length q) (z:0<=q.2.1):q.2.1.toNat < gs.length:=by
 rcases h.2.1 with y|⟨i,hi,y⟩<;>omega
theorem InP.l2 (h:InP gs.length q) (z:0<=q.2.2):q.2.2.toNat < gs.length:=by
 rcases h.2.2.1 with y|⟨i,hi,y⟩<;>omega
theorem prt_wt (hw:WtB gs) (h:InP gs.length q):WtB (prtP R gs q):=λb hb=>by
 rcases mem_prt hb with z|⟨rfl,z⟩|⟨rfl,z⟩
 ·exact hw b z
 ·unfold oneP withF;rw [with_m];exact YA hw z (h.l1 z)
 ·unfold othP withN;rw [with_m];exact YA hw z (h.l2 z)
end
section
variable {D B:Nat} {R:Rat × Rat} {gs:List Bq} {q:Pr}
theorem Jb {b:Bq} {d:Nat} {p s:Rat} (h:RtB D B b) (hp:Rt D B p) (hs:Rt D B s):RtB D B (b.with d p s):=by
 obtain ⟨h1,h2,h3,h4,h5,h6⟩:=h;unfold Bq.with;split
 ·exact ⟨hp,h2,h3,h4,hs,h6⟩
 ·exact ⟨h1,hp,h3,h4,h5,hs⟩
theorem RtB.mono {B':Nat} {b:Bq} (h:RtB D B b) (l:B<=B'):RtB D B' b:=⟨h.1.mono l,h.2.1.mono l,h.2.2.1.mono l,h.2.2.2.1.mono l,h.2.2.2.2.1.mono l,h.2.2.2.2.2.mono l⟩
theorem RtB.up {b:Bq} (h:RtB D B b) (d1:1<=D) {c:Nat} (c1:1<=c) (c2:c<=2000):RtB (D * c) (B+11) b:=⟨h.1.up d1 c1 c2,h.2.1.up d1 c1 c2,h.2.2.1.up d1 c1 c2,h.2.2.2.1.up d1 c1 c2,h.2.2.2.2.1.up d1 c1 c2,h.2.2.2.2.2.up d1 c1 c2⟩
theorem CmP.two (h:CmP B R gs) (hw:WtB gs) (hin:InP gs.length q):∃ D:Nat,1<=D/\D < 2 ^ (B+15)/\Rt D (B+15) R.1/\Rt D (B+15) R.2/\(∀ b∈gs,RtB D (B+15) b)/\(0<=q.2.1->Rt D (B+15) (ptd (farG (boxB R gs q.1 q.2.1) q.1) (jI (boxB R gs q.1 q.2.2) q.1)).1/\RtB D (B+15) (oneP R gs q))/\(0<=q.2.2->RtB D (B+15) (othP R gs q)):=by
 obtain ⟨D,d1,dB,r1,r2,al⟩:=h;have ha:=Jn d1 dB r1 r2 al q.1 q.2.1;have hb:=Jn d1 dB r1 r2 al q.1 q.2.2;have oq:2 ^ (B+15)=2 ^ B * 32768:=Nat.pow_add ..;have fF:2 ^ (B+11)=2 ^ B * 2048:=Nat.pow_add ..;unfold oneP othP withF withN farG jI;by_cases c1:0<=q.2.1
 ·obtain ⟨m,em,m1,m2⟩:=YA (R:=R) (d:=q.1) hw c1 (hin.l1 c1);by_cases c2:0<=q.2.2
  ·obtain ⟨u,eu,u1,u2⟩:=YA (R:=R) (d:=q.1) hw c2 (hin.l2 c2);generalize boxB R gs q.1 q.2.1=a at *;generalize boxB R gs q.1 q.2.2=b at *;obtain ⟨m',rfl⟩:∃ m':Nat,m=(m':Int):=⟨m.toNat,by omega⟩
   obtain ⟨u',rfl⟩:∃ u':Nat,u=(u':Int):=⟨u.toNat,by omega⟩
   have one:Rt (D * (m'+u')) (B+13) (mixQ (a.far q.1) (b.pl q.1) (m':Int) (u':Int)):=(ha.far.mix (hb.pl.mono (Nat.le_succ B)) d1 (by omega) (by omega) (by omega) (by omega))
   have oneS:Rt (D * (m'+u')) (B+12) (mixQ (a.sp q.1) (b.sp q.1) (m':Int) (u':Int)):=ha.sp.mix hb.sp d1 (by omega) (by omega) (by omega) (by omega)
   have oth:Rt (D * (u'+m')) (B+13) (mixQ (b.pl q.1) (a.far q.1) (u':Int) (m':Int)):=((hb.pl.mono (Nat.le_succ B)).mix ha.far d1 (by omega) (by omega) (by omega) (by omega))
   have othS:Rt (D * (u'+m')) (B+12) (mixQ (b.sp q.1) (a.sp q.1) (u':Int) (m':Int)):=hb.sp.mix ha.sp d1 (by omega) (by omega) (by omega) (by omega)
   rw [Nat.add_comm u' m'] at oth othS;have upx:∀ {x:Rat},Rt D B x->Rt (D * (m'+u')) (B+15) x:=λz=>(z.up d1 (by omega) (by omega)).mono (by omega)
   have upb:∀ {b:Bq},RtB D B b->RtB (D * (m'+u')) (B+15) b:=λz=>(z.up d1 (by omega) (by omega)).mono (by omega)
   refine ⟨D * (m'+u'),Nat.mul_pos d1 (by omega),?_,upx r1,upx r2,λb hb=>upb (al b hb),λ_=>?_,λ_=>?_⟩
   ·rw [oq];exact Nat.lt_of_lt_of_le (Nat.mul_lt_mul_of_pos_right dB (by omega)) (Nat.mul_le_mul_left _ (by omega))
   ·have e1:ptd (a.far q.1,a.sp q.1,a.m) (b.pl q.1,b.sp q.1,b.m)=(mixQ (a.far q.1) (b.pl q.1) (m':Int) (u':Int),mixQ (a.sp q.1) (b.sp q.1) (m':Int) (u':Int)):=by
     unfold ptd;dsimp only;rw [em,eu];rfl
    rw [e1];refine ⟨one.mono (by omega),Jb (upb ha) ?_ (oneS.mono (by omega))⟩
    exact ((one.sub ((ha.sz.up d1 (by omega) (by omega)).mono (by omega))).mono (by omega))
   ·have e1:ptd (b.pl q.1,b.sp q.1,b.m) (a.far q.1,a.sp q.1,a.m)=(mixQ (b.pl q.1) (a.far q.1) (u':Int) (m':Int),mixQ (b.sp q.1) (a.sp q.1) (u':Int) (m':Int)):=by
     unfold ptd;dsimp only;rw [em,eu];rfl
    rw [e1];exact Jb (upb hb) (oth.mono (by omega)) (othS.mono (by omega))
  ·have eu:=wall_m (R:=R) (gs:=gs) (d:=q.1) c2;generalize boxB R gs q.1 q.2.1=a at *;generalize boxB R gs q.1 q.2.2=b at *;refine ⟨D,d1,by omega,r1.mono (by omega),r2.mono (by omega),λb hb=>(al b hb).mono (by omega),λ_=>?_,λz=>absurd z c2⟩
   have e1:ptd (a.far q.1,a.sp q.1,a.m) (b.pl q.1,b.sp q.1,b.m)=(b.pl q.1+b.pl q.1 - a.far q.1,-a.sp q.1):=by
    unfold ptd;dsimp only;rw [eu]
   rw [e1];have z1:=(hb.pl (d:=q.1)).add (hb.pl (d:=q.1));have z2:=z1.sub (ha.far (d:=q.1));refine ⟨z2.mono (by omega),Jb (ha.mono (by omega)) ?_ (ha.sp.neg.mono (by omega))⟩
   exact (z2.sub (ha.sz.mono (by omega))).mono (by omega)
 ·have c2:0<=q.2.2:=hin.2.2.2.2.resolve_left c1;obtain ⟨u,eu,u1,u2⟩:=YA (R:=R) (d:=q.1) hw c2 (hin.l2 c2);have em:=wall_m (R:=R) (gs:=gs) (d:=q.1) c1;generalize boxB R gs q.1 q.2.1=a at *;generalize boxB R gs q.1 q.2.2=b at *;refine ⟨D,d1,by omega,r1.mono (by omega),r2.mono (by omega),λb hb=>(al b hb).mono (by omega),λz=>absurd z c1,λ_=>?_⟩
  have e1:ptd (b.pl q.1,b.sp q.1,b.m) (a.far q.1,a.sp q.1,a.m)=(a.far q.1+a.far q.1 - b.pl q.1,-b.sp q.1):=by
   unfold ptd;dsimp only;rw [em]
  rw [e1];have z1:=(ha.far (d:=q.1)).add (ha.far (d:=q.1));have z2:=z1.sub ((hb.pl (d:=q.1)).mono (B':=B+1+1) (by omega))
  exact Jb (hb.mono (by omega)) (z2.mono (by omega)) (hb.sp.neg.mono (by omega))
theorem CmP.part (h:CmP B R gs) (hw:WtB gs) (hin:InP gs.length q):CmP (B+15) R (prtP R gs q):=by
 obtain ⟨D,d1,dB,r1,r2,al,h1,h2⟩:=h.two hw hin;refine ⟨D,d1,dB,r1,r2,λb hb=>?_⟩
 rcases mem_prt hb with z|⟨rfl,z⟩|⟨rfl,z⟩
 ·exact al b z
 ·exact (h1 z).2
 ·exact h2 z
end
theorem putK_at {κ:Type} [DecidableEq κ] {k:κ} {v:V}:∀ {kvs:List (κ × V)} {i:Nat} {w:V},(kvs.map (·.1)).Nodup->kvs[i]?=some (k,w)->putK kvs k v=kvs.set i (k,v):=by
 intro kvs i w nd hi;have hm:(kvs.any λkv=>decide (kv.1=k))=true:=List.any_eq_true.mpr ⟨(k,w),List.mem_of_getElem? hi,decide_eq_true rfl⟩
 unfold putK;rw [if_pos hm];refine List.ext_getElem? λn=>?_
 rw [List.getElem?_map,List.getElem?_set];by_cases e:i=n
 ·subst e;have hl:=(List.getElem?_eq_some_iff.mp hi).1;rw [hi,if_pos rfl,if_pos hl];show some (if k=k then _ else _)=_
  rw [if_pos rfl]
 ·rw [if_neg e];cases q:kvs[n]? with
  |none=>rfl
  |some kv=>
   show some (if kv.1=k then (kv.1,v) else kv)=some kv
   rw [if_neg];intro z;obtain ⟨hl,hv⟩:=List.getElem?_eq_some_iff.mp hi;obtain ⟨hl',hv'⟩:=List.getElem?_eq_some_iff.mp q;have:=(List.nodup_iff_pairwise_ne.mp nd);have z1:(kvs.map (·.1))[i]'(by simpa using hl)=k:=by simp [hv]
   have z2:(kvs.map (·.1))[n]'(by simpa using hl')=k:=by simp [hv',z]
   rcases Nat.lt_or_gt_of_ne e with l|l
   ·exact (List.pairwise_iff_getElem.mp this i n (by simpa using hl) (by simpa using hl') l) (z1.trans z2.symm)
   ·exact (List.pairwise_iff_getElem.mp this n i (by simpa using hl') (by simpa using hl) l) (z2.trans z1.symm)
theorem prs_nodup {n:Nat} (h:n<=6):(prsP n).Nodup:=by
 have:n=0\/n=1\/n=2\/n=3\/n=4\/n=5\/n=6:=by omega
 rcases this with rfl|rfl|rfl|rfl|rfl|rfl|rfl<;>decide+kernel
theorem Jo {n:Nat} (h:n<=6):((prsP n).map keyP).Nodup:=by
 rw [List.nodup_iff_pairwise_ne,List.pairwise_map];exact (List.nodup_iff_pairwise_ne.mp (prs_nodup h)).imp λz e=>z (keyP_inj e)
section
variable {B:Nat} {R:Rat × Rat} {gs:List Bq} {q:Pr}
theorem CmP.fbs (h:CmP B R gs) (hw:WtB gs) (hin:InP gs.length q) (hB:B+15<=1990) :
  (0<=q.2.1->FB 1990 (ptd (farG (boxB R gs q.1 q.2.1) q.1) (jI (boxB R gs q.1 q.2.2) q.1)).1/\FB 1990 (ptd (farG (boxB R gs q.1 q.2.1) q.1) (jI (boxB R gs q.1 q.2.2) q.1)).2/\FB 1990 ((ptd (farG (boxB R gs q.1 q.2.1) q.1) (jI (boxB R gs q.1 q.2.2) q.1)).1 - (boxB R gs q.1 q.2.1).sz q.1))/\
  (0<=q.2.2->FB 1990 (ptd (jI (boxB R gs q.1 q.2.2) q.1) (farG (boxB R gs q.1 q.2.1) q.1)).1/\FB 1990 (ptd (jI (boxB R gs q.1 q.2.2) q.1) (farG (boxB R gs q.1 q.2.1) q.1)).2):=by
 obtain ⟨D,d1,dB,_,_,_,h1,h2⟩:=h.two hw hin;constructor
 ·intro z;obtain ⟨a,b⟩:=h1 z;have b1:=b.pl (d:=q.1);have b2:=b.sp (d:=q.1);unfold oneP withF at b1 b2;rw [JR hin.1 hin.1,if_pos rfl] at b1;rw [Jf hin.1 hin.1,if_pos rfl] at b2;exact ⟨(a.fb d1 dB).mono hB,(b2.fb d1 dB).mono hB,(b1.fb d1 dB).mono hB⟩
 ·intro z;have b:=h2 z;have b1:=b.pl (d:=q.1);have b2:=b.sp (d:=q.1);unfold othP withN at b1 b2;rw [JR hin.1 hin.1,if_pos rfl] at b1;rw [Jf hin.1 hin.1,if_pos rfl] at b2;exact ⟨(b1.fb d1 dB).mono hB,(b2.fb d1 dB).mono hB⟩
end
noncomputable def mixL {α β:Type} (f f':α->β) (l:List α) (i:Nat):List β:=(l.take i).map f'++(l.drop i).map f
theorem mix_zero {α β:Type} (f f':α->β) (l:List α):mixL f f' l 0=l.map f:=by
 unfold mixL;simp
theorem mix_all {α β:Type} (f f':α->β) (l:List α):mixL f f' l l.length=l.map f':=by
 unfold mixL;simp
theorem mix_set {α β:Type} {f f':α->β} {l:List α} {i:Nat} {q:α} (h:l[i]?=some q):(mixL f f' l i).set i (f' q)=mixL f f' l (i+1):=by
 obtain ⟨hl,hv⟩:=List.getElem?_eq_some_iff.mp h;unfold mixL;have lt:((l.take i).map f').length=i:=by simp; omega
 rw [List.set_append_right _ _ (by omega),lt,Nat.sub_self,List.drop_eq_getElem_cons hl,List.map_cons,List.set_cons_zero,zd h,List.map_append,List.append_assoc]
 rfl
theorem mix_same {α β:Type} {f f':α->β} {l:List α} {i:Nat} {q:α} (h:l[i]?=some q) (e:f' q=f q):mixL f f' l i=mixL f f' l (i+1):=by
 obtain ⟨hl,hv⟩:=List.getElem?_eq_some_iff.mp h;unfold mixL;rw [List.drop_eq_getElem_cons hl,List.map_cons,zd h,List.map_append,List.append_assoc,hv];show _++f q::_=_++(f' q::[]++_);rw [e];rfl
section
variable {K:PySem.W.Frag} {te:TE} {tt:TT} {σ:L2.St} {H:Hp} {Q:VK} {idx:List Nat}
theorem lc_tupG {a:Addr} {xs:List V} (p:V->Bool) (hl:SqT K H a xs) (hz:xs.length<=sizeLine) (ht:∀ x∈xs,∀ Q':Bool->Hp->Prop,Q' (p x) H->tt (stIn (some x) idx σ) H Q') (he:∀ x∈xs,∀ Q':VK,Q' x H->te (stIn (some x) idx σ) H Q')
  (hd:∀ q,H q=none->Q (.ref q) (upd H q (.lst (xs.filter p)))):ZI (Itt K a) idx tt te σ Q H:=by
 refine ⟨λi m ys H'=>m=xs.length - i/\i<=xs.length/\H'=H/\ys=(xs.take i).filter p,⟨xs.length,by simp,Nat.zero_le _,rfl,by simp⟩,?_⟩
 rintro i m ys H' ⟨rfl,hi,rfl,rfl⟩;refine ⟨Nat.le_trans (List.length_filter_le _ _) (by rw [List.length_take]; omega),?_⟩
 by_cases hlt:i < xs.length
 ·refine .inr ⟨⟨xs,xs[i],hl,by simp [hlt]⟩,λy H' yl=>?_⟩
  obtain ⟨e,yl⟩:=yl;subst e;have hy:=yl xs hl;have hm:y∈xs:=List.mem_of_getElem? hy;have tk:=take_succ_filter p xs i y hy;refine ht y hm _ ?_;cases hp:p y with
  |true=>
   rw [hp] at tk;rw [if_pos rfl];exact he y hm _ ⟨xs.length - (i+1),by omega,rfl,hlt,rfl,by rw [tk]; rfl⟩
  |false=>
   rw [hp] at tk;rw [if_neg (by decide)]
   exact ⟨xs.length - (i+1),by omega,rfl,hlt,rfl,by rw [tk]; simp⟩
 ·have e:i=xs.length:=by omega
  subst e;refine .inl ⟨⟨xs,hl,Nat.le_refl _⟩,?_⟩;rw [List.take_length];exact hd
end
noncomputable def plF (wl g nw:Addr) (n:Int) (j:Addr) (co:V) (du:Addr):List (Str × V):=[("walls",.ref wl),("goings",.ref g),("now",.ref nw),("gone_through",.int n),("joints",.ref j),("coming",co),("due",.ref du)]
theorem plF_nm {wl g nw:Addr} {n:Int} {j:Addr} {co:V} {du:Addr}:NoM (plF wl g nw n j co du):=⟨rfl,rfl,rfl,rfl,rfl,rfl,rfl,rfl,rfl,rfl,rfl,rfl,rfl,rfl,rfl,rfl,rfl⟩
noncomputable def ZP (K:PySem.W.Frag) (H:Hp) (C p:Addr) (R:Rat × Rat) (gs:List Bq) (now:Rat) (n:Nat) (wl g j:Addr):Prop:=∃ (dx nw:Addr) (co:V) (du:Addr) (xs:List V) (kvs:List (List Key × V)) (ds:List V),
 PlG K H C p R gs dx (plF wl g nw (n:Int) j co du) wl g xs/\PlJ K H R gs (plF wl g nw (n:Int) j co du) j kvs/\H j=some (.dT kvs)/\wl≠j/\FQ K H nw now/\FB 2000 now/\OptB K H co (comP R gs now)/\H du=some (.lst ds)/\Al2 (PrH H) ds (dueP R gs now)/\du≠g
section
variable {K:PySem.W.Frag} {H H':Hp} {C p:Addr} {R:Rat × Rat} {gs:List Bq} {now:Rat} {n:Nat} {wl g j:Addr}
theorem ZP.same (h:ZP K H C p R gs now n wl g j) (s:Same H H'):ZP K H' C p R gs now n wl g j:=by
 obtain ⟨dx,nw,co,du,xs,kvs,ds,h1,h2,h3,h4,h5,h6,h7,h8,h9,ol⟩:=h;exact ⟨dx,nw,co,du,xs,kvs,ds,h1.same s,h2.same s,s _ _ h3,h4,Kw.Same.tup s h5,h6,h7.same s,s _ _ h8,z8 h9 s,ol⟩
theorem due_few (l6:gs.length<=6):(dueP R gs now).length<=200:=Nat.le_trans (List.length_filter_le _ _) (Zz l6)
theorem Z9:∀ q∈dueP R gs now,InP gs.length q:=λq hq=>jC.mp (List.mem_filter.mp hq).1
theorem Z0:∀ (l:List Pr) (gs:List Bq),(l.foldl (prtP R) gs).length=gs.length
 |[],_=>rfl
 |q::l,gs=>by rw [List.foldl_cons,Z0 l,jy]
theorem Jl:∀ (l:List Pr) {gs:List Bq} {B:Nat},CmP B R gs->WtB gs->(∀ q∈l,InP gs.length q)->CmP (B+15 * l.length) R (l.foldl (prtP R) gs)/\WtB (l.foldl (prtP R) gs)
 |[],_,_,h,w,_=>⟨h,w⟩
 |q::l,gs,B,h,w,hl=>by
  have hq:=hl q (List.mem_cons_self ..);have z:=Jl l (h.part w hq) (prt_wt w hq) λr hr=>by rw [jy]; exact hl r (List.mem_cons_of_mem _ hr)
  rw [List.foldl_cons,List.length_cons,show B+15 * (l.length+1)=B+15+15 * l.length by omega]
  exact z
theorem due_six (l6:gs.length<=6) (h:twoP (dueP R gs now)=false):(dueP R gs now).length<=6:=by
 have nd:(numP (dueP R gs now)).Nodup:=by
  unfold twoP at h;have:=of_decide_eq_false h;exact Decidable.not_not.mp this
 have lt:∀ i∈numP (dueP R gs now),0<=i/\i < 6:=λi hi=>by
  unfold numP at hi;obtain ⟨h1,h2⟩:=List.mem_filter.mp hi;have i0:=of_decide_eq_true h2;refine ⟨i0,?_⟩;rcases List.mem_append.mp h1 with z|z
  ·obtain ⟨q,hq,rfl⟩:=List.mem_map.mp z;have:=(Z9 q hq).l1 (gs:=gs) i0;omega
  ·obtain ⟨q,hq,rfl⟩:=List.mem_map.mp z;have:=(Z9 q hq).l2 (gs:=gs) i0;omega
 have l1:(numP (dueP R gs now)).length<=6:=by
  have z:(numP (dueP R gs now)) ⊆ (List.range 6).map λ(i:Nat)=>(i:Int):=λi hi=>by
   have:=lt i hi;exact List.mem_map.mpr ⟨i.toNat,List.mem_range.mpr (by omega),by omega⟩
  have:=List.Nodup.length_le_of_subset nd z;simpa using this
 have l2:∀ l:List Pr,(∀ q∈l,InP gs.length q)->l.length<=(numP l).length:=λl=>by
  induction l with
  |nil=>exact λ_=>Nat.le_refl _
  |cons q l ih=>
   intro hl;have z:=ih λr hr=>hl r (List.mem_cons_of_mem _ hr)
   have hq:=(hl q (List.mem_cons_self ..)).2.2.2.2;unfold numP at z ⊢;simp only [List.map_cons,List.filter_append,List.length_append,List.filter_cons] at z ⊢;rcases hq with hq|hq
   ·rw [if_pos (decide_eq_true hq)];split<;>simp only [List.length_cons]<;>omega
   ·rw [if_pos (decide_eq_true hq)];split<;>simp only [List.length_cons]<;>omega
 have:=l2 (dueP R gs now) Z9;omega
end
noncomputable def tPairs:List (TE × TE)->L2.St->Hp->(List (V × V)->Hp->Prop)->Prop
 |[],_,H,Q=>Q [] H
 | (tk,tv)::r,σ,H,Q=>tk σ H λk H1=>tv σ H1 λv H2=>tPairs r σ H2 λl H3=>Q ((k,v)::l) H3
noncomputable def KeysT (H:Hp):List (V × V)->List (List Key × V)->Prop
 |[],[]=>True
 | (k,v)::r,e::es=>(∃ b,k=.ref b/\H b=some (.tup (e.1.map kV)))/\v=e.2/\KeysT H r es
 |_,_=>False
noncomputable def Y0 (l:List (List Key × V)):List (List Key × V)->List (List Key × V):=λes=>es.foldl (λa e=>putK a e.1 e.2) l
noncomputable def tDictT (ts:List (TE × TE)):TE:=λσ H Q=>∀ d,H d=none->tPairs ts σ (upd H d (.dT [])) λl H1=>H1 d=some (.dT [])/\∃ es:List (List Key × V),KeysT H1 l es/\es.length<=100/\Q (.ref d) (upd H1 d (.dT (Y0 [] es)))
inductive PPs (X:Cx):List (Option Expr)->List Expr->List (TE × TE)->Prop
 |nil:PPs X [] [] []
 |cons {k v:Expr} {ks:List (Option Expr)} {vs:List Expr} {tk tv:TE} {ts:List (TE × TE)}:PE X k tk->PE X v tv->PPs X ks vs ts->PPs X (some k::ks) (v::vs) ((tk,tv)::ts)
noncomputable def RelP:List (V × V)->List (Value × Value)->Prop
 |[],[]=>True
 | (k,v)::r,(k',v')::r'=>RelV k k'/\RelV v v'/\RelP r r'
 |_,_=>False
section
variable {X:Cx} {pos:Pos}
theorem pairs_walk {ks:List (Option Expr)} {vs:List Expr} {ts:List (TE × TE)} (h:PPs X ks vs ts):∀ (pins:List (Addr × Obj)) (s:Shared) (σ:L2.St) (H:Hp) (Q:List (V × V)->Hp->Prop) (I:Inv X pins σ H s),tPairs ts σ H Q->
  wpAny (model X.prog X.w) X.A (evalPairs (pairTrees ks vs X.env pos)) (λus s'=>∃ l H',Inv X pins σ H' s'/\RelP l us/\Q l H') X.xe s:=by
 induction h with
 |nil=>exact λpins s σ H Q I q=>wpAny_pure ⟨[],H,I,trivial,q⟩
 |@cons k v ks vs tk tv ts hk hv hr ih=>
  intro pins s σ H Q I q;show wpAny _ _ (evalPairs ((eval k X.env,do let x <- eval v X.env; standAt pos; pure x)::pairTrees ks vs X.env pos)) _ _ s
  unfold evalPairs;refine wpAny_bind (thn (hk pins s σ H _ I q) λu s1 zz=>?_)
  obtain ⟨y,H1,I1,r1,q1⟩:=zz;refine wpAny_bind (wpAny_holding ?_);refine wpAny_bind (thn (hv pins s1 σ H1 _ I1 q1) λu2 s2 zz=>?_)
  obtain ⟨y2,H2,I2,r2,q2⟩:=zz;refine wpAny_bind (wpAny_standAt (wpAny_pure ?_));refine wpAny_bind (wpAny_holding ?_);refine wpAny_mono (ih pins s2 σ H2 _ I2 q2) (λus s3 ⟨l,H3,I3,r3,q3⟩=>?_) (λ_ _ e=>e)
  exact wpAny_pure ⟨(y,y2)::l,H3,I3,⟨r1,r2,r3⟩,q3⟩
theorem Jx {H H':Hp} (k:∀ c ys,H c=some (.tup ys)->H' c=some (.tup ys)):∀ (l:List (V × V)) (es:List (List Key × V)),KeysT H l es->KeysT H' l es
 |[],[],_=>trivial
 | (_,_)::r,_::es,⟨⟨b,e,hb⟩,ev,t⟩=>⟨⟨b,e,k b _ hb⟩,ev,Jx k r es t⟩
 |[],_::_,h=>h.elim
 |_::_,[],h=>h.elim
theorem pps_len {ks:List (Option Expr)} {vs:List Expr} {ts:List (TE × TE)} (h:PPs X ks vs ts):ks.length=vs.length:=by
 induction h with
 |nil=>rfl
 |cons _ _ _ ih=>exact congrArg (·+1) ih
theorem some_all {ks:List (Option Expr)} {vs:List Expr} {ts:List (TE × TE)} (h:PPs X ks vs ts):ks.all (·.isSome)=true:=by
 induction h with
 |nil=>rfl
 |cons _ _ _ ih=>exact ih
theorem store_all (hu:X.A.units+1 < cLine) {d:Addr} {pins:List (Addr × Obj)} {σ:L2.St} {Q:Hp->Prop}:∀ (l:List (V × V)) (us:List (Value × Value)) (es kvs:List (List Key × V)) (s:Shared) (H:Hp) (I:Inv X pins σ H s),RelP l us->KeysT H l es->H d=some (.dT kvs)->kvs.length+es.length<=1000->Q (upd H d (.dT (Y0 kvs es)))->
  wpAny (model X.prog X.w) X.A (storeAll d us) (λ_ s'=>∃ H',Inv X pins σ H' s'/\Q H') X.xe s
 |[],[],[],kvs,s,H,I,_,_,hd,_,q=>by
  refine wpAny_pure ⟨_,I,?_⟩;have e:upd H d (.dT (Y0 kvs []))=H:=by
   funext b
   by_cases z:b=d
   ·subst z;rw [zb,hd];rfl
   ·rw [zV z]
  rw [<- e];exact q
 | (k,v)::l,(k',v')::us,e::es,kvs,s,H,I,r,ky,hd,hz,q=>by
  obtain ⟨rk,rv,rr⟩:=r;obtain ⟨⟨b,rfl,hb⟩,ev,kr⟩:=ky;subst ev;cases (show k'=Value.ref b from rk)
  show wpAny _ _ (forIn ((Value.ref b,v')::us) PUnit.unit λ(x:Value × Value) (_:PUnit)=>(do dictSet d x.1 x.2; pure (ForInStep.yield PUnit.unit):Sem (ForInStep PUnit))) _ _ s
  rw [List.forIn_cons];obtain ⟨z,hsm,xs,rel,dd⟩:=dt_of I.hok hd;have hx:xs.length<=sizeLine:=by rw [<- Paired.length rel]; exact z
  have hz':kvs.length+(es.length+1)<=1000:=hz;have hl:(putK kvs e.1 e.2).length<=sizeLine:=by have:=jg kvs e.1 e.2; rw [sizeLine_eq]; omega
  refine wpAny_bind (wpAny_bind (wpAny_dictSet_heap (hsz:=hx) (knd:=tupleKind (yF X.prog X.w)) (Nat.lt_of_succ_lt hu) (key_of I.hok hb) dd λh' dd' hs=>wpAny_pure ?_))
  obtain ⟨o,eo,ep,hq,h2,h3,h4,_,h5⟩:=dd';have I2:Inv X pins σ (upd H d (.dT (putK kvs e.1 e.2))) {s with heap:=h',toks:=s.toks+(tupleKind (yF X.prog X.w)).draws e.1}:=by
   refine JX I (by rw [hd]; exact True.intro) hs ⟨o,hq⟩ ⟨hl,hsm,_,(rel.put e.1 hb rv).keeps λc ys ec=>?_,o,eo,ep,hq,h2,h3,h4,h5⟩
   rw [zV (zq ec hd (λz=>nomatch z))]
   exact ec
  have hlen:(putK kvs e.1 e.2).length<=kvs.length+1:=jg kvs e.1 e.2;exact store_all hu l us es (putK kvs e.1 e.2) _ _ I2 rr (Jx (λc ys ec=>by rw [zV (zq ec hd (λz=>nomatch z))]; exact ec) l es kr) zb (by omega) (by rw [upd_upd]; exact q)
 |[],_::_,_,_,_,_,_,r,_,_,_,_=>r.elim
 |_::_,[],_,_,_,_,_,r,_,_,_,_=>r.elim
 |[],[],_::_,_,_,_,_,_,ky,_,_,_=>ky.elim
 |_::_,_::_,[],_,_,_,_,_,ky,_,_,_=>ky.elim
theorem pe_dictT (hu:X.A.units+1 < cLine) {ks:List (Option Expr)} {vs:List Expr} {ts:List (TE × TE)} (h:PPs X ks vs ts) (h0:ks≠[]) (hn:ks.length<=15):PE X (.Dict ks vs pos) (tDictT ts):=by
 intro pins s σ H Q I q;refine wpAny_Dict_any (some_all h) (pps_len h) h0 hn ?_;have I1:=I.laid (a:=s.heap.objs.size) (o:=.dT []) (t':=s.toks) (λ_ _ q=>Heap.get?_push_of_some _ q) (Nat.le_refl _) (dt_empty s.heap I.big)
 refine wpAny_mono (pairs_walk h pins _ σ _ _ I1 (q s.heap.objs.size (I.hok.fresh (Nat.le_refl _)))) (λus s1 ⟨l,H1,I2,rp,hd,es,ky,hl,q1⟩=>?_) (λ_ _ e=>e)
 exact wpAny_mono (store_all hu l us es [] s1 H1 I2 rp ky hd (by simp only [List.length_nil]; omega) q1) (λ_ s2 ⟨H2,I3,q2⟩=>⟨.ref s.heap.objs.size,H2,I3,rfl,q2⟩) (λ_ _ e=>e)
end
section
variable {K:PySem.W.Frag} {H H':Hp} {p:Addr}
theorem zw (h:SqT K H p [.int 0,.int 1]):FQ K H p 0:=h
theorem fq_one (h:SqT K H p [.int 1,.int 1]):FQ K H p 1:=h
theorem fq_mone (h:SqT K H p [.int (-1),.int 1]):FQ K H p (-1):=h
theorem zr:FB 1990 (0:Rat):=(FB.ofInt (n:=64) (i:=0) (Bd.small (by decide) (by decide)) (by decide)).mono (by decide)
theorem fb_one:FB 1990 (1:Rat):=(FB.ofInt (n:=64) (i:=1) (Bd.small (by decide) (by decide)) (by decide)).mono (by decide)
theorem fb_mone:FB 1990 (-1:Rat):=(FB.ofInt (n:=64) (i:=-1) (Bd.small (by decide) (by decide)) (by decide)).mono (by decide)
noncomputable def WlT (K:PySem.W.Frag) (H:Hp) (z:V) (b:Bq):Prop:=∃ p a0 a1 a2 a3 a4 a5,z=.ref p/\SqT K H p [.ref a0,.ref a1,.ref a2,.ref a3,.ref a4,.ref a5,.non]/\(FQ K H a0 b.x/\FQ K H a1 b.y/\FQ K H a2 b.w/\FQ K H a3 b.h/\FQ K H a4 b.u/\FQ K H a5 b.v)
theorem wls_new {R:Rat × Rat} {cq:Hp} {d:Addr} {w0 w1 w2 w3:V} (fx:FB 1990 R.1) (fy:FB 1990 R.2) (n:H d=none) (s:Same H cq) (hd:cq d=some (.dT [])) (h0:WlT K cq w0 (jj R 0 (-1))) (h1:WlT K cq w1 (jj R 0 (-2))) (h2:WlT K cq w2 (jj R 1 (-1))) (h3:WlT K cq w3 (jj R 1 (-2))) :
  Same H (upd cq d (.dT (Y0 [] [(keyW 0 (-1),w0),(keyW 0 (-2),w1),(keyW 1 (-1),w2),(keyW 1 (-2),w3)])))/\Wls K (upd cq d (.dT (Y0 [] [(keyW 0 (-1),w0),(keyW 0 (-2),w1),(keyW 1 (-1),w2),(keyW 1 (-2),w3)]))) d R:=by
 have e:Y0 [] [(keyW 0 (-1),w0),(keyW 0 (-2),w1),(keyW 1 (-1),w2),(keyW 1 (-2),w3)]=[(keyW 0 (-1),w0),(keyW 0 (-2),w1),(keyW 1 (-1),w2),(keyW 1 (-2),w3)]:=by with_unfolding_all rfl
 rw [e];have bs:Buts [d] cq (upd cq d (.dT [(keyW 0 (-1),w0),(keyW 0 (-2),w1),(keyW 1 (-1),w2),(keyW 1 (-2),w3)])):=λa o na ha=>by
  have ne:a≠d:=λz=>na (by rw [z]; exact List.mem_cons_self ..)
  rw [zV ne];exact ha
 have nt:NoT [d] cq:=NoT.dct hd NoT.nil;have g:∀ {z:V} {b:Bq},WlT K cq z b->b.m=none->(FB 1990 b.x/\FB 1990 b.y/\FB 1990 b.w/\FB 1990 b.h/\FB 1990 b.u/\FB 1990 b.v)->BqH K 1990 cq z b:=λ⟨p,a0,a1,a2,a3,a4,a5,ez,h,f⟩ em db=>⟨p,a0,a1,a2,a3,a4,a5,ez,by rw [em]; exact h,f,db,by rw [em]; exact λm z=>nomatch z⟩
 refine ⟨λa o ha=>?_,w0,w1,w2,w3,zb,(g h0 rfl ⟨fb_mone,zr,fb_one,fy,zr,zr⟩).buts bs nt,(g h1 rfl ⟨fx,zr,fb_one,fy,zr,zr⟩).buts bs nt,(g h2 rfl ⟨zr,fb_mone,fx,fb_one,zr,zr⟩).buts bs nt,(g h3 rfl ⟨zr,fy,fx,fb_one,zr,zr⟩).buts bs nt⟩
 rw [zV (λz=>by rw [z,n] at ha; cases ha)]
 exact s _ _ ha
end
noncomputable def onesN (n:Nat):List Int:=(-1:Int)::(List.range n).map λ(i:Nat)=>(i:Int)
noncomputable def JQ (n:Nat):List Int:=(-2:Int)::(List.range n).map λ(i:Nat)=>(i:Int)
noncomputable def okP (one o:Int):Bool:=decide (one≠o) && (decide (0<=one) || decide (0<=o))
theorem prs1_eq {n d:Nat} {one:Int}:prs1 n d one=((JQ n).filter (okP one)).map λo=>(d,one,o):=rfl
theorem prsD_eq {n d:Nat}:prsD n d=(onesN n).flatMap (prs1 n d):=rfl
theorem ones_at {n i:Nat} (h:i<=n):(onesN n)[i]?=some (-1+(i:Int)):=by
 unfold onesN;cases i with
 |zero=>rfl
 |succ k=>
  rw [List.getElem?_cons_succ,List.getElem?_map,List.getElem?_range (by omega)]
  show some ((k:Nat):Int)=_;congr 1;omega
theorem oth_len {n:Nat}:(JQ n).length=n+1:=by simp [JQ]
theorem ones_len {n:Nat}:(onesN n).length=n+1:=by simp [onesN]
theorem oth_vs {n:Nat}:[V.int (-2)]++((List.range n).map λ(i:Nat)=>V.int (i:Int))=(JQ n).map V.int:=by
 simp [JQ]
theorem putK_snoc {kvs:List (List Key × V)} {ps:List Pr} {i:Nat} {q:Pr} {v:V} (nd:(ps.map keyP).Nodup) (hk:kvs.map (·.1)=(ps.take i).map keyP) (hq:ps[i]?=some q):putK kvs (keyP q) v=kvs++[(keyP q,v)]:=by
 unfold putK;refine if_neg λh=>?_
 obtain ⟨kv,hm,e⟩:=List.any_eq_true.mp h;have e:=of_decide_eq_true e;have hin:keyP q∈(ps.take i).map keyP:=by
  rw [<- hk,<- e];exact List.mem_map_of_mem hm
 have GK:((ps.take (i+1)).map keyP).Nodup:=nd.sublist ((List.take_sublist _ _).map _);rw [zd hq,List.map_append] at GK;exact (List.nodup_append.mp GK).2.2 _ hin _ (List.mem_singleton.mpr rfl) rfl
noncomputable def InR (R:Rat × Rat) (b:Bq):Prop:=0 < b.w/\0 < b.h/\0<=b.x/\0<=b.y/\b.far 0<=R.1/\b.far 1<=R.2
structure GdP (R:Rat × Rat) (gs:List Bq):Prop where
 r1:0 < R.1
 r2:0 < R.2
 l1:1<=gs.length
 l6:gs.length<=6
 wt:WtB gs
 al:∀ b∈gs,InR R b
 ap:∀ i j,i < j->j < gs.length->(hicB (bxAt gs i) (bxAt gs j) 0 && hicB (bxAt gs i) (bxAt gs j) 1)=false
theorem ye {gs:List Bq} {i:Nat} {b:Bq} (h:gs[i]?=some b):bxAt gs i=b:=by
 unfold bxAt;rw [List.getD_eq_getElem?_getD,h];rfl
section
variable {s:Rat} {b c:Bq} {d:Nat}
end
section
variable {s:Rat} {R:Rat × Rat} {gs bs:List Bq} {d:Nat}
end
section
variable {K:PySem.W.Frag} {H H':Hp} {v:V} {r:List Int × Int} {z:Scn} {as:List Addr}
end
section
variable {a d b:Rat} {c:Int}
end
section
variable {u:Rat}
end
section
variable {K:PySem.W.Frag} {tt:TT} {te:TE} {idx:List Nat} {σ:L2.St} {Q:VK} {H:Hp}
end
noncomputable def wtD:Option Int->PyData
 |none=>.none
 |some m=>.int m
noncomputable def bqD (b:Bq):PyData:=.tuple [frD b.x,frD b.y,frD b.w,frD b.h,frD b.u,frD b.v,wtD b.m]
theorem wtD_dp {K:PySem.W.Frag} {H:Hp} (o:Option Int):Dp K H (wV o) (wtD o):=by
 cases o with
 |none=>exact .non
 |some m=>exact .int _
theorem BqH.dp {K:PySem.W.Frag} {H:Hp} {N:Nat} {z:V} {b:Bq} (h:BqH K N H z b):Dp K H z (bqD b):=by
 obtain ⟨p,a0,a1,a2,a3,a4,a5,rfl,h1,⟨g0,g1,g2,g3,g4,g5⟩,d⟩:=h;exact .tup h1 (.cons (FQ.dp g0) (.cons (FQ.dp g1) (.cons (FQ.dp g2) (.cons (FQ.dp g3) (.cons (FQ.dp g4) (.cons (FQ.dp g5) (.cons (wtD_dp _) .nil)))))))
theorem bqs_dp {K:PySem.W.Frag} {H:Hp} {N:Nat}:∀ {xs:List V} {bs:List Bq},Al2 (BqH K N H) xs bs->Dps K H xs (bs.map bqD)
 |[],[],_=>.nil
 |_::_,_::_,z=>.cons z.1.dp (bqs_dp z.2)
 |[],_::_,z=>z.elim
 |_::_,[],z=>z.elim
theorem bq_lay (b:Bq):PyData.canLay0 (bqD b)=true:=by
 unfold bqD;cases b.m<;>rfl
theorem bqs_lay:∀ bs:List Bq,PyData.canLayAll0 (bs.map bqD)=true
 |[]=>rfl
 |m::ms=>by
  show (PyData.canLay0 (bqD m) && PyData.canLayAll0 (ms.map bqD))=true;rw [bqs_lay ms,bq_lay m];rfl
theorem bq_deep (b:Bq):PyData.depth (bqD b)=2:=by
 unfold bqD;cases b.m<;>rfl
theorem bqs_deep:∀ bs:List Bq,PyData.depthAll (bs.map bqD)<=2
 |[]=>Nat.zero_le _
 |m::ms=>by
  show max (PyData.depth (bqD m)) (PyData.depthAll (ms.map bqD))<=2;have e:=bq_deep m;have:=bqs_deep ms;omega
theorem bqs_ok (bs:List Bq):(PyData.list (bs.map bqD)).canLay0=true/\Nat.ble (PyData.list (bs.map bqD)).depth 60=true:=by
 refine ⟨bqs_lay bs,Nat.ble_eq_true_of_le ?_⟩;have h1:=bqs_deep bs;show PyData.depthAll (bs.map bqD)+1<=60;omega
theorem Z1 {K:PySem.W.Frag} {H H':Hp} {N:Nat} {c:Addr} {ys vs:List V} {bs:List Bq} (h:Al2 (BqH K N H) vs bs) (s:But c H H') (hc:H c=some (.lst ys)):Al2 (BqH K N H') vs bs:=yg h (Buts.one s (List.mem_singleton.mpr rfl):Buts [c] H H') (NoT.lst hc NoT.nil)
theorem rt42 {n b:Int} (hb:b=1\/b=2\/b=3\/b=7) (h1:-1000<=n) (h2:n<=1000):Rt 42 20 (Rat.divInt n b):=by
 have p:(2:Nat) ^ 20=1048576:=by decide
 rcases hb with rfl|rfl|rfl|rfl
 ·refine ⟨n * 42,?_,by omega⟩
  rw [Rat.divInt_eq_div,Rat.intCast_mul];show (n:Rat) / 1=(n:Rat) * 42 / 42;grind
 ·refine ⟨n * 21,?_,by omega⟩
  rw [Rat.divInt_eq_div,Rat.intCast_mul];show (n:Rat) / 2=(n:Rat) * 21 / 42;grind
 ·refine ⟨n * 14,?_,by omega⟩
  rw [Rat.divInt_eq_div,Rat.intCast_mul];show (n:Rat) / 3=(n:Rat) * 14 / 42;grind
 ·refine ⟨n * 6,?_,by omega⟩
  rw [Rat.divInt_eq_div,Rat.intCast_mul];show (n:Rat) / 7=(n:Rat) * 6 / 42;grind
theorem J6 {n:Int} (h1:-1000<=n) (h2:n<=1000):Rt 42 20 (n:Rat):=by
 have z:=rt42 (n:=n) (b:=1) (.inl rfl) h1 h2;rwa [Rat.divInt_eq_div,show (n:Rat) / ((1:Int):Rat)=(n:Rat) from by show (n:Rat) / 1=(n:Rat); grind] at z
theorem q_divnn {a b:Int} (ha:0<=a) (hb:0 < b):(0:Rat)<=Rat.divInt a b:=by
 rcases Int.lt_or_eq_of_le ha with h|h
 ·exact Rat.le_of_lt (Zs h hb)
 ·rw [<- h,Rat.zero_divInt];exact Rat.le_refl
theorem Rt.f42 {x:Rat} (h:Rt 42 20 x):FB 1990 x:=(h.fb (by decide) (by decide)).mono (by decide)
noncomputable def RmQ (R:Rat × Rat):Prop:=4<=R.1/\4<=R.2/\Rt 42 20 R.1/\Rt 42 20 R.2
noncomputable def App (gs:List Bq):Prop:=∀ i j,i < j->j < gs.length->(hicB (bxAt gs i) (bxAt gs j) 0 && hicB (bxAt gs i) (bxAt gs j) 1)=false
noncomputable def BxsQ (R:Rat × Rat) (gs:List Bq):Prop:=gs.length<=6/\(∀ g∈gs,InR R g/\RtB 42 20 g/\∃ m:Int,g.m=some m/\1<=m/\m<=1000)/\App gs
theorem hicB_comm (a b:Bq) (d:Nat):hicB a b d=hicB b a d:=by
 unfold hicB;rw [Bool.and_comm]
theorem ZF {gs hs:List Bq} {i:Nat} (h:i < gs.length):bxAt (gs++hs) i=bxAt gs i:=by
 rw [ye (b:=gs[i]) (by rw [List.getElem?_append_left h,List.getElem?_eq_getElem h]),ye (gs:=gs) (b:=gs[i]) (List.getElem?_eq_getElem h)]
theorem bx_last {gs:List Bq} {b:Bq}:bxAt (gs++[b]) gs.length=b:=ye (by rw [List.getElem?_append_right (Nat.le_refl _)]; simp)
theorem app_snoc {gs:List Bq} {b:Bq} (h:App gs) (g:∀ c∈gs,(!(hicB b c 0 && hicB b c 1))=true):App (gs++[b]):=by
 intro i j ij jl;rw [List.length_append] at jl;simp only [List.length_cons,List.length_nil] at jl;rcases Nat.lt_or_ge j gs.length with c|c
 ·rw [ZF (by omega),ZF c]
  exact h i j ij c
 ·have e:j=gs.length:=by omega
  subst e;rw [ZF ij,bx_last,hicB_comm,hicB_comm (bxAt gs i) b 1];have z:=g (bxAt gs i) (by rw [ye (List.getElem?_eq_getElem ij)]; exact List.getElem_mem ij)
  rw [Bool.not_eq_true'] at z;exact z
theorem bxs_snoc {R:Rat × Rat} {gs:List Bq} {b:Bq} (h:BxsQ R gs) (l:gs.length < 6) (i:InR R b) (r:RtB 42 20 b) (m:∃ m:Int,b.m=some m/\1<=m/\m<=1000) (g:∀ c∈gs,(!(hicB b c 0 && hicB b c 1))=true):BxsQ R (gs++[b]):=by
 refine ⟨by rw [List.length_append]; simp only [List.length_cons,List.length_nil]; omega,λc hc=>?_,app_snoc h.2.2 g⟩
 rcases List.mem_append.mp hc with z|z
 ·exact h.2.1 c z
 ·rw [List.mem_singleton.mp z];exact ⟨i,r,m⟩
theorem BxsQ.gd {R:Rat × Rat} {gs:List Bq} (h:BxsQ R gs) (r:RmQ R) (l:1<=gs.length):GdP R gs:=by
 refine ⟨?_,?_,l,h.1,λb hb=>(h.2.1 b hb).2.2,λb hb=>(h.2.1 b hb).1,h.2.2⟩
 ·have:=r.1; grind
 ·have:=r.2.1; grind
theorem BxsQ.cm {R:Rat × Rat} {gs:List Bq} (h:BxsQ R gs) (r:RmQ R):CmP 20 R gs:=⟨42,by decide,by decide,r.2.2.1,r.2.2.2,λb hb=>(h.2.1 b hb).2.1⟩
theorem bxs_nil {R:Rat × Rat}:BxsQ R []:=⟨by decide,λ_ h=>(nomatch h),λi j _ h=>absurd h (by simp)⟩
noncomputable def bx0:Bq:=⟨((1:Int):Rat),((1:Int):Rat),((1:Int):Rat),Rat.divInt 1 2,((1:Int):Rat),((2:Int):Rat),some 3⟩
theorem bxs_one {R:Rat × Rat} (r:RmQ R):BxsQ R [bx0]:=by
 refine bxs_snoc (gs:=[]) bxs_nil (by decide) ?_ ⟨J6 (by decide) (by decide),J6 (by decide) (by decide),J6 (by decide) (by decide),rt42 (n:=1) (b:=2) (by decide) (by decide) (by decide),J6 (by decide) (by decide),J6 (by decide) (by decide)⟩ ⟨3,rfl,by decide,by decide⟩ (λc h=>(nomatch h))
 refine ⟨by decide,Zs (by decide) (by decide),by decide,by decide,?_,?_⟩
 ·show (1:Rat)+1<=R.1;have:=r.1; grind
 ·show (1:Rat)+Rat.divInt 1 2<=R.2;have:=r.2.1;have e:Rat.divInt 1 2<=1:=by decide
  grind
theorem rm_int {a b:Int} (h1:6<=a) (h2:a<=12) (h3:4<=b) (h4:b<=10):RmQ ((a:Rat),(b:Rat)):=
 ⟨by show ((4:Int):Rat)<=(a:Rat); exact Rat.intCast_le_intCast.mpr (by omega),by show ((4:Int):Rat)<=(b:Rat); exact Rat.intCast_le_intCast.mpr (by omega),J6 (by omega) (by omega),J6 (by omega) (by omega)⟩
theorem le_div7 {a:Int} (h:28<=a):(4:Rat)<=Rat.divInt a 7:=by
 rw [Rat.divInt_eq_div];have z:((28:Int):Rat)<=(a:Rat):=Rat.intCast_le_intCast.mpr h;have e:((28:Int):Rat)=28:=rfl;have e7:((7:Int):Rat)=7:=rfl;rw [e] at z;rw [e7];grind
theorem rm_sev {a b:Int} (h1:30<=a) (h2:a<=100) (h3:30<=b) (h4:b<=100):RmQ (Rat.divInt a 7,Rat.divInt b 7):=
 ⟨le_div7 (by omega),le_div7 (by omega),rt42 (n:=a) (b:=7) (by decide) (by omega) (by omega),rt42 (n:=b) (b:=7) (by decide) (by omega) (by omega)⟩
theorem Yx {xs:List V} {k:Nat} (h:k<=xs.length):cutV xs none (some (k:Int))=xs.take k:=by
 unfold cutV;rw [HT.sIx_none,HT.sIx_nat,Nat.min_eq_left h];rfl
section
variable {s:Rat}
end
variable {X:Cx} {pos:Pos}
end Kw
namespace Kw
open PySem PySem.Spec PyProof.Rows L2
section
variable {K:PySem.W.Frag} {H:Hp}
end
section
variable {t:Rat} {gs:List Bod} {now:Rat} {n:Nat} {ms:List (Rat × Rat × Nat)} {b:Bool} {es:List Bod} {last:Rat}
end
section
variable {gs:List Bod} {now:Rat} {n:Nat} {cs:List Rat} {b:Bool}
end
section
variable {X:Cx}
end
section
variable {K:PySem.W.Frag} {H H':Hp} {v:V} {m:Pm} {as:List Addr}
end
section
variable {t:Rat} {gs:List Bod} {now:Rat} {n:Nat} {ms:List (Rat × Rat × Nat)} {b:Bool} {es:List Bod} {last:Rat}
end
section
variable {gs:List Bod} {now:Rat} {n:Nat} {wd:String} {ms:List (Rat × Rat × Nat)} {es:List Bod} {last:Rat}
end
section
variable {gs:List Bod} {now:Rat} {n:Nat} {wd:String} {ms:List (Rat × Rat × Nat)} {es:List Bod} {last:Rat}
end
section
variable {t:Rat}
end
section
variable {t:Rat} {gs:List Bod} {now:Rat} {n:Nat} {ms:List (Rat × Rat × Nat)} {es:List Bod} {last:Rat}
end
section
variable {X:Cx} {pos:Pos} {k v:Expr} {x:Str} {te:TE}
end
section
variable {K:PySem.W.Frag} {H H':Hp} {v x:V} {c:Bool} {m:Pm} {o:Option Pm}
end
section
variable {K:PySem.W.Frag} {H H':Hp} {v:V} {b:Addr} {ys:List V}
noncomputable def NoTup (K:PySem.W.Frag) (H:Hp) (v:V):Prop:=∃ t,TyOf K H v t/\kitOne K t (.type "tuple")=some false
noncomputable def NoLst (K:PySem.W.Frag) (H:Hp) (v:V):Prop:=(∃ t,TyOf K H v t/\kitOne K t (.type "list")=some false)\/∃ (p:Addr) (xs:List V),v=.ref p/\SqT K H p xs
theorem NoTup.same (h:NoTup K H v) (s:Same H H'):NoTup K H' v:=by
 obtain ⟨t,a,e⟩:=h;exact ⟨t,TyOf.same a s,e⟩
theorem NoLst.same (h:NoLst K H v) (s:Same H H'):NoLst K H' v:=by
 rcases h with ⟨t,a,e⟩|⟨p,xs,e,h⟩
 ·exact .inl ⟨t,TyOf.same a s,e⟩
 ·exact .inr ⟨p,xs,e,Kw.Same.tup s h⟩
noncomputable def BadB (K:PySem.W.Frag) (H:Hp) (v:V):Prop:=NoTup K H v\/(∃ p,v=.ref p/\H p=some (.tup []))\/∃ p,v=.ref p/\H p=some (.tup [.int 1,.int 1])
theorem BadB.same (h:BadB K H v) (s:Same H H'):BadB K H' v:=by
 rcases h with h|⟨p,e,h⟩|⟨p,e,h⟩
 ·exact .inl (h.same s)
 ·exact .inr (.inl ⟨p,e,s _ _ h⟩)
 ·exact .inr (.inr ⟨p,e,s _ _ h⟩)
noncomputable def BadR (K:PySem.W.Frag) (H:Hp) (v:V):Prop:=BadB K H v\/∃ (p x y:Addr) (q:Rat),v=.ref p/\SqT K H p [.ref x,.ref y]/\FQ K H x q/\FB 1990 q/\0 < q/\FQ K H y 0
theorem BadR.same (h:BadR K H v) (s:Same H H'):BadR K H' v:=by
 rcases h with h|⟨p,x,y,q,e,h1,h2,h3,h4,h5⟩
 ·exact .inl (h.same s)
 ·exact .inr ⟨p,x,y,q,e,Kw.Same.tup s h1,Kw.Same.tup s h2,h3,h4,Kw.Same.tup s h5⟩
theorem Odd.badB {c:Bool} (h:Odd H v c):BadB K H v:=by
 cases h with
 |non=>exact .inl ⟨_,.non,kit_non_tup⟩
 |bl b=>exact .inl ⟨_,.bl b,kit_bl_tup⟩
 |s1=>exact .inl ⟨_,.str _,JE⟩
 |s0=>exact .inl ⟨_,.str _,JE⟩
 |one e=>exact .inr (.inr ⟨_,rfl,e⟩)
 |lst e=>exact .inl ⟨_,.lst e,kit_lst_tup⟩
 |dct e=>exact .inl ⟨_,.dK e,kit_dct_tup⟩
 |nil e=>exact .inr (.inl ⟨_,rfl,e⟩)
theorem Odd.lstB {c:Bool} (h:Odd H v c):NoLst K H v\/∃ p,v=.ref p/\H p=some (.lst [.int 1]):=by
 cases h with
 |non=>exact .inl (.inl ⟨_,.non,kit_non_lst⟩)
 |bl b=>exact .inl (.inl ⟨_,.bl b,kit_bl_lst⟩)
 |s1=>exact .inl (.inl ⟨_,.str _,JP⟩)
 |s0=>exact .inl (.inl ⟨_,.str _,JP⟩)
 |one e=>exact .inl (.inl ⟨_,.tup e,Zm⟩)
 |lst e=>exact .inr ⟨_,rfl,e⟩
 |dct e=>exact .inl (.inl ⟨_,.dK e,kit_dct_lst⟩)
 |nil e=>exact .inl (.inl ⟨_,.tup e,Zm⟩)
theorem Odd.buts {c:Bool} {as:List Addr} (h:Odd H v c) (n:∀ p,v=.ref p->p∉as) (s:Buts as H H'):Odd H' v c:=by
 cases h with
 |non=>exact .non
 |bl b=>exact .bl b
 |s1=>exact .s1
 |s0=>exact .s0
 |one e=>exact .one (s _ _ (n _ rfl) e)
 |lst e=>exact .lst (s _ _ (n _ rfl) e)
 |dct e=>exact .dct (s _ _ (n _ rfl) e)
 |nil e=>exact .nil (s _ _ (n _ rfl) e)
end
noncomputable def inw0 (R:Rat × Rat) (b:Bq):Bool:=decide (0<=b.x) && decide (b.far 0<=R.1)
noncomputable def inw1 (R:Rat × Rat) (b:Bq):Bool:=decide (0<=b.y) && decide (b.far 1<=R.2)
noncomputable def inwB (R:Rat × Rat) (b:Bq):Bool:=inw0 R b && inw1 R b
noncomputable def BoxE (K:PySem.W.Frag) (H:Hp) (v:V) (o:Option Bq):Prop:=(∃ b,o=some b/\BqH K 1990 H v b/\0 < b.w/\0 < b.h/\∃ m,b.m=some m)\/(o=none/\BadB K H v)
theorem BoxE.same {K:PySem.W.Frag} {H H':Hp} {v:V} {o:Option Bq} (h:BoxE K H v o) (s:Same H H'):BoxE K H' v o:=by
 rcases h with ⟨b,e,h1,h2⟩|⟨e,h⟩
 ·exact .inl ⟨b,e,h1.same s,h2⟩
 ·exact .inr ⟨e,h.same s⟩
theorem bxe_same {K:PySem.W.Frag} {H H':Hp} {vs:List V} {os:List (Option Bq)} (h:Al2 (BoxE K H) vs os) (s:Same H H'):Al2 (BoxE K H') vs os:=Al2.imp (λ_ _ z=>z.same s) h
noncomputable def okE (R:Rat × Rat):Option Bq->Bool
 |none=>false
 |some b=>inwB R b
noncomputable def ZJ (gs:List Bq) (i j:Nat):Prop:=i < j/\j < gs.length/\(hicB (bxAt gs i) (bxAt gs j) 0 && hicB (bxAt gs i) (bxAt gs j) 1)=true/\∀ a b,a < b->b < gs.length->(a < i\/a=i/\b < j)->(hicB (bxAt gs a) (bxAt gs b) 0 && hicB (bxAt gs a) (bxAt gs b) 1)=false
inductive NoB (K:PySem.W.Frag) (H:Hp):V->V->Prop
 |room {vr vl:V} (h:BadR K H vr):NoB K H vr vl
 |list {r x y:Addr} {R:Rat × Rat} {vl:V} (h1:SqT K H r [.ref x,.ref y]) (h2:FQ K H x R.1) (h3:FQ K H y R.2) (d1:FB 1990 R.1) (d2:FB 1990 R.2) (p1:0 < R.1) (p2:0 < R.2) (h:NoLst K H vl):NoB K H (.ref r) vl
 |few {r x y l:Addr} {R:Rat × Rat} {xs:List V} (h1:SqT K H r [.ref x,.ref y]) (h2:FQ K H x R.1) (h3:FQ K H y R.2) (d1:FB 1990 R.1) (d2:FB 1990 R.2) (p1:0 < R.1) (p2:0 < R.2) (hl:H l=some (.lst xs)) (h:xs.length=0\/6 < xs.length):NoB K H (.ref r) (.ref l)
 |some {r x y l:Addr} {R:Rat × Rat} {xs:List V} {os:List (Option Bq)} (h1:SqT K H r [.ref x,.ref y]) (h2:FQ K H x R.1) (h3:FQ K H y R.2) (d1:FB 1990 R.1) (d2:FB 1990 R.2) (p1:0 < R.1) (p2:0 < R.2) (hl:H l=some (.lst xs)) (l1:1<=xs.length) (l6:xs.length<=6) (al:Al2 (BoxE K H) xs os) (h:∃ o∈os,okE R o=false):NoB K H (.ref r) (.ref l)
theorem NoB.same {K:PySem.W.Frag} {H H':Hp} {a b:V} (h:NoB K H a b) (s:Same H H'):NoB K H' a b:=by
 cases h with
 |room h=>exact .room (h.same s)
 |list h1 h2 h3 d1 d2 p1 p2 h=>exact .list (Kw.Same.tup s h1) (Kw.Same.tup s h2) (Kw.Same.tup s h3) d1 d2 p1 p2 (h.same s)
 |few h1 h2 h3 d1 d2 p1 p2 hl h=>exact .few (Kw.Same.tup s h1) (Kw.Same.tup s h2) (Kw.Same.tup s h3) d1 d2 p1 p2 (s _ _ hl) h
 |some h1 h2 h3 d1 d2 p1 p2 hl l1 l6 al h=>exact .some (Kw.Same.tup s h1) (Kw.Same.tup s h2) (Kw.Same.tup s h3) d1 d2 p1 p2 (s _ _ hl) l1 l6 (bxe_same al s) h
theorem gd_bxe {K:PySem.W.Frag} {H:Hp} {R:Rat × Rat}:∀ {xs:List V} {gs:List Bq},Al2 (BqH K 1990 H) xs gs->(∀ b∈gs,InR R b)->WtB gs->Al2 (BoxE K H) xs (gs.map some)
 |[],[],_,_,_=>trivial
 |_::_,b::_,z,h,w=>by
  have hb:=h b (List.mem_cons_self ..);obtain ⟨m,em,_⟩:=w b (List.mem_cons_self ..);exact ⟨.inl ⟨b,rfl,z.1,hb.1,hb.2.1,m,em⟩,gd_bxe z.2 (λc hc=>h c (List.mem_cons_of_mem _ hc)) (λc hc=>w c (List.mem_cons_of_mem _ hc))⟩
 |[],_::_,z,_,_=>z.elim
 |_::_,[],z,_,_=>z.elim
theorem inr_w {R:Rat × Rat} {b:Bq} (h:InR R b):inwB R b=true:=by
 unfold inwB inw0 inw1;rw [decide_eq_true h.2.2.1,decide_eq_true h.2.2.2.1,decide_eq_true h.2.2.2.2.1,decide_eq_true h.2.2.2.2.2];rfl
theorem inw_x {R:Rat × Rat} {b:Bq} (h:b.x < 0):inwB R b=false:=by
 unfold inwB inw0;rw [decide_eq_false (Rat.not_le.mpr h)];rfl
theorem inw_y {R:Rat × Rat} {b:Bq} (h:b.y < 0):inwB R b=false:=by
 unfold inwB inw1;rw [decide_eq_false (Rat.not_le.mpr h),Bool.false_and,Bool.and_false]
theorem inw_fx {R:Rat × Rat} {b:Bq} (h:R.1 < b.far 0):inwB R b=false:=by
 unfold inwB inw0;rw [decide_eq_false (Rat.not_le.mpr h),Bool.and_false,Bool.false_and]
theorem inw_fy {R:Rat × Rat} {b:Bq} (h:R.2 < b.far 1):inwB R b=false:=by
 unfold inwB inw1;rw [decide_eq_false (Rat.not_le.mpr h),Bool.and_false,Bool.and_false]
theorem hic_self {R:Rat × Rat} {g:Bq} (h:InR R g):(hicB g g 0 && hicB g g 1)=true:=by
 have k:∀ d,0 < g.sz d->hicB g g d=true:=λd z=>by
  have:g.pl d < g.far d:=by unfold Bq.far; grind
  unfold hicB;rw [decide_eq_true this];rfl
 rw [k 0 h.1,k 1 h.2.1];rfl
theorem fov_snoc {R:Rat × Rat} {gs:List Bq} {sp:Nat} {g:Bq} (ap:∀ i j,i < j->j < gs.length->(hicB (bxAt gs i) (bxAt gs j) 0 && hicB (bxAt gs i) (bxAt gs j) 1)=false) (h:gs[sp]?=some g) (ir:InR R g):ZJ (gs++[g]) sp gs.length:=by
 have sl:=(List.getElem?_eq_some_iff.mp h).1;refine ⟨sl,by simp,?_,λa b ab bl c=>?_⟩
 ·rw [ZF sl,bx_last,ye h];exact hic_self ir
 ·rw [List.length_append] at bl;simp only [List.length_cons,List.length_nil] at bl;rcases Nat.lt_or_ge b gs.length with z|z
  ·rw [ZF (by omega),ZF z]
   exact ap a b ab z
  ·have e:b=gs.length:=by omega
   subst e;have as:a < sp:=by omega
   have y:=ap a sp as sl;rw [ye h] at y;rw [ZF (by omega),bx_last]
   exact y
theorem fov_three {R:Rat × Rat} {g g0:Bq} (ir:InR R g):ZJ [g,g,g0] 0 1:=⟨by decide,by simp,hic_self ir,λa b ab _ c=>by omega⟩
noncomputable def ovD (i j:Nat):PyData:=.tuple [.str (Str.ofString "overlap"),.int (i:Int),.int (j:Int)]
theorem Y7 {K:PySem.W.Frag} {H:Hp} {p:Addr} {i j:Nat} (h:SqT K H p [strV "overlap",.int (i:Int),.int (j:Int)]):Dp K H (.ref p) (ovD i j):=.tup h (.cons (.str _) (.cons (.int _) (.cons (.int _) .nil)))
theorem Yv (i j:Nat):(ovD i j).canLay0=true/\Nat.ble (ovD i j).depth 60=true:=by
 have e:PyData.canLay0 (.str (Str.ofString "overlap"))=true:=by decide+kernel
 constructor
 ·show (PyData.canLay0 (.str (Str.ofString "overlap")) && true)=true;rw [e];rfl
 ·rfl
theorem cut_any6 {xs:List V} {k:Nat}:cutV xs none (some (k:Int))=xs.take k:=by
 by_cases h:k<=xs.length
 ·exact Yx h
 ·unfold cutV;rw [HT.sIx_nat,show HT.sIx xs.length 0 none=0 from rfl,List.drop_zero,Nat.sub_zero];rw [List.take_of_length_le (by omega),List.take_of_length_le (by omega)]
end Kw
namespace Prf
open PySem PySem.Spec PyProof.Rows L2 Kw
noncomputable def top (i:Nat):Stmt:=PySem.Challenge.pw_knockwright_k72_boxes_refused.main.body.getD i (.Pass ⟨0,0,0,0⟩)
structure Tx (K:PySem.W.Frag) (mg:Str->Option Value) (CK:Addr) (C:Nat->Addr):Prop where
 b_isinstance:mg "isinstance"=none
 b_int:mg "int"=none
 b_bool:mg "bool"=none
 b_tuple:mg "tuple"=none
 b_list:mg "list"=none
 b_abs:mg "abs"=none
 b_len:mg "len"=none
 b_divmod:mg "divmod"=none
 b_range:mg "range"=none
 b_max:mg "max"=none
 b_min:mg "min"=none
 b_all:mg "all"=none
 b_any:mg "any"=none
 b_ValueError:mg "ValueError"=none
 b_set:mg "set"=none
 c_KnockError:mg "KnockError"=some (.ref CK)
 c_NoBox:mg "NoBox"=some (.ref (C 0))
 c_TooMany:mg "TooMany"=some (.ref (C 1))
 c_NoBody:mg "NoBody"=some (.ref (C 2))
 c_NoMoment:mg "NoMoment"=some (.ref (C 3))
 c_Overlap:mg "Overlap"=some (.ref (C 4))
 c_NoWorld:mg "NoWorld"=some (.ref (C 5))
 c_Crowd:mg "Crowd"=some (.ref (C 6))
 R:Refs K CK C 7 4
 rd:readsIn K CK (.type "type")=true
 fc:findCls K (.ref CK) (.type "type") "__init__"=some (.val (.builtin "ValueError.__init__"))
 gs:specialIn K (.ref CK) "__getattribute__"=some (some (.builtin "type.__getattribute__"))
 n_Overlap_one:yB K (C 4) "one"
 n_Overlap_other:yB K (C 4) "other"
 n_NoWorld_at:yB K (C 5) "at"
 n_Crowd_moment:yB K (C 6) "moment"
 n_Crowd_place:yB K (C 6) "place"
 n_Crowd_numbers:yB K (C 6) "numbers"
 s_NoBox_KnockError:subIn K (.ref (C 0)) (.ref CK)=some true
 s_Overlap_KnockError:subIn K (.ref (C 4)) (.ref CK)=some true
 s_TooMany_KnockError:subIn K (.ref (C 1)) (.ref CK)=some true
 c_Plane:mg "Plane"=some (.ref (C 7))
 cl_Plane:Cls K (C 7)
 mk_Plane:makesIn K (C 7)=true
 kp_Plane:keepIn K (.ref (C 7))=true
 n_Plane_walls:yB K (C 7) "walls"
 n_Plane_goings:yB K (C 7) "goings"
 n_Plane_now:yB K (C 7) "now"
 n_Plane_gone_through:yB K (C 7) "gone_through"
 n_Plane_joints:yB K (C 7) "joints"
 n_Plane_coming:yB K (C 7) "coming"
 n_Plane_due:yB K (C 7) "due"
 k_LONG_BITS:∃ t,mg "LONG_BITS"=some (.int 4000 t)
 x_KnockError:ExcC K CK
 a_NoBox:kitAny K (.ref (C 0)) [.ref (C 6),.ref (C 2),.ref (C 3),.ref (C 5)]=some false
 a_Overlap:kitAny K (.ref (C 4)) [.ref (C 6),.ref (C 2),.ref (C 3),.ref (C 5)]=some false
 a_TooMany:kitAny K (.ref (C 1)) [.ref (C 6),.ref (C 2),.ref (C 3),.ref (C 5)]=some false
 k_NOUGHT:∃ N,mg "NOUGHT"=some (.ref N)/\∀ H,SqT K H N [.int 0,.int 1]
 k_ACROSS:∃ t,mg "ACROSS"=some (.int 0 t)
 k_ALONG:∃ t,mg "ALONG"=some (.int 1 t)
 k_SIZES:∃ t,mg "SIZES"=some (.int 2 t)
 k_SPEEDS:∃ t,mg "SPEEDS"=some (.int 4 t)
 k_ALL:∃ N,mg "ALL"=some (.ref N)/\∀ H,SqT K H N [.int 1,.int 1]
 k_WORDS:∃ N,mg "WORDS"=some (.ref N)/\∀ H,SqT K H N ((["across","along"]:List String).map strV)
 k_NEAR_WALL:∃ t,mg "NEAR_WALL"=some (.int (-1) t)
 k_FAR_WALL:∃ t,mg "FAR_WALL"=some (.int (-2) t)
 k_MOST_WEIGHT:∃ t,mg "MOST_WEIGHT"=some (.int 1000 t)
 k_MOST_BOXES:∃ t,mg "MOST_BOXES"=some (.int 6 t)
 k_MOST_MOMENTS:∃ t,mg "MOST_MOMENTS"=some (.int 40 t)
section
variable {P:Program} {w:World} {K:PySem.W.Frag} {mg:Str->Option Value} {base:Heap} {CK:Addr} {C:Nat->Addr}
theorem Tx.x_NoBox (T:Tx K mg CK C):ExcC K (C 0):=T.R.x 0 (by decide) (by decide)
theorem Tx.x_TooMany (T:Tx K mg CK C):ExcC K (C 1):=T.R.x 1 (by decide) (by decide)
theorem Tx.o_Overlap (T:Tx K mg CK C):excO K (C 4)=true:=T.R.o 4 (by decide) (by decide)
theorem Tx.p_Overlap (T:Tx K mg CK C):keepIn K (.ref (C 4))=true:=T.R.kp 4 (by decide)
theorem sc_Overlap___init__:FnScope ["self","one","other"] ["self","one","other"] (zD (jQ (top 8))):={}
theorem ok_Overlap___init__ (D:DfI K (C 4) "Overlap.__init__" (jQ (top 8)) ["self","one","other"]) (T:Tx K mg CK C):FnI P w K mg base 1 (C 4) ["self","one","other"] (JU (C 4) ["one","other"]):=by
 refine D.ok sc_Overlap___init__ (λvs H Q E h=>?_) (λf cdv A outer s H vs Q E hr h=>?_)
 ·obtain ⟨x,ys,rfl,hl,_⟩:=h;exact congrArg Nat.succ hl
 obtain ⟨x,ys,rfl,hl,hx,q⟩:=h;obtain ⟨y0,y1,rfl⟩:∃ y0 y1,ys=[y0,y1]:=match ys,hl with|[y0,y1],_=>⟨y0,y1,rfl⟩
 refine ⟨_,(zE (yI (pe_base (by rfl) T.c_KnockError T.rd T.fc T.gs (zA (pv 0) (zA (pv 1) (zA (pv 2) zB)))))
   (zE (ps_xf (pv 0) (pv 1))
   (zF (ps_xf (pv 0) (pv 2))))),?_⟩
 refine ⟨_,rfl,_,rfl,_,rfl,x,C 4,none,[y0,y1],rfl,hx,T.o_Overlap,(by show 2<=sizeLine; decide),?_⟩
 refine ⟨_,rfl,_,rfl,x,C 4,rfl,T.R.c 4 (by decide) (by decide),T.n_Overlap_one,.inl ⟨hx,λd hd=>?_⟩⟩
 obtain ⟨H0,q0,b0,x0,d0⟩:=dressO (Xd d [("one",y0)]) (Xo x (C 4) (some d)) hx hd;dsimp only;rw [q0];refine ⟨_,rfl,_,rfl,x,C 4,rfl,T.R.c 4 (by decide) (by decide),T.n_Overlap_other,.inr ⟨d,[("one",y0)],x0,d0,(by show 1 < 1000; decide),?_⟩⟩
 have qA:putF "other" y1 [("one",y0)]=([("one",y0),("other",y1)]:List (Str × V)):=rfl;obtain ⟨H1,q1,b1,x1,d1⟩:=putO (Xd d [("one",y0),("other",y1)]) hd hx b0 x0;dsimp only;rw [qA,q1];exact q d H1 (λz=>by rw [z,hx] at hd; cases hd) b1 x1 d1
theorem Tx.o_NoWorld (T:Tx K mg CK C):excO K (C 5)=true:=T.R.o 5 (by decide) (by decide)
theorem Tx.p_NoWorld (T:Tx K mg CK C):keepIn K (.ref (C 5))=true:=T.R.kp 5 (by decide)
theorem sc_NoWorld___init__:FnScope ["self","at"] ["self","at"] (zD (jQ (top 7))):={}
theorem ok_NoWorld___init__ (D:DfI K (C 5) "NoWorld.__init__" (jQ (top 7)) ["self","at"]) (T:Tx K mg CK C):FnI P w K mg base 1 (C 5) ["self","at"] (JU (C 5) ["at"]):=by
 refine D.ok sc_NoWorld___init__ (λvs H Q E h=>?_) (λf cdv A outer s H vs Q E hr h=>?_)
 ·obtain ⟨x,ys,rfl,hl,_⟩:=h;exact congrArg Nat.succ hl
 obtain ⟨x,ys,rfl,hl,hx,q⟩:=h;obtain ⟨y0,rfl⟩:∃ y0,ys=[y0]:=List.length_eq_one_iff.mp hl
 refine ⟨_,(zE (yI (pe_base (by rfl) T.c_KnockError T.rd T.fc T.gs (zA (pv 0) (zA (pv 1) zB))))
   (zF (ps_xf (pv 0) (pv 1)))),?_⟩
 refine ⟨_,rfl,_,rfl,x,C 5,none,[y0],rfl,hx,T.o_NoWorld,(by show 1<=sizeLine; decide),?_⟩
 refine ⟨_,rfl,_,rfl,x,C 5,rfl,T.R.c 5 (by decide) (by decide),T.n_NoWorld_at,.inl ⟨hx,λd hd=>?_⟩⟩
 obtain ⟨H0,q0,b0,x0,d0⟩:=dressO (Xd d [("at",y0)]) (Xo x (C 5) (some d)) hx hd;dsimp only;rw [q0];exact q d H0 (λz=>by rw [z,hx] at hd; cases hd) b0 x0 d0
theorem Tx.o_Crowd (T:Tx K mg CK C):excO K (C 6)=true:=T.R.o 6 (by decide) (by decide)
theorem Tx.p_Crowd (T:Tx K mg CK C):keepIn K (.ref (C 6))=true:=T.R.kp 6 (by decide)
theorem sc_Crowd___init__:FnScope ["self","moment","place","numbers"] ["self","moment","place","numbers"] (zD (jQ (top 9))):={}
theorem ok_Crowd___init__ (D:DfI K (C 6) "Crowd.__init__" (jQ (top 9)) ["self","moment","place","numbers"]) (T:Tx K mg CK C):FnI P w K mg base 1 (C 6) ["self","moment","place","numbers"] (JU (C 6) ["moment","place","numbers"]):=by
 refine D.ok sc_Crowd___init__ (λvs H Q E h=>?_) (λf cdv A outer s H vs Q E hr h=>?_)
 ·obtain ⟨x,ys,rfl,hl,_⟩:=h;exact congrArg Nat.succ hl
 obtain ⟨x,ys,rfl,hl,hx,q⟩:=h;obtain ⟨y0,y1,y2,rfl⟩:∃ y0 y1 y2,ys=[y0,y1,y2]:=match ys,hl with|[y0,y1,y2],_=>⟨y0,y1,y2,rfl⟩
 refine ⟨_,(zE (yI (pe_base (by rfl) T.c_KnockError T.rd T.fc T.gs (zA (pv 0) (zA (pv 1) (zA (pv 2) (zA (pv 3) zB))))))
   (zE (ps_xf (pv 0) (pv 1))
   (zE (ps_xf (pv 0) (pv 2))
   (zF (ps_xf (pv 0) (pv 3)))))),?_⟩
 refine ⟨_,rfl,_,rfl,_,rfl,_,rfl,x,C 6,none,[y0,y1,y2],rfl,hx,T.o_Crowd,(by show 3<=sizeLine; decide),?_⟩
 refine ⟨_,rfl,_,rfl,x,C 6,rfl,T.R.c 6 (by decide) (by decide),T.n_Crowd_moment,.inl ⟨hx,λd hd=>?_⟩⟩
 obtain ⟨H0,q0,b0,x0,d0⟩:=dressO (Xd d [("moment",y0)]) (Xo x (C 6) (some d)) hx hd;dsimp only;rw [q0];refine ⟨_,rfl,_,rfl,x,C 6,rfl,T.R.c 6 (by decide) (by decide),T.n_Crowd_place,.inr ⟨d,[("moment",y0)],x0,d0,(by show 1 < 1000; decide),?_⟩⟩
 have qA:putF "place" y1 [("moment",y0)]=([("moment",y0),("place",y1)]:List (Str × V)):=rfl;obtain ⟨H1,q1,b1,x1,d1⟩:=putO (Xd d [("moment",y0),("place",y1)]) hd hx b0 x0;dsimp only;rw [qA,q1];refine ⟨_,rfl,_,rfl,x,C 6,rfl,T.R.c 6 (by decide) (by decide),T.n_Crowd_numbers,.inr ⟨d,[("moment",y0),("place",y1)],x1,d1,(by show 2 < 1000; decide),?_⟩⟩
 have Kl:putF "numbers" y2 [("moment",y0),("place",y1)]=([("moment",y0),("place",y1),("numbers",y2)]:List (Str × V)):=rfl;obtain ⟨H2,q2,b2,x2,d2⟩:=putO (Xd d [("moment",y0),("place",y1),("numbers",y2)]) hd hx b1 x1;dsimp only;rw [Kl,q2];exact q d H2 (λz=>by rw [z,hx] at hd; cases hd) b2 x2 d2
theorem cxK {CX P w K mg base N qual scope f cd A outer s H E}:(cxOf CX P w K mg base N qual scope f cd A outer s H E).nox.K=K:=rfl
theorem cxK0 {CX P w K mg base N qual scope f cd A outer s H E}:(cxOf CX P w K mg base N qual scope f cd A outer s H E).K=K:=rfl
theorem sc_is_whole:FnScope ["thing"] ["thing"] (zD (top 13)):={}
theorem ok_is_whole (D:Df K mg "is_whole" (top 13) ["thing"]) (T:Tx K mg CK C):Fn P w K mg base 1 "is_whole" ["thing"] (Ya K):=by
 refine D.ok0 sc_is_whole (λvs H Q E h=>?_) (λf cdv A outer s H vs Q E hr h=>?_)
 ·obtain ⟨x,t,b1,b2,rfl,_⟩:=h;rfl
 obtain ⟨x,t,b1,b2,rfl,ty,k1,k2,q⟩:=h;refine ⟨_,(zF (zM (yd (zS Ze (by rfl) T.b_isinstance PyProof.Rows.Boot.«isinstance» (zA (pv 0) (zA (Zr (by rfl) T.b_int PyProof.Rows.Boot.«int») zB))) (yR (pe_not (zS Ze (by rfl) T.b_isinstance PyProof.Rows.Boot.«isinstance» (zA (pv 0) (zA (Zr (by rfl) T.b_bool PyProof.Rows.Boot.«bool») zB)))))))),?_⟩
 try dsimp only [cxK,cxK0]
 refine ⟨_,rfl,x,_,b1,rfl,.inl ⟨_,rfl⟩,⟨t,ty,k1⟩,b1,rfl,?_⟩;cases b1 with
 |false=>exact iteF q
 |true=>exact iteT ⟨_,rfl,x,_,b2,rfl,.inl ⟨_,rfl⟩,⟨t,ty,k2⟩,b2,rfl,q⟩
theorem zt:FnScope ["one","other","great","small","steps","rest"] ["one","other"] (zD (top 15)):={}
theorem ok_common_divisor (D:Df K mg "common_divisor" (top 15) ["one","other"]) (T:Tx K mg CK C):Fn P w K mg base 1 "common_divisor" ["one","other"] J7:=by
 refine D.ok0 zt (λvs H Q E h=>?_) (λf cdv A outer s H vs Q E hr h=>?_)
 ·obtain ⟨a,b,rfl,_⟩:=h;rfl
 obtain ⟨a,b,rfl,hb,q⟩:=h
 refine ⟨_,(zE (zO (i:=2) zt.nd rfl (Or.inl rfl) (zS Yn (by rfl) T.b_abs PyProof.Rows.Boot.«abs» (zA (pv 0) zB)))
   (zE (zO (i:=3) zt.nd rfl (Or.inl rfl) (zS Yn (by rfl) T.b_abs PyProof.Rows.Boot.«abs» (zA (pv 1) zB)))
   (zE (YR PassesOwn.never (zR op_gt (pe_bm0 PySem.F.plainAttrs_int PySem.F.slot_int_bit_length PySem.F.type_int_bit_length mt_bits (zS (call_min2 rfl) (by rfl) T.b_min PyProof.Rows.Boot.«min» (zA (pv 2) (zA (pv 3) zB)))) (zX (by rfl) T.k_LONG_BITS) (zU _)) pss_never)
   (zE (YR PassesOwn.never (zR op_gt (pv 3) zC (zU _)) (zE (zO (i:=5) zt.nd rfl (Or.inl rfl) (zN Ju (pv 2) (pv 3)))
   (zE (zO (i:=2) zt.nd rfl (Or.inl rfl) (pv 3))
   (zF (zO (i:=3) zt.nd rfl (Or.inl rfl) (pv 5))))))
   (zF (zM (pv 2))))))),?_⟩
 try dsimp only [cxK,cxK0]
 refine ⟨_,rfl,_,rfl,_,rfl,_,rfl,?_⟩;refine ⟨λm σ' H'=>∃ r1 r2:Option V,σ'=[some (.int a),some (.int b),some (.int (if a < 0 then -a else a)),some (.int (if b < 0 then -b else b)),r1,r2]/\H'=H,⟨0,_,_,rfl,rfl⟩,?_⟩
 rintro m σ' H' ⟨r1,r2,rfl,rfl⟩;refine ⟨_,rfl,_,rfl,_,_,rfl,rfl,_,rfl,rfl,_,_,rfl,rfl,_,rfl,?_⟩;refine zc (λc=>absurd c (short_min hb)) (λ_=>?_)
 refine ⟨λm σ' H2=>∃ g s:Int,∃ r1 r2:Option V,σ'=[some (.int a),some (.int b),some (.int g),some (.int s),r1,r2]/\H2=H'/\0<=g/\0<=s/\m=s.toNat/\Int.gcd g s=Int.gcd a b,⟨_,_,_,_,_,rfl,rfl,abs_nn a,abs_nn b,rfl,gcd_abs a b⟩,?_⟩
 rintro m σ' H2 ⟨g,s,r1,r2,rfl,rfl,hg,hs,rfl,e⟩;refine ⟨_,rfl,_,_,rfl,rfl,_,rfl,?_⟩;refine zc (λc=>?_) (λc=>?_)
 ·refine ⟨_,λ_ _ n=>n,?_⟩
  refine ⟨_,rfl,_,rfl,_,_,rfl,rfl,c,_,rfl,_,rfl,?_⟩;have l:=Int.emod_lt_of_pos g c;have l0:=Int.emod_nonneg g (show s≠0 by omega)
  exact ⟨_,by omega,s,g % s,_,_,rfl,rfl,by omega,l0,rfl,(gcd_step g s hg c).trans e⟩
 ·refine ⟨_,rfl,?_⟩;have s0:s=0:=by omega
  subst s0;have z:=gcd_end g hg;rw [e] at z;rw [<- z];exact q
noncomputable def Y8 (K:PySem.W.Frag):Sp:=λvs H Q _=>∃ (a:Int) (b:Int),vs=[.int a,.int b]/\Bd 4000 b/\b≠0/\(∀ (p_r:Addr) (H1:Hp),Same H H1->FQ K H1 p_r (Rat.divInt a b)->Q (.ref p_r) H1)
theorem ZW:FnScope ["top","bottom","divisor"] ["top","bottom"] (zD (top 17)):={}
theorem ok_fraction (D:Df K mg "fraction" (top 17) ["top","bottom"]) (T:Tx K mg CK C) (am:Fn P w K mg base 1 "is_whole" ["thing"] (Ya K)) (ad:Fn P w K mg base 1 "common_divisor" ["one","other"] J7) :
  Fn P w K mg base 2 "fraction" ["top","bottom"] (Y8 K):=by
 refine D.ok0 ZW (λvs H Q E h=>?_) (λf cdv A outer s H vs Q E hr h=>?_)
 ·obtain ⟨a,b,rfl,_⟩:=h;rfl
 obtain ⟨a,b,rfl,hb,c,hq⟩:=h
 refine ⟨_,(zE (ze (y9 (yH (zh (zJ am (by decide) hr (by rfl) zG (zA (pv 0) zB)) (λ_=>rfl))) (yO (yH (zh (zJ am (by decide) hr (by rfl) zG (zA (pv 1) zB)) (λ_=>rfl))))).pt (zF J1) zT)
   (zE (ze (zR ji (pv 1) zC (zU _)) (zF J1) zT)
   (zE (zO (i:=2) ZW.nd rfl (Or.inl rfl) (zJ ad (by decide) hr (by rfl) zG (zA (pv 0) (zA (pv 1) zB))))
   (zE (ze (zR Z5 (pv 1) zC (zU _)) (zF (zO (i:=2) ZW.nd rfl (Or.inl rfl) (Yl ZK (pv 2)))) zT)
   (zF (zM (zP (zA (zN yC (pv 0) (pv 2)) (zA (zN yC (pv 1) (pv 2)) zB))))))))),?_⟩
 try dsimp only [cxK,cxK0]
 refine ⟨_,rfl,_,_,true,false,rfl,.int a,yS,yJ,_,rfl,?_⟩;refine iteF ⟨_,rfl,_,_,true,false,rfl,.int b,yS,yJ,_,rfl,?_⟩;refine iteF ⟨_,rfl,rfl,_,rfl,?_⟩;refine yh (λz=>absurd z c) (λ_=>?_)
 refine ⟨_,rfl,_,rfl,a,b,rfl,hb,?_⟩;have hd:(if b < 0 then -((Int.gcd a b:Nat):Int) else ((Int.gcd a b:Nat):Int))=dv a b:=rfl
 have lg:=(bd_dv (t:=a) c (hb.mono (n:=9000) (by decide))).log
 refine ⟨_,rfl,_,_,rfl,rfl,_,rfl,?_⟩;refine zc (λn=>?_) (λn=>?_)
 ·rw [if_pos n] at hd;refine ⟨_,rfl,_,rfl,?_⟩;dsimp only;rw [hd];refine ⟨_,rfl,_,rfl,_,_,rfl,rfl,⟨ZQ c,lg⟩,_,rfl,_,rfl,_,_,rfl,rfl,⟨ZQ c,lg⟩,by show 2<=sizeLine; decide,?_⟩
  exact Yw λp H' sm hp=>hq p H' sm (FQ.fit c (SqT.of hp))
 ·rw [if_neg n] at hd;rw [hd];refine ⟨_,rfl,_,rfl,_,_,rfl,rfl,⟨ZQ c,lg⟩,_,rfl,_,rfl,_,_,rfl,rfl,⟨ZQ c,lg⟩,by show 2<=sizeLine; decide,?_⟩
  exact Yw λp H' sm hp=>hq p H' sm (FQ.fit c (SqT.of hp))
noncomputable def Zy (K:PySem.W.Frag):Sp:=λvs H Q _=>∃ (p_x:Addr) (x:Rat) (p_y:Addr) (y:Rat),vs=[.ref p_x,.ref p_y]/\FQ K H p_x x/\FB 8900 x/\FQ K H p_y y/\FB 4000 y/\(∀ (p_r:Addr) (H1:Hp),Same H H1->FQ K H1 p_r (x+y)->Q (.ref p_r) H1)
theorem Jg:FnScope ["one","other","shared","top","divisor"] ["one","other"] (zD (top 18)):={}
theorem ok_plus (D:Df K mg "plus" (top 18) ["one","other"]) (T:Tx K mg CK C) (ad:Fn P w K mg base 1 "common_divisor" ["one","other"] J7):Fn P w K mg base 2 "plus" ["one","other"] (Zy K):=by
 refine D.ok0 Jg (λvs H Q E h=>?_) (λf cdv A outer s H vs Q E hr h=>?_)
 ·obtain ⟨p,x,q,y,rfl,_⟩:=h;rfl
 obtain ⟨p,x,q,y,rfl,hp,⟨ha,hb⟩,hq,⟨hc,hd⟩,k⟩:=h
 refine ⟨_,(zE (zO (i:=2) Jg.nd rfl (Or.inl rfl) (zJ ad (by decide) hr (by rfl) zG (zA (zH ix_tup (pv 0) zC (λ_ _=>rfl)) (zA (zH ix_tup (pv 1) zC (λ_ _=>rfl)) zB))))
   (zE (zO (i:=3) Jg.nd rfl (Or.inl rfl) (zN zm (zN zf (zH ix_tup (pv 0) zC (λ_ _=>rfl)) (zN yC (zH ix_tup (pv 1) zC (λ_ _=>rfl)) (pv 2))) (zN zf (zH ix_tup (pv 1) zC (λ_ _=>rfl)) (zN yC (zH ix_tup (pv 0) zC (λ_ _=>rfl)) (pv 2)))))
   (zE (zO (i:=4) Jg.nd rfl (Or.inl rfl) (zJ ad (by decide) hr (by rfl) zG (zA (pv 3) (zA (pv 2) zB))))
   (zF (zM (zP (zA (zN yC (pv 3) (pv 4)) (zA (zN zf (zN yC (zH ix_tup (pv 0) zC (λ_ _=>rfl)) (pv 2)) (zN yC (zH ix_tup (pv 1) zC (λ_ _=>rfl)) (pv 4))) zB)))))))),?_⟩
 try dsimp only [cxK,cxK0]
 refine ⟨_,rfl,p,_,_,_,rfl,rfl,hp,rfl,_,rfl,q,_,_,_,rfl,rfl,hq,rfl,_,_,rfl,hd,?_⟩;have g0:=gpos (a:=((x.den:Nat):Int)) (q_ne y);have bg:=Jd (a:=((x.den:Nat):Int)) (q_ne y) hd;have GL:(((Int.gcd ((x.den:Nat):Int) ((y.den:Nat):Int):Nat):Int)) ∣ ((x.den:Nat):Int):=Int.gcd_dvd_left ..;have qB:(((Int.gcd ((x.den:Nat):Int) ((y.den:Nat):Int):Nat):Int)) ∣ ((y.den:Nat):Int):=Int.gcd_dvd_right ..;generalize hg:((Int.gcd ((x.den:Nat):Int) ((y.den:Nat):Int):Nat):Int)=g at g0 bg GL qB ⊢;have g1:g≠0:=by omega
 have lg:=(bg.mono (n:=9000) (by decide)).log
 have b1:=j9 hd qB g1;have b2:=j9 hb GL g1;refine ⟨_,rfl,p,_,_,_,rfl,rfl,hp,rfl,_,rfl,q,_,_,_,rfl,rfl,hq,rfl,_,rfl,_,_,rfl,rfl,⟨g1,lg⟩,_,_,rfl,rfl,ha.ok b1 (by decide),_,rfl,q,_,_,_,rfl,rfl,hq,rfl,_,rfl,p,_,_,_,rfl,rfl,hp,rfl,_,rfl,_,_,rfl,rfl,⟨g1,lg⟩,_,_,rfl,rfl,hc.ok b2 (by decide),_,_,rfl,rfl,?_⟩
 dsimp only;have bt:=(ha.mul b1).add (hc.mul b2);generalize ht:x.num * ((y.den:Nat):Int).fdiv g+y.num * ((x.den:Nat):Int).fdiv g=t at bt ⊢;refine ⟨_,rfl,_,rfl,_,_,rfl,bg,?_⟩;have h0:=gpos (a:=t) g1;have bh:=Jd (a:=t) g1 bg;have dh:((Int.gcd t g:Nat):Int) ∣ g:=Int.gcd_dvd_right ..;generalize hh:((Int.gcd t g:Nat):Int)=h at h0 bh dh ⊢;have h1:h≠0:=by omega
 have lh:=(bh.mono (n:=9000) (by decide)).log
 have b3:=j9 hd (Int.dvd_trans dh qB) h1;refine ⟨_,rfl,_,rfl,_,_,rfl,rfl,⟨h1,lh⟩,_,rfl,p,_,_,_,rfl,rfl,hp,rfl,_,rfl,_,_,rfl,rfl,⟨g1,lg⟩,_,rfl,q,_,_,_,rfl,rfl,hq,rfl,_,rfl,_,_,rfl,rfl,⟨h1,lh⟩,_,_,rfl,rfl,b2.ok b3 (by decide),by show 2<=sizeLine; decide,?_⟩
 refine Yw λr H1 sm ej=>k r H1 sm ?_
 obtain ⟨e1,e2⟩:=q_plus x y g t h hg.symm ht.symm hh.symm;have z:=SqT.of (K:=K) ej;dsimp only at z;rw [e1,e2] at z;exact z
noncomputable def ZT (K:PySem.W.Frag):Sp:=λvs H Q _=>∃ (p_x:Addr) (x:Rat) (p_y:Addr) (y:Rat),vs=[.ref p_x,.ref p_y]/\FQ K H p_x x/\FB 8900 x/\FQ K H p_y y/\FB 4000 y/\(∀ (p_r:Addr) (H1:Hp),Same H H1->FQ K H1 p_r (x - y)->Q (.ref p_r) H1)
theorem sc_minus:FnScope ["one","other"] ["one","other"] (zD (top 19)):={}
theorem ok_minus (D:Df K mg "minus" (top 19) ["one","other"]) (T:Tx K mg CK C) (aP:Fn P w K mg base 2 "plus" ["one","other"] (Zy K)):Fn P w K mg base 3 "minus" ["one","other"] (ZT K):=by
 refine D.ok0 sc_minus (λvs H Q E h=>?_) (λf cdv A outer s H vs Q E hr h=>?_)
 ·obtain ⟨p_x,x,p_y,y,rfl,_⟩:=h;rfl
 obtain ⟨p_x,x,p_y,y,rfl,g_x,d_x,g_y,d_y,k0⟩:=h;refine ⟨_,(zF (zM (zJ aP (by decide) hr (by rfl) zG (zA (pv 0) (zA (zP (zA (Yl ZK (zH ix_tup (pv 1) zC (λ_ _=>rfl))) (zA (zH ix_tup (pv 1) zC (λ_ _=>rfl)) zB))) zB))))),?_⟩
 try dsimp only [cxK,cxK0]
 refine ⟨_,rfl,_,rfl,p_y,_,_,_,rfl,rfl,g_y,rfl,_,rfl,_,rfl,p_y,_,_,_,rfl,rfl,g_y,rfl,by show 2<=sizeLine; decide,?_⟩
 intro p1 n1;obtain ⟨H1,q1,s1,e1⟩:=newO n1 (.tup [.int ((-(y).num)),.int ((((y).den:Nat):Int))]);rw [q1];clear q1;have h1:=SqT.of (K:=K) e1;have g1:FQ K H1 p1 (-(y)):=by exact FQ.ofNeg h1 (by omega)
 replace g_x:=(Kw.Same.tup s1 g_x);refine ⟨_,_,_,_,rfl,g_x,(FB.mono d_x (by decide)),g1,(FB.mono (FB.neg d_y) (by decide)),λp_r2 H2 s2 g_r2=>?_⟩
 have d_r2:FB 12901 (x+((-(y)))):=(FB.mono (FB.add d_x (FB.neg d_y)) (by decide))
 have e3:((x+((-(y)))):Rat)=x - y:=by grind
 exact k0 _ _ (s1.trans s2) (FQ.cast g_r2 e3)
noncomputable def Ys (K:PySem.W.Frag):Sp:=λvs H Q _=>∃ (p_x:Addr) (x:Rat) (p_y:Addr) (y:Rat),vs=[.ref p_x,.ref p_y]/\FQ K H p_x x/\FB 4000 x/\FQ K H p_y y/\FB 4000 y/\(∀ (p_r:Addr) (H1:Hp),Same H H1->FQ K H1 p_r (x * y)->Q (.ref p_r) H1)
theorem Jw:FnScope ["one","other","first","second"] ["one","other"] (zD (top 20)):={}
theorem ok_times (D:Df K mg "times" (top 20) ["one","other"]) (T:Tx K mg CK C) (ad:Fn P w K mg base 1 "common_divisor" ["one","other"] J7):Fn P w K mg base 2 "times" ["one","other"] (Ys K):=by
 refine D.ok0 Jw (λvs H Q E h=>?_) (λf cdv A outer s H vs Q E hr h=>?_)
 ·obtain ⟨p,x,q,y,rfl,_⟩:=h;rfl
 obtain ⟨p,x,q,y,rfl,hp,⟨ha,hb⟩,hq,⟨hc,hd⟩,k⟩:=h
 refine ⟨_,(zE (zO (i:=2) Jw.nd rfl (Or.inl rfl) (zJ ad (by decide) hr (by rfl) zG (zA (zH ix_tup (pv 0) zC (λ_ _=>rfl)) (zA (zH ix_tup (pv 1) zC (λ_ _=>rfl)) zB))))
   (zE (zO (i:=3) Jw.nd rfl (Or.inl rfl) (zJ ad (by decide) hr (by rfl) zG (zA (zH ix_tup (pv 1) zC (λ_ _=>rfl)) (zA (zH ix_tup (pv 0) zC (λ_ _=>rfl)) zB))))
   (zF (zM (zP (zA (zN zf (zN yC (zH ix_tup (pv 0) zC (λ_ _=>rfl)) (pv 2)) (zN yC (zH ix_tup (pv 1) zC (λ_ _=>rfl)) (pv 3))) (zA (zN zf (zN yC (zH ix_tup (pv 0) zC (λ_ _=>rfl)) (pv 3)) (zN yC (zH ix_tup (pv 1) zC (λ_ _=>rfl)) (pv 2))) zB))))))),?_⟩
 try dsimp only [cxK,cxK0]
 refine ⟨_,rfl,p,_,_,_,rfl,rfl,hp,rfl,_,rfl,q,_,_,_,rfl,rfl,hq,rfl,_,_,rfl,hd,?_⟩;have f0:=gpos (a:=x.num) (q_ne y);have bf:=Jd (a:=x.num) (q_ne y) hd;have GM:((Int.gcd x.num ((y.den:Nat):Int):Nat):Int) ∣ x.num:=Int.gcd_dvd_left ..;have GN:((Int.gcd x.num ((y.den:Nat):Int):Nat):Int) ∣ ((y.den:Nat):Int):=Int.gcd_dvd_right ..;generalize hf:((Int.gcd x.num ((y.den:Nat):Int):Nat):Int)=f1 at f0 bf GM GN ⊢;refine ⟨_,rfl,q,_,_,_,rfl,rfl,hq,rfl,_,rfl,p,_,_,_,rfl,rfl,hp,rfl,_,_,rfl,hb,?_⟩;have s0:=gpos (a:=y.num) (q_ne x);have bs:=Jd (a:=y.num) (q_ne x) hb;have GO:((Int.gcd y.num ((x.den:Nat):Int):Nat):Int) ∣ y.num:=Int.gcd_dvd_left ..;have GP:((Int.gcd y.num ((x.den:Nat):Int):Nat):Int) ∣ ((x.den:Nat):Int):=Int.gcd_dvd_right ..;generalize hs:((Int.gcd y.num ((x.den:Nat):Int):Nat):Int)=s1 at s0 bs GO GP ⊢;have iI:f1≠0:=by omega
 have ot:s1≠0:=by omega
 have lf:=(bf.mono (n:=9000) (by decide)).log
 have ls:=(bs.mono (n:=9000) (by decide)).log
 refine ⟨_,rfl,p,_,_,_,rfl,rfl,hp,rfl,_,rfl,_,_,rfl,rfl,⟨iI,lf⟩,_,rfl,q,_,_,_,rfl,rfl,hq,rfl,_,rfl,_,_,rfl,rfl,⟨ot,ls⟩,_,_,rfl,rfl,(j9 ha GM iI).ok (j9 hc GO ot) (by decide),_,rfl,p,_,_,_,rfl,rfl,hp,rfl,_,rfl,_,_,rfl,rfl,⟨ot,ls⟩,_,rfl,q,_,_,_,rfl,rfl,hq,rfl,_,rfl,_,_,rfl,rfl,⟨iI,lf⟩,_,_,rfl,rfl,(j9 hb GP ot).ok (j9 hd GN iI) (by decide),by show 2<=sizeLine; decide,?_⟩
 refine Yw λr H1 sm ej=>k r H1 sm ?_
 obtain ⟨e1,e2⟩:=q_times x y f1 s1 hf.symm hs.symm;have z:=SqT.of (K:=K) ej;dsimp only at z;rw [e1,e2] at z;exact z
noncomputable def sp_over (K:PySem.W.Frag):Sp:=λvs H Q _=>∃ (p_x:Addr) (x:Rat) (p_y:Addr) (y:Rat),vs=[.ref p_x,.ref p_y]/\FQ K H p_x x/\FB 4000 x/\FQ K H p_y y/\FB 4000 y/\y≠0/\(∀ (p_r:Addr) (H1:Hp),Same H H1->FQ K H1 p_r (x / y)->Q (.ref p_r) H1)
theorem sc_over:FnScope ["one","other","flipped"] ["one","other"] (zD (top 21)):={}
theorem ok_over (D:Df K mg "over" (top 21) ["one","other"]) (T:Tx K mg CK C) (aX:Fn P w K mg base 2 "times" ["one","other"] (Ys K)):Fn P w K mg base 3 "over" ["one","other"] (sp_over K):=by
 refine D.ok0 sc_over (λvs H Q E h=>?_) (λf cdv A outer s H vs Q E hr h=>?_)
 ·obtain ⟨p,x,q,y,rfl,_⟩:=h;rfl
 obtain ⟨p,x,q,y,rfl,hp,dx,hq,dy,y0,k⟩:=h
 refine ⟨_,(zE (ze (zR ji (zH ix_tup (pv 1) zC (λ_ _=>rfl)) zC (zU _)) (zF J1) zT)
   (zE (zO (i:=2) sc_over.nd rfl (Or.inl rfl) (Jz (zR op_gt (zH ix_tup (pv 1) zC (λ_ _=>rfl)) zC (zU _)) (zP (zA (zH ix_tup (pv 1) zC (λ_ _=>rfl)) (zA (zH ix_tup (pv 1) zC (λ_ _=>rfl)) zB))) (zP (zA (Yl ZK (zH ix_tup (pv 1) zC (λ_ _=>rfl))) (zA (Yl ZK (zH ix_tup (pv 1) zC (λ_ _=>rfl))) zB)))))
   (zF (zM (zJ aX (by decide) hr (by rfl) zG (zA (pv 0) (zA (pv 2) zB))))))),?_⟩
 try dsimp only [cxK,cxK0]
 have n0:=q_num_ne y0;refine ⟨_,rfl,q,_,_,_,rfl,rfl,hq,rfl,rfl,_,rfl,?_⟩;refine yh (λz=>absurd z n0) (λ_=>?_)
 refine ⟨_,rfl,q,_,_,_,rfl,rfl,hq,rfl,_,_,rfl,rfl,_,rfl,?_⟩;refine zc (λc=>?_) (λc=>?_)
 ·refine ⟨_,rfl,q,_,_,_,rfl,rfl,hq,rfl,_,rfl,q,_,_,_,rfl,rfl,hq,rfl,by show 2<=sizeLine; decide,?_⟩
  intro p1 n1;obtain ⟨H1,q1,s1,e1⟩:=newO n1 (.tup [.int ((y.den:Nat):Int),.int y.num]);rw [q1];clear q1;have g1:FQ K H1 p1 y⁻¹:=by
   have z:=SqT.of (K:=K) e1;rw [<- (q_invp c).1,<- (q_invp c).2] at z;exact z
  refine ⟨_,rfl,_,rfl,p,x,p1,y⁻¹,rfl,Kw.Same.tup s1 hp,dx,g1,FB.inv dy y0,λr H3 s3 g3=>?_⟩
  exact k r H3 (s1.trans s3) (g3.cast (Rat.div_def x y).symm)
 ·have c':y.num < 0:=by omega
  refine ⟨_,rfl,q,_,_,_,rfl,rfl,hq,rfl,_,rfl,_,rfl,q,_,_,_,rfl,rfl,hq,rfl,_,rfl,by show 2<=sizeLine; decide,?_⟩
  intro p2 n2;obtain ⟨H2,q2,s2,e2⟩:=newO n2 (.tup [.int (-((y.den:Nat):Int)),.int (-y.num)]);rw [q2];clear q2;have g1:FQ K H2 p2 y⁻¹:=by
   have z:=SqT.of (K:=K) e2;rw [<- (q_invn c').1,<- (q_invn c').2] at z;exact z
  refine ⟨_,rfl,_,rfl,p,x,p2,y⁻¹,rfl,Kw.Same.tup s2 hp,dx,g1,FB.inv dy y0,λr H3 s3 g3=>?_⟩
  exact k r H3 (s2.trans s3) (g3.cast (Rat.div_def x y).symm)
noncomputable def ZV (K:PySem.W.Frag):Sp:=λvs H Q _=>∃ (p_x:Addr) (x:Rat) (p_y:Addr) (y:Rat),vs=[.ref p_x,.ref p_y]/\FQ K H p_x x/\FB 8900 x/\FQ K H p_y y/\FB 8900 y/\(∀ (H1:Hp),Same H H1->Q (.bl (decide (x < y))) H1)
theorem sc_under:FnScope ["one","other"] ["one","other"] (zD (top 22)):={}
theorem ok_under (D:Df K mg "under" (top 22) ["one","other"]) (T:Tx K mg CK C):Fn P w K mg base 1 "under" ["one","other"] (ZV K):=by
 refine D.ok0 sc_under (λvs H Q E h=>?_) (λf cdv A outer s H vs Q E hr h=>?_)
 ·obtain ⟨p_x,x,p_y,y,rfl,_⟩:=h;rfl
 obtain ⟨p_x,x,p_y,y,rfl,g_x,d_x,g_y,d_y,k0⟩:=h;refine ⟨_,(zF (zM (yy Z5 (zN zf (zH ix_tup (pv 0) zC (λ_ _=>rfl)) (zH ix_tup (pv 1) zC (λ_ _=>rfl))) (zN zf (zH ix_tup (pv 1) zC (λ_ _=>rfl)) (zH ix_tup (pv 0) zC (λ_ _=>rfl))) (zU _)))),?_⟩
 try dsimp only [cxK,cxK0]
 refine ⟨_,rfl,p_x,_,_,_,rfl,rfl,g_x,rfl,_,rfl,p_y,_,_,_,rfl,rfl,g_y,rfl,_,_,rfl,rfl,(d_x.1.ok d_y.2 (by decide)),_,rfl,p_y,_,_,_,rfl,rfl,g_y,rfl,_,rfl,p_x,_,_,_,rfl,rfl,g_x,rfl,_,_,rfl,rfl,(d_y.1.ok d_x.2 (by decide)),_,_,rfl,rfl,?_⟩
 try dsimp only
 rw [show decide (((x).num * (((y).den:Nat):Int)) < ((y).num * (((x).den:Nat):Int)))=decide (x < y) from decide_eq_decide.mpr (by exact (q_lt x y).symm)]
 exact k0 _ (Same.refl _)
theorem ym {H H1:Hp} {a:Addr} (s:Same H H1) (n:H1 a=none):H a=none:=by
 cases e:H a with
 |none=>rfl
 |some o=>have:=s _ _ e; rw [n] at this; cases this
noncomputable def jG (K:PySem.W.Frag):Sp:=λvs H Q _=>∃ (z:V) (b:Bq) (d:Nat),vs=[z,.int (d:Int)]/\BqH K 5990 H z b/\d<=1/\∀ (r:Addr) (H1:Hp),Same H H1->FQ K H1 r (b.far d)->FB 7981 (b.far d)->Q (.ref r) H1
theorem sc_far_side:FnScope ["box","way"] ["box","way"] (zD (top 43)):={}
theorem ok_far_side (D:Df K mg "far_side" (top 43) ["box","way"]) (T:Tx K mg CK C) (aP:Fn P w K mg base 2 "plus" ["one","other"] (Zy K)):Fn P w K mg base 3 "far_side" ["box","way"] (jG K):=by
 refine D.ok0 sc_far_side (λvs H Q E h=>?_) (λf cdv A outer s H vs Q E hr h=>?_)
 ·obtain ⟨z,b,d,rfl,_⟩:=h;rfl
 obtain ⟨z,b,d,rfl,⟨p,a0,a1,a2,a3,a4,a5,rfl,hp,⟨g0,g1,g2,g3,g4,g5⟩,⟨d0,d1,d2,d3,d4,d5⟩,wt⟩,hd,q⟩:=h;refine ⟨_,(zF (zM (zJ aP (by decide) hr (by rfl) zG (zA (zH ix_tup (pv 0) (pv 1) (λ_ _=>rfl)) (zA (zH ix_tup (pv 0) (zN zm (zX (by rfl) T.k_SIZES) (pv 1)) (λ_ _=>rfl)) zB))))),?_⟩
 try dsimp only [cxK,cxK0]
 rcases d01 hd with rfl|rfl
 ·exact ⟨_,rfl,_,rfl,p,_,_,_,rfl,rfl,hp,rfl,_,rfl,_,rfl,_,_,rfl,rfl,p,_,_,_,rfl,rfl,hp,rfl,_,_,_,_,rfl,g0,d0.mono (by decide),g2,d2.mono (by decide),λr H1 s1 g=>q r H1 s1 g ((FB.add d0 d2).mono (by decide))⟩
 ·exact ⟨_,rfl,_,rfl,p,_,_,_,rfl,rfl,hp,rfl,_,rfl,_,rfl,_,_,rfl,rfl,p,_,_,_,rfl,rfl,hp,rfl,_,_,_,_,rfl,g1,d1.mono (by decide),g3,d3.mono (by decide),λr H1 s1 g=>q r H1 s1 g ((FB.add d1 d3).mono (by decide))⟩
noncomputable def yQ (K:PySem.W.Frag):Sp:=λvs H Q _=>∃ (z y:V) (a b:Bq) (d:Nat),vs=[z,y,.int (d:Int)]/\BqH K 5990 H z a/\BqH K 5990 H y b/\d<=1/\∀ (H1:Hp),Same H H1->Q (.bl (hicB a b d)) H1
theorem sc_have_in_common:FnScope ["one","other","way"] ["one","other","way"] (zD (top 45)):={}
theorem ok_have_in_common (D:Df K mg "have_in_common" (top 45) ["one","other","way"]) (T:Tx K mg CK C) (aE:Fn P w K mg base 1 "under" ["one","other"] (ZV K)) (ao:Fn P w K mg base 3 "far_side" ["box","way"] (jG K)):Fn P w K mg base 4 "have_in_common" ["one","other","way"] (yQ K):=by
 refine D.ok0 sc_have_in_common (λvs H Q E h=>?_) (λf cdv A outer s H vs Q E hr h=>?_)
 ·obtain ⟨z,y,a,b,d,rfl,_⟩:=h;rfl
 obtain ⟨z,y,a,b,d,rfl,hz,hy,hd,q⟩:=h;refine ⟨_,(zF (zM (yd (zJ aE (by decide) hr (by rfl) zG (zA (zH ix_tup (pv 0) (pv 2) (λ_ _=>rfl)) (zA (zJ ao (by decide) hr (by rfl) zG (zA (pv 1) (zA (pv 2) zB))) zB))) (yR (zJ aE (by decide) hr (by rfl) zG (zA (zH ix_tup (pv 1) (pv 2) (λ_ _=>rfl)) (zA (zJ ao (by decide) hr (by rfl) zG (zA (pv 0) (zA (pv 2) zB))) zB))))))),?_⟩
 try dsimp only [cxK,cxK0]
 obtain ⟨px,a0x,a1x,a2x,a3x,a4x,a5x,rfl,hpx,⟨g0x,g1x,g2x,g3x,g4x,g5x⟩,⟨d0x,d1x,d2x,d3x,d4x,d5x⟩,wtx⟩:=id hz;obtain ⟨py,a0y,a1y,a2y,a3y,a4y,a5y,rfl,hpy,⟨g0y,g1y,g2y,g3y,g4y,g5y⟩,⟨d0y,d1y,d2y,d3y,d4y,d5y⟩,wty⟩:=id hy;obtain ⟨ax,bx,e1,k1,f1,e2,k2,f2⟩:∃ ax bx:Addr,atI [V.ref a0x,.ref a1x,.ref a2x,.ref a3x,.ref a4x,.ref a5x,wV a.m] (d:Int)=some (.ref ax)/\FQ K H ax (a.pl d)/\FB 5990 (a.pl d)/\atI [V.ref a0y,.ref a1y,.ref a2y,.ref a3y,.ref a4y,.ref a5y,wV b.m] (d:Int)=some (.ref bx)/\FQ K H bx (b.pl d)/\FB 5990 (b.pl d):=by
  rcases d01 hd with rfl|rfl
  ·exact ⟨a0x,a0y,rfl,g0x,d0x,rfl,g0y,d0y⟩
  ·exact ⟨a1x,a1y,rfl,g1x,d1x,rfl,g1y,d1y⟩
 refine ⟨_,rfl,_,rfl,px,_,_,_,rfl,rfl,hpx,e1,_,rfl,_,rfl,_,b,d,rfl,hy,hd,λr1 H1 s1 h1 iI=>?_⟩
 refine ⟨_,_,_,_,rfl,Kw.Same.tup s1 k1,f1.mono (by decide),h1,iI.mono (by decide),λH2 s2=>⟨_,rfl,?_⟩⟩
 have ak:=s1.trans s2;refine zc (λc=>?_) (λc=>?_)
 ·refine ⟨_,rfl,_,rfl,py,_,_,_,rfl,rfl,Kw.Same.tup ak hpy,e2,_,rfl,_,rfl,_,a,d,rfl,hz.same ak,hd,λr3 H3 s3 h3 f3=>?_⟩
  refine ⟨_,_,_,_,rfl,Kw.Same.tup (ak.trans s3) k2,f2.mono (by decide),h3,f3.mono (by decide),λH4 s4=>?_⟩
  have z:=q H4 (ak.trans (s3.trans s4));unfold hicB at z;rw [decide_eq_true c,Bool.true_and] at z;exact z
 ·have z:=q H2 ak;unfold hicB at z;rw [decide_eq_false c,Bool.false_and] at z;exact z
noncomputable def YH (K:PySem.W.Frag):Sp:=λvs H Q _=>∃ (z y:V) (a b:Bq) (d:Nat),vs=[z,y,.int (d:Int)]/\BqH K 5990 H z a/\BqH K 5990 H y b/\d<=1/\∀ (H1:Hp),Same H H1->Q (.bl (tchB a b d)) H1
theorem sc_touches:FnScope ["one","other","way"] ["one","other","way"] (zD (top 47)):={}
theorem ok_touches (D:Df K mg "touches" (top 47) ["one","other","way"]) (T:Tx K mg CK C) (ao:Fn P w K mg base 3 "far_side" ["box","way"] (jG K)):Fn P w K mg base 4 "touches" ["one","other","way"] (YH K):=by
 refine D.ok0 sc_touches (λvs H Q E h=>?_) (λf cdv A outer s H vs Q E hr h=>?_)
 ·obtain ⟨z,y,a,b,d,rfl,_⟩:=h;rfl
 obtain ⟨z,y,a,b,d,rfl,hz,hy,hd,q⟩:=h;refine ⟨_,(zF (zM (yy (op_eqQ (K:=K) rfl (u100 hr)) (zJ ao (by decide) hr (by rfl) zG (zA (pv 0) (zA (pv 2) zB))) (zH ix_tup (pv 1) (pv 2) (λ_ _=>rfl)) (zU _)))),?_⟩
 try dsimp only [cxK,cxK0]
 obtain ⟨py,a0y,a1y,a2y,a3y,a4y,a5y,rfl,hpy,⟨g0y,g1y,g2y,g3y,g4y,g5y⟩,⟨d0y,d1y,d2y,d3y,d4y,d5y⟩,wty⟩:=id hy;refine ⟨_,rfl,_,rfl,_,a,d,rfl,hz,hd,λr1 H1 s1 h1 f1=>?_⟩
 have z:=q H1 s1;rcases d01 hd with rfl|rfl
 ·exact ⟨_,rfl,_,rfl,py,_,_,_,rfl,rfl,Kw.Same.tup s1 hpy,rfl,r1,a0y,_,_,rfl,rfl,h1,Kw.Same.tup s1 g0y,z⟩
 ·exact ⟨_,rfl,_,rfl,py,_,_,_,rfl,rfl,Kw.Same.tup s1 hpy,rfl,r1,a1y,_,_,rfl,rfl,h1,Kw.Same.tup s1 g1y,z⟩
noncomputable def Z6 (K:PySem.W.Frag):Sp:=λvs H Q _=>∃ (z y:V) (a b:Bq) (d:Nat),vs=[z,y,.int (d:Int)]/\BqH K 5990 H z a/\BqH K 5990 H y b/\d<=1/\∀ (H1:Hp),Same H H1->Q (.bl (besB a b d)) H1
theorem sc_are_beside:FnScope ["one","other","way"] ["one","other","way"] (zD (top 48)):={}
theorem ok_are_beside (D:Df K mg "are_beside" (top 48) ["one","other","way"]) (T:Tx K mg CK C) (aF:Fn P w K mg base 4 "touches" ["one","other","way"] (YH K)) (ah:Fn P w K mg base 4 "have_in_common" ["one","other","way"] (yQ K)):Fn P w K mg base 5 "are_beside" ["one","other","way"] (Z6 K):=by
 refine D.ok0 sc_are_beside (λvs H Q E h=>?_) (λf cdv A outer s H vs Q E hr h=>?_)
 ·obtain ⟨z,y,a,b,d,rfl,_⟩:=h;rfl
 obtain ⟨z,y,a,b,d,rfl,hz,hy,hd,q⟩:=h;refine ⟨_,(zF (zM (yd (zJ aF (by decide) hr (by rfl) zG (zA (pv 0) (zA (pv 1) (zA (pv 2) zB)))) (yR (zJ ah (by decide) hr (by rfl) zG (zA (pv 0) (zA (pv 1) (zA (zN jp zC (pv 2)) zB)))))))),?_⟩
 try dsimp only [cxK,cxK0]
 refine ⟨_,rfl,_,rfl,_,rfl,z,y,a,b,d,rfl,hz,hy,hd,λH1 s1=>⟨_,rfl,?_⟩⟩
 unfold besB at q;cases c:tchB a b d with
 |false=>
  have z:=q H1 s1;rw [c,Bool.false_and] at z;exact iteF z
 |true=>
  refine iteT ⟨_,rfl,_,rfl,_,rfl,_,_,rfl,rfl,z,y,a,b,1 - d,?_,hz.same s1,hy.same s1,by omega,λH2 s2=>?_⟩
  ·rcases d01 hd with rfl|rfl<;>rfl
  have z:=q H2 (s1.trans s2);rw [c,Bool.true_and] at z;exact z
noncomputable def jU (K:PySem.W.Frag):Sp:=λvs H Q _=>∃ (z y:V) (a b:Bq),vs=[z,y]/\BqH K 5990 H z a/\BqH K 5990 H y b/\∀ (H1:Hp),Same H H1->Q (.bl (crnB a b)) H1
theorem jX:FnScope ["one","other","across"] ["one","other"] (zD (top 49)):={}
theorem ok_are_at_a_corner (D:Df K mg "are_at_a_corner" (top 49) ["one","other"]) (T:Tx K mg CK C) (aF:Fn P w K mg base 4 "touches" ["one","other","way"] (YH K)):Fn P w K mg base 5 "are_at_a_corner" ["one","other"] (jU K):=by
 refine D.ok0 jX (λvs H Q E h=>?_) (λf cdv A outer s H vs Q E hr h=>?_)
 ·obtain ⟨z,y,a,b,rfl,_⟩:=h;rfl
 obtain ⟨z,y,a,b,rfl,hz,hy,q⟩:=h
 refine ⟨_,(zE (zO (i:=2) jX.nd rfl (Or.inl rfl) (pe_or (zJ aF (by decide) hr (by rfl) zG (zA (pv 0) (zA (pv 1) (zA (zX (by rfl) T.k_ACROSS) zB)))) (yR (zJ aF (by decide) hr (by rfl) zG (zA (pv 1) (zA (pv 0) (zA (zX (by rfl) T.k_ACROSS) zB)))))))
   (zF (zM (yd (pv 2) (yR (pe_or (zJ aF (by decide) hr (by rfl) zG (zA (pv 0) (zA (pv 1) (zA (zX (by rfl) T.k_ALONG) zB)))) (yR (zJ aF (by decide) hr (by rfl) zG (zA (pv 1) (zA (pv 0) (zA (zX (by rfl) T.k_ALONG) zB))))))))))),?_⟩
 try dsimp only [cxK,cxK0]
 unfold crnB at q;refine cut1 (λσ' H'=>∃ c:Bool,σ'=[some z,some y,some (.bl c)]/\Same H H'/\c=(tchB a b 0 || tchB b a 0)) (λN hN=>?_) ?_
 ·refine ⟨_,rfl,_,rfl,z,y,a,b,0,rfl,hz,hy,by decide,λH1 s1=>⟨_,rfl,?_⟩⟩
  cases c:tchB a b 0 with
  |true=>exact iteT (hN _ _ ⟨_,rfl,s1,by rw [c]; rfl⟩)
  |false=>
   refine iteF ⟨_,rfl,_,rfl,y,z,b,a,0,rfl,hy.same s1,hz.same s1,by decide,λH2 s2=>?_⟩
   exact hN _ _ ⟨_,rfl,s1.trans s2,by rw [c]; rfl⟩
 rintro σ' H2 ⟨c,rfl,s2,ec⟩;refine ⟨_,rfl,_,rfl,?_⟩;rw [<- ec] at q;cases c with
 |false=>
  exact iteF (q H2 s2)
 |true=>
  refine iteT ⟨_,rfl,_,rfl,z,y,a,b,1,rfl,hz.same s2,hy.same s2,by decide,λH3 s3=>⟨_,rfl,?_⟩⟩
  cases c:tchB a b 1 with
  |true=>
   have z:=q H3 (s2.trans s3);rw [c] at z;exact iteT z
  |false=>
   refine iteF ⟨_,rfl,_,rfl,y,z,b,a,1,rfl,hy.same (s2.trans s3),hz.same (s2.trans s3),by decide,λH4 s4=>?_⟩
   have z:=q H4 (s2.trans (s3.trans s4));rw [c] at z;exact z
noncomputable def JK (K:PySem.W.Frag):Sp:=λvs H Q _=>∃ (p a c:Addr) (x v:Rat) (ys:List V) (u:Addr) (t:Rat),vs=[.ref p,.ref u]/\SqT K H p (.ref a::.ref c::ys)/\FQ K H a x/\FQ K H c v/\FB 1990 x/\FB 1990 v/\FQ K H u t/\FB 2000 t/\∀ (r:Addr) (H1:Hp),Same H H1->FQ K H1 r (x+v * t)->FB 5990 (x+v * t)->Q (.ref r) H1
theorem sc_place_at:FnScope ["body","moment"] ["body","moment"] (zD (top 28)):={}
theorem ok_place_at (D:Df K mg "place_at" (top 28) ["body","moment"]) (T:Tx K mg CK C) (aP:Fn P w K mg base 2 "plus" ["one","other"] (Zy K)) (aX:Fn P w K mg base 2 "times" ["one","other"] (Ys K)):Fn P w K mg base 3 "place_at" ["body","moment"] (JK K):=by
 refine D.ok0 sc_place_at (λvs H Q E h=>?_) (λf cdv A outer s H vs Q E hr h=>?_)
 ·obtain ⟨p,a,c,x,v,ys,u,t,rfl,_⟩:=h;rfl
 obtain ⟨p,a,c,x,v,ys,u,t,rfl,hp,ga,gc,da,dc,gt,dt,k⟩:=h;refine ⟨_,(zF (zM (zJ aP (by decide) hr (by rfl) zG (zA (zH ix_tup (pv 0) zC (λ_ _=>rfl)) (zA (zJ aX (by decide) hr (by rfl) zG (zA (zH ix_tup (pv 0) zC (λ_ _=>rfl)) (zA (pv 1) zB))) zB))))),?_⟩
 try dsimp only [cxK,cxK0]
 refine ⟨_,rfl,p,_,_,_,rfl,rfl,hp,zi (j:=0) rfl,_,rfl,p,_,_,_,rfl,rfl,hp,zi (j:=1) rfl,_,rfl,c,v,u,t,rfl,gc,dc.mono (by decide),gt,dt.mono (by decide),λr1 H1 s1 g1=>?_⟩
 refine ⟨a,x,r1,_,rfl,Kw.Same.tup s1 ga,da.mono (by decide),g1,(FB.mul dc dt).mono (by decide),λr2 H2 s2 g2=>?_⟩
 exact k r2 H2 (s1.trans s2) g2 ((FB.add da (FB.mul dc dt)).mono (by decide))
noncomputable def Yz (K:PySem.W.Frag):Sp:=λvs H Q _=>∃ (z:V) (b:Bq) (u:Addr) (t:Rat),vs=[z,.ref u]/\BqH K 1990 H z b/\FQ K H u t/\FB 2000 t/\∀ (r:Addr) (H1:Hp),Same H H1->BqH K 5990 H1 (.ref r) (atB t b)->Q (.ref r) H1
theorem Y5:FnScope ["box","moment","left","low"] ["box","moment"] (zD (top 50)):={}
theorem ok_box_at (D:Df K mg "box_at" (top 50) ["box","moment"]) (T:Tx K mg CK C) (bQ:Fn P w K mg base 3 "place_at" ["body","moment"] (JK K)):Fn P w K mg base 4 "box_at" ["box","moment"] (Yz K):=by
 refine D.ok0 Y5 (λvs H Q E h=>?_) (λf cdv A outer s H vs Q E hr h=>?_)
 ·obtain ⟨z,b,u,t,rfl,_⟩:=h;rfl
 obtain ⟨z,b,u,t,rfl,⟨p,a0,a1,a2,a3,a4,a5,rfl,hp,⟨g0,g1,g2,g3,g4,g5⟩,⟨d0,d1,d2,d3,d4,d5⟩,wt⟩,gt,dt,k⟩:=h
 refine ⟨_,(zE (zO (i:=2) Y5.nd rfl (Or.inl rfl) (zJ bQ (by decide) hr (by rfl) zG (zA (zP (zA (zH ix_tup (pv 0) zC (λ_ _=>rfl)) (zA (zH ix_tup (pv 0) zC (λ_ _=>rfl)) zB))) (zA (pv 1) zB))))
   (zE (zO (i:=3) Y5.nd rfl (Or.inl rfl) (zJ bQ (by decide) hr (by rfl) zG (zA (zP (zA (zH ix_tup (pv 0) zC (λ_ _=>rfl)) (zA (zH ix_tup (pv 0) zC (λ_ _=>rfl)) zB))) (zA (pv 1) zB))))
   (zF (zM (zN (Za (K:=K) rfl) (zP (zA (pv 2) (zA (pv 3) zB))) (yU (Zv (K:=K) rfl) (pv 0) (yq zC) yv)))))),?_⟩
 try dsimp only [cxK,cxK0]
 refine ⟨_,rfl,p,_,_,_,rfl,rfl,hp,rfl,_,rfl,p,_,_,_,rfl,rfl,hp,rfl,by show 2<=sizeLine; decide,?_⟩
 intro p1 n1;obtain ⟨H1,q1,s1,e1⟩:=newO n1 (.tup [.ref a0,.ref a4]);rw [q1];clear q1;refine ⟨_,rfl,p1,a0,a4,b.x,b.u,[],u,t,rfl,SqT.of e1,Kw.Same.tup s1 g0,Kw.Same.tup s1 g4,d0,d4,Kw.Same.tup s1 gt,dt,λr2 H2 s2 k2 f2=>?_⟩
 have ak:=s1.trans s2;have cV:=Kw.Same.tup ak hp;refine ⟨_,rfl,p,_,_,_,rfl,rfl,cV,rfl,_,rfl,p,_,_,_,rfl,rfl,cV,rfl,by show 2<=sizeLine; decide,?_⟩
 intro p3 n3;obtain ⟨H3,q3,s3,e3⟩:=newO n3 (.tup [.ref a1,.ref a5]);rw [q3];clear q3;have aC:=ak.trans s3;refine ⟨_,rfl,p3,a1,a5,b.y,b.v,[],u,t,rfl,SqT.of e3,Kw.Same.tup aC g1,Kw.Same.tup aC g5,d1,d5,Kw.Same.tup aC gt,dt,λr4 H4 s4 k4 f4=>?_⟩
 have aM:=aC.trans s4;refine ⟨_,rfl,_,rfl,by show 2<=sizeLine; decide,?_⟩
 intro p5 n5;obtain ⟨H5,q5,s5,e5⟩:=newO n5 (.tup [.ref r2,.ref r4]);rw [q5];clear q5;have aS:=aM.trans s5;have i5:=Kw.Same.tup aS hp;refine ⟨_,rfl,_,rfl,p,_,rfl,i5,Y3 (n:=7) (by decide) (by decide),?_⟩
 intro p6 n6;obtain ⟨H6,q6,s6,e6⟩:=newO n6 (.tup (cutV [.ref a0,.ref a1,.ref a2,.ref a3,.ref a4,.ref a5,wV b.m] (some 2) none));rw [q6];clear q6;have Km:H6 p6=some (.tup [.ref a2,.ref a3,.ref a4,.ref a5,wV b.m]):=e6;refine ⟨p5,p6,_,_,rfl,rfl,SqT.of (s6 _ _ e5),SqT.of Km,by show 7<=sizeLine; decide,λz=>(nomatch z),λ_ z=>(nomatch z),λ_ _=>?_⟩
 intro p7 n7;obtain ⟨H7,q7,s7,e7⟩:=newO n7 (.tup ([.ref r2,.ref r4]++[.ref a2,.ref a3,.ref a4,.ref a5,wV b.m]));rw [q7];clear q7;have bc:=aS.trans (s6.trans s7);have eT:=s5.trans (s6.trans s7);exact k p7 H7 bc ⟨p7,r2,r4,a2,a3,a4,a5,rfl,SqT.of e7,⟨Kw.Same.tup (s3.trans (s4.trans eT)) k2,Kw.Same.tup eT k4,Kw.Same.tup bc g2,Kw.Same.tup bc g3,Kw.Same.tup bc g4,Kw.Same.tup bc g5⟩,⟨f2,f4,d2,d3,d4,d5⟩,wt⟩
noncomputable def jm (K:PySem.W.Frag):Sp:=λvs H Q _=>∃ (z:V) (b:Bq) (d:Nat),vs=[z,.int (d:Int)]/\BqH K 1990 H z b/\d<=1/\∀ (r:Addr) (H1:Hp),Same H H1->GoQ K 1990 H1 (.ref r) (jI b d)->Q (.ref r) H1
theorem sc_near_going:FnScope ["box","way"] ["box","way"] (zD (top 51)):={}
theorem ok_near_going (D:Df K mg "near_going" (top 51) ["box","way"]) (T:Tx K mg CK C):Fn P w K mg base 1 "near_going" ["box","way"] (jm K):=by
 refine D.ok0 sc_near_going (λvs H Q E h=>?_) (λf cdv A outer s H vs Q E hr h=>?_)
 ·obtain ⟨z,b,d,rfl,_⟩:=h;rfl
 obtain ⟨z,b,d,rfl,⟨p,a0,a1,a2,a3,a4,a5,rfl,hp,⟨g0,g1,g2,g3,g4,g5⟩,⟨d0,d1,d2,d3,d4,d5⟩,wt⟩,hd,q⟩:=h;refine ⟨_,(zF (zM (zP (zA (zH ix_tup (pv 0) (pv 1) (λ_ _=>rfl)) (zA (zH ix_tup (pv 0) (zN zm (zX (by rfl) T.k_SPEEDS) (pv 1)) (λ_ _=>rfl)) (zA (zH ix_tup (pv 0) zC (λ_ _=>rfl)) zB)))))),?_⟩
 try dsimp only [cxK,cxK0]
 rcases d01 hd with rfl|rfl
 ·refine ⟨_,rfl,_,rfl,p,_,_,_,rfl,rfl,hp,rfl,_,rfl,_,rfl,_,_,rfl,rfl,p,_,_,_,rfl,rfl,hp,rfl,_,rfl,p,_,_,_,rfl,rfl,hp,rfl,by show 3<=sizeLine; decide,?_⟩
  intro p1 n1;obtain ⟨H1,q1,s1,e1⟩:=newO n1 (.tup [.ref a0,.ref a4,wV b.m]);rw [q1];clear q1;exact q p1 H1 s1 ⟨p1,a0,a4,rfl,SqT.of e1,Kw.Same.tup s1 g0,Kw.Same.tup s1 g4,d0,d4,wt⟩
 ·refine ⟨_,rfl,_,rfl,p,_,_,_,rfl,rfl,hp,rfl,_,rfl,_,rfl,_,_,rfl,rfl,p,_,_,_,rfl,rfl,hp,rfl,_,rfl,p,_,_,_,rfl,rfl,hp,rfl,by show 3<=sizeLine; decide,?_⟩
  intro p1 n1;obtain ⟨H1,q1,s1,e1⟩:=newO n1 (.tup [.ref a1,.ref a5,wV b.m]);rw [q1];clear q1;exact q p1 H1 s1 ⟨p1,a1,a5,rfl,SqT.of e1,Kw.Same.tup s1 g1,Kw.Same.tup s1 g5,d1,d5,wt⟩
noncomputable def j5 (K:PySem.W.Frag):Sp:=λvs H Q _=>∃ (z:V) (b:Bq) (d:Nat),vs=[z,.int (d:Int)]/\BqH K 1990 H z b/\d<=1/\FB 1990 (b.far d)/\∀ (r:Addr) (H1:Hp),Same H H1->GoQ K 1990 H1 (.ref r) (farG b d)->Q (.ref r) H1
theorem sc_far_going:FnScope ["box","way"] ["box","way"] (zD (top 52)):={}
theorem ok_far_going (D:Df K mg "far_going" (top 52) ["box","way"]) (T:Tx K mg CK C) (ao:Fn P w K mg base 3 "far_side" ["box","way"] (jG K)):Fn P w K mg base 4 "far_going" ["box","way"] (j5 K):=by
 refine D.ok0 sc_far_going (λvs H Q E h=>?_) (λf cdv A outer s H vs Q E hr h=>?_)
 ·obtain ⟨z,b,d,rfl,_⟩:=h;rfl
 obtain ⟨z,b,d,rfl,hz,hd,fb,q⟩:=h;refine ⟨_,(zF (zM (zP (zA (zJ ao (by decide) hr (by rfl) zG (zA (pv 0) (zA (pv 1) zB))) (zA (zH ix_tup (pv 0) (zN zm (zX (by rfl) T.k_SPEEDS) (pv 1)) (λ_ _=>rfl)) (zA (zH ix_tup (pv 0) zC (λ_ _=>rfl)) zB)))))),?_⟩
 try dsimp only [cxK,cxK0]
 refine ⟨_,rfl,_,rfl,z,b,d,rfl,hz.mono (by decide),hd,λr1 H1 s1 k1 _=>?_⟩
 obtain ⟨p,a0,a1,a2,a3,a4,a5,rfl,hp,⟨g0,g1,g2,g3,g4,g5⟩,⟨d0,d1,d2,d3,d4,d5⟩,wt⟩:=hz.same s1;rcases d01 hd with rfl|rfl
 ·refine ⟨_,rfl,_,rfl,_,_,rfl,rfl,p,_,_,_,rfl,rfl,hp,rfl,_,rfl,p,_,_,_,rfl,rfl,hp,rfl,by show 3<=sizeLine; decide,?_⟩
  intro p2 n2;obtain ⟨H2,q2,s2,e2⟩:=newO n2 (.tup [.ref r1,.ref a4,wV b.m]);rw [q2];clear q2;exact q p2 H2 (s1.trans s2) ⟨p2,r1,a4,rfl,SqT.of e2,Kw.Same.tup s2 k1,Kw.Same.tup s2 g4,fb,d4,wt⟩
 ·refine ⟨_,rfl,_,rfl,_,_,rfl,rfl,p,_,_,_,rfl,rfl,hp,rfl,_,rfl,p,_,_,_,rfl,rfl,hp,rfl,by show 3<=sizeLine; decide,?_⟩
  intro p2 n2;obtain ⟨H2,q2,s2,e2⟩:=newO n2 (.tup [.ref r1,.ref a5,wV b.m]);rw [q2];clear q2;exact q p2 H2 (s1.trans s2) ⟨p2,r1,a5,rfl,SqT.of e2,Kw.Same.tup s2 k1,Kw.Same.tup s2 g5,fb,d5,wt⟩
noncomputable def yk (K:PySem.W.Frag):Sp:=λvs H Q _=>∃ (z:V) (b:Bq) (d:Nat) (pg a c:Addr) (x v:Rat) (ys:List V),vs=[z,.int (d:Int),.ref pg]/\BqH K 1990 H z b/\d<=1/\SqT K H pg (.ref a::.ref c::ys)/\FQ K H a x/\FQ K H c v/\FB 1990 x/\FB 1990 v/\∀ (r:Addr) (H1:Hp),Same H H1->BqH K 1990 H1 (.ref r) (b.with d x v)->Q (.ref r) H1
theorem jR:FnScope ["box","way","going","parts"] ["box","way","going"] (zD (top 53)):={}
theorem ok_with_near_going (D:Df K mg "with_near_going" (top 53) ["box","way","going"]) (T:Tx K mg CK C):Fn P w K mg base 1 "with_near_going" ["box","way","going"] (yk K):=by
 refine D.ok0 jR (λvs H Q E h=>?_) (λf cdv A outer s H vs Q E hr h=>?_)
 ·obtain ⟨z,b,d,pg,a,c,x,v,ys,rfl,_⟩:=h;rfl
 obtain ⟨z,b,d,pg,a,c,x,v,ys,rfl,⟨p,a0,a1,a2,a3,a4,a5,rfl,hp,⟨g0,g1,g2,g3,g4,g5⟩,⟨d0,d1,d2,d3,d4,d5⟩,wt⟩,hd,hg,ga,gc,da,dc,q⟩:=h
 refine ⟨_,(zE (zO (i:=3) jR.nd rfl (Or.inl rfl) (yX ZA (by rfl) T.b_list PyProof.Rows.Boot.«list» (zA (pv 0) zB)))
   (zE (Yu (zH ix_tup (pv 2) zC (λ_ _=>rfl)) (Jq (pv 3) (pv 1) Zj))
   (zE (Yu (zH ix_tup (pv 2) zC (λ_ _=>rfl)) (Jq (pv 3) (zN zm (zX (by rfl) T.k_SPEEDS) (pv 1)) Zj))
   (zF (zM (yX Z4 (by rfl) T.b_tuple PyProof.Rows.Boot.«tuple» (zA (pv 3) zB))))))),?_⟩
 try dsimp only [cxK,cxK0]
 refine ⟨_,rfl,p,_,rfl,.inr hp,?_⟩;intro p1 n1;obtain ⟨H1,q1,s1,e1⟩:=newO n1 (.lst [.ref a0,.ref a1,.ref a2,.ref a3,.ref a4,.ref a5,wV b.m]);rw [q1];clear q1;have tk:∀ {H2:Hp} {r:Addr} {xs:List V},But p1 H1 H2->SqT K H r xs->SqT K H2 r xs:=λs h=>s.tup e1 (Kw.Same.tup s1 h)
 have iJ:=Kw.Same.tup s1 hg;rcases d01 hd with rfl|rfl
 ·refine ⟨_,rfl,pg,_,_,_,rfl,rfl,iJ,zi (j:=0) rfl,_,rfl,_,rfl,p1,_,_,0,rfl,rfl,e1,rfl,?_⟩;obtain ⟨H2,q2,s2,e2⟩:=newB (H:=H1) (p:=p1) (.lst [.ref a,.ref a1,.ref a2,.ref a3,.ref a4,.ref a5,wV b.m]);dsimp only;rw [show (List.set [V.ref a0,.ref a1,.ref a2,.ref a3,.ref a4,.ref a5,wV b.m] 0 (V.ref a))=[.ref a,.ref a1,.ref a2,.ref a3,.ref a4,.ref a5,wV b.m] from rfl,q2];clear q2;have qC:=s2.tup e1 iJ;refine ⟨_,rfl,pg,_,_,_,rfl,rfl,qC,zi (j:=1) rfl,_,rfl,_,rfl,_,_,rfl,rfl,p1,_,_,4,rfl,rfl,e2,rfl,?_⟩;obtain ⟨H3,q3,s3,e3⟩:=newB (H:=H2) (p:=p1) (.lst [.ref a,.ref a1,.ref a2,.ref a3,.ref c,.ref a5,wV b.m]);dsimp only;rw [show (List.set [V.ref a,.ref a1,.ref a2,.ref a3,.ref a4,.ref a5,wV b.m] 4 (V.ref c))=[.ref a,.ref a1,.ref a2,.ref a3,.ref c,.ref a5,wV b.m] from rfl,q3];clear q3;refine ⟨_,rfl,p1,_,rfl,.inl ⟨SqL.of e3,?_⟩⟩;intro p4 n4;obtain ⟨H4,q4,s4,e4⟩:=newO n4 (.tup [.ref a,.ref a1,.ref a2,.ref a3,.ref c,.ref a5,wV b.m]);rw [q4];clear q4;have B3:But p1 H1 H3:=s2.trans s3;have er:∀ {r:Addr} {xs:List V},SqT K H r xs->SqT K H4 r xs:=λh=>Kw.Same.tup s4 (tk B3 h)
  refine q p4 H4 (λz o hz=>s4 _ _ (B3 z o (zL hz n1) (s1 _ _ hz))) ⟨p4,a,a1,a2,a3,c,a5,rfl,SqT.of e4,⟨er ga,er g1,er g2,er g3,er gc,er g5⟩,⟨da,d1,d2,d3,dc,d5⟩,wt⟩
 ·refine ⟨_,rfl,pg,_,_,_,rfl,rfl,iJ,zi (j:=0) rfl,_,rfl,_,rfl,p1,_,_,1,rfl,rfl,e1,rfl,?_⟩;obtain ⟨H2,q2,s2,e2⟩:=newB (H:=H1) (p:=p1) (.lst [.ref a0,.ref a,.ref a2,.ref a3,.ref a4,.ref a5,wV b.m]);dsimp only;rw [show (List.set [V.ref a0,.ref a1,.ref a2,.ref a3,.ref a4,.ref a5,wV b.m] 1 (V.ref a))=[.ref a0,.ref a,.ref a2,.ref a3,.ref a4,.ref a5,wV b.m] from rfl,q2];clear q2;have qC:=s2.tup e1 iJ;refine ⟨_,rfl,pg,_,_,_,rfl,rfl,qC,zi (j:=1) rfl,_,rfl,_,rfl,_,_,rfl,rfl,p1,_,_,5,rfl,rfl,e2,rfl,?_⟩;obtain ⟨H3,q3,s3,e3⟩:=newB (H:=H2) (p:=p1) (.lst [.ref a0,.ref a,.ref a2,.ref a3,.ref a4,.ref c,wV b.m]);dsimp only;rw [show (List.set [V.ref a0,.ref a,.ref a2,.ref a3,.ref a4,.ref a5,wV b.m] 5 (V.ref c))=[.ref a0,.ref a,.ref a2,.ref a3,.ref a4,.ref c,wV b.m] from rfl,q3];clear q3;refine ⟨_,rfl,p1,_,rfl,.inl ⟨SqL.of e3,?_⟩⟩;intro p4 n4;obtain ⟨H4,q4,s4,e4⟩:=newO n4 (.tup [.ref a0,.ref a,.ref a2,.ref a3,.ref a4,.ref c,wV b.m]);rw [q4];clear q4;have B3:But p1 H1 H3:=s2.trans s3;have er:∀ {r:Addr} {xs:List V},SqT K H r xs->SqT K H4 r xs:=λh=>Kw.Same.tup s4 (tk B3 h)
  refine q p4 H4 (λz o hz=>s4 _ _ (B3 z o (zL hz n1) (s1 _ _ hz))) ⟨p4,a0,a,a2,a3,a4,c,rfl,SqT.of e4,⟨er g0,er ga,er g2,er g3,er g4,er gc⟩,⟨d0,da,d2,d3,d4,dc⟩,wt⟩
noncomputable def jd (K:PySem.W.Frag):Sp:=λvs H Q _=>∃ (z:V) (b:Bq) (d:Nat) (pg a c:Addr) (x v:Rat) (ys:List V),vs=[z,.int (d:Int),.ref pg]/\BqH K 1990 H z b/\d<=1/\SqT K H pg (.ref a::.ref c::ys)/\FQ K H a x/\FQ K H c v/\FB 1990 x/\FB 1990 v/\FB 1990 (x - b.sz d)/\∀ (r:Addr) (H1:Hp),Same H H1->BqH K 1990 H1 (.ref r) (b.with d (x - b.sz d) v)->Q (.ref r) H1
theorem sc_with_far_going:FnScope ["box","way","going"] ["box","way","going"] (zD (top 54)):={}
theorem ok_with_far_going (D:Df K mg "with_far_going" (top 54) ["box","way","going"]) (T:Tx K mg CK C) (aJ:Fn P w K mg base 3 "minus" ["one","other"] (ZT K)) (av:Fn P w K mg base 1 "with_near_going" ["box","way","going"] (yk K)):Fn P w K mg base 4 "with_far_going" ["box","way","going"] (jd K):=by
 refine D.ok0 sc_with_far_going (λvs H Q E h=>?_) (λf cdv A outer s H vs Q E hr h=>?_)
 ·obtain ⟨z,b,d,pg,a,c,x,v,ys,rfl,_⟩:=h;rfl
 obtain ⟨z,b,d,pg,a,c,x,v,ys,rfl,hz,hd,hg,ga,gc,da,dc,df,q⟩:=h;refine ⟨_,(zF (zM (zJ av (by decide) hr (by rfl) zG (zA (pv 0) (zA (pv 1) (zA (zP (zA (zJ aJ (by decide) hr (by rfl) zG (zA (zH ix_tup (pv 2) zC (λ_ _=>rfl)) (zA (zH ix_tup (pv 0) (zN zm (zX (by rfl) T.k_SIZES) (pv 1)) (λ_ _=>rfl)) zB))) (zA (zH ix_tup (pv 2) zC (λ_ _=>rfl)) zB))) zB)))))),?_⟩
 try dsimp only [cxK,cxK0]
 obtain ⟨p,a0,a1,a2,a3,a4,a5,rfl,hp,⟨g0,g1,g2,g3,g4,g5⟩,⟨d0,d1,d2,d3,d4,d5⟩,wt⟩:=id hz;obtain ⟨as,es,gs,ds⟩:∃ as:Addr,atI [V.ref a0,.ref a1,.ref a2,.ref a3,.ref a4,.ref a5,wV b.m] (2+(d:Int))=some (.ref as)/\FQ K H as (b.sz d)/\FB 1990 (b.sz d):=by
  rcases d01 hd with rfl|rfl
  ·exact ⟨a2,rfl,g2,d2⟩
  ·exact ⟨a3,rfl,g3,d3⟩
 refine ⟨_,rfl,_,rfl,_,rfl,pg,_,_,_,rfl,rfl,hg,zi (j:=0) rfl,_,rfl,_,rfl,_,_,rfl,rfl,p,_,_,_,rfl,rfl,hp,es,_,_,_,_,rfl,ga,da.mono (by decide),gs,ds.mono (by decide),λr1 H1 s1 k1=>?_⟩
 have iJ:=Kw.Same.tup s1 hg;refine ⟨_,rfl,pg,_,_,_,rfl,rfl,iJ,zi (j:=1) rfl,by show 2<=sizeLine; decide,?_⟩
 intro p2 n2;obtain ⟨H2,q2,s2,e2⟩:=newO n2 (.tup [.ref r1,.ref c]);rw [q2];clear q2;have ak:=s1.trans s2;exact ⟨_,b,d,p2,r1,c,_,v,[],rfl,hz.same ak,hd,SqT.of e2,Kw.Same.tup s2 k1,Kw.Same.tup ak gc,df,dc,λr H3 s3 h3=>q r H3 (ak.trans s3) h3⟩
noncomputable def sp_mixed (K:PySem.W.Frag):Sp:=λvs H Q _=>∃ (p_x:Addr) (x:Rat) (p_y:Addr) (y:Rat) (m:Int) (u:Int) (p_s:Addr) (s:Rat),vs=[.ref p_x,.ref p_y,.int m,.int u,.ref p_s]/\FQ K H p_x x/\FB 1990 x/\FQ K H p_y y/\FB 1990 y/\1<=m/\m<=10000/\1<=u/\u<=10000/\FQ K H p_s s/\FB 64 s/\(∀ (p_r:Addr) (H1:Hp),Same H H1->FQ K H1 p_r (mixS x y m u s)->Q (.ref p_r) H1)
theorem Yp:FnScope ["own","far","weight","mass","share","both","kept","taken"] ["own","far","weight","mass","share"] (zD (top 30)):={}
theorem ok_mixed (D:Df K mg "mixed" (top 30) ["own","far","weight","mass","share"]) (T:Tx K mg CK C) (bR:Fn P w K mg base 2 "fraction" ["top","bottom"] (Y8 K)) (aX:Fn P w K mg base 2 "times" ["one","other"] (Ys K)) (aP:Fn P w K mg base 2 "plus" ["one","other"] (Zy K)):Fn P w K mg base 3 "mixed" ["own","far","weight","mass","share"] (sp_mixed K):=by
 refine D.ok0 Yp (λvs H Q E h=>?_) (λf cdv A outer s H vs Q E hr h=>?_)
 ·obtain ⟨p_x,x,p_y,y,m,u,p_s,s,rfl,_⟩:=h;rfl
 obtain ⟨p_x,x,p_y,y,m,u,p_s,s,rfl,g_x,d_x,g_y,d_y,lo_m,hi_m,lo_u,hi_u,g_s,d_s,k0⟩:=h
 refine ⟨_,(zE (zO (i:=5) Yp.nd rfl (Or.inl rfl) (zN zf (zN zm (pv 2) (pv 3)) (zH ix_tup (pv 4) zC (λ_ _=>rfl))))
   (zE (zO (i:=6) Yp.nd rfl (Or.inl rfl) (zJ aX (by decide) hr (by rfl) zG (zA (pv 0) (zA (zJ bR (by decide) hr (by rfl) zG (zA (zN jp (zN zf (pv 2) (zH ix_tup (pv 4) zC (λ_ _=>rfl))) (zN zf (pv 3) (zH ix_tup (pv 4) zC (λ_ _=>rfl)))) (zA (pv 5) zB))) zB))))
   (zE (zO (i:=7) Yp.nd rfl (Or.inl rfl) (zJ aX (by decide) hr (by rfl) zG (zA (pv 1) (zA (zJ bR (by decide) hr (by rfl) zG (zA (zN zf (pv 3) (zN zm (zH ix_tup (pv 4) zC (λ_ _=>rfl)) (zH ix_tup (pv 4) zC (λ_ _=>rfl)))) (zA (pv 5) zB))) zB))))
   (zF (zM (zJ aP (by decide) hr (by rfl) zG (zA (pv 6) (zA (pv 7) zB)))))))),?_⟩
 try dsimp only [cxK,cxK0]
 refine ⟨_,rfl,_,rfl,_,_,rfl,rfl,_,rfl,p_s,_,_,_,rfl,rfl,g_s,rfl,_,_,rfl,rfl,((Bd.add ((Bd.small (i:=m) (by omega) (by omega)).mono (n:=64) (by decide)) ((Bd.small (i:=u) (by omega) (by omega)).mono (n:=64) (by decide))).ok d_s.2 (by decide)),?_⟩
 refine ⟨_,rfl,_,rfl,_,rfl,p_s,_,_,_,rfl,rfl,g_s,rfl,_,_,rfl,rfl,((Bd.small (i:=m) (by omega) (by omega)).ok d_s.2 (by decide)),_,rfl,_,rfl,p_s,_,_,_,rfl,rfl,g_s,rfl,_,_,rfl,rfl,((Bd.small (i:=u) (by omega) (by omega)).ok d_s.1 (by decide)),_,_,rfl,rfl,_,rfl,_,_,rfl,((Bd.mul (Bd.add ((Bd.small (i:=m) (by omega) (by omega)).mono (n:=64) (by decide)) ((Bd.small (i:=u) (by omega) (by omega)).mono (n:=64) (by decide))) d_s.2).mono (by decide)),(by exact Ja (by omega) (by omega)),λp_r4 H4 s4 g_r4=>?_⟩
 have d_r4:FB 129 (Rat.divInt (((m * (((s).den:Nat):Int)) - (u * (s).num))) (((m+u) * (((s).den:Nat):Int)))):=(FB.mono (FB.fit (by exact Ja (by omega) (by omega)) ((Bd.sub ((Bd.mul (Bd.small (i:=m) (by omega) (by omega)) d_s.2).mono (n:=128) (by decide)) ((Bd.mul (Bd.small (i:=u) (by omega) (by omega)) d_s.1).mono (n:=128) (by decide))).mono (n:=129) (by decide)) ((Bd.mul (Bd.add ((Bd.small (i:=m) (by omega) (by omega)).mono (n:=64) (by decide)) ((Bd.small (i:=u) (by omega) (by omega)).mono (n:=64) (by decide))) d_s.2).mono (n:=129) (by decide))) (by decide))
 replace g_x:=(Kw.Same.tup s4 g_x);refine ⟨_,_,_,_,rfl,g_x,(FB.mono d_x (by decide)),g_r4,(FB.mono d_r4 (by decide)),λp_r5 H5 s5 g_r5=>?_⟩
 have d_r5:FB 2119 (x * ((Rat.divInt (((m * (((s).den:Nat):Int)) - (u * (s).num))) (((m+u) * (((s).den:Nat):Int)))))):=(FB.mono (FB.mul d_x d_r4) (by decide))
 replace g_s:=(Kw.Same.tup s5 (Kw.Same.tup s4 g_s));refine ⟨_,rfl,_,rfl,_,rfl,p_s,_,_,_,rfl,rfl,g_s,rfl,_,rfl,p_s,_,_,_,rfl,rfl,g_s,rfl,_,_,rfl,rfl,_,_,rfl,rfl,((Bd.small (i:=u) (by omega) (by omega)).ok (Bd.add (d_s.2.mono (n:=64) (by decide)) (d_s.1.mono (n:=64) (by decide))) (by decide)),_,rfl,_,_,rfl,((Bd.mul (Bd.add ((Bd.small (i:=m) (by omega) (by omega)).mono (n:=64) (by decide)) ((Bd.small (i:=u) (by omega) (by omega)).mono (n:=64) (by decide))) d_s.2).mono (by decide)),(by exact Ja (by omega) (by omega)),λp_r6 H6 s6 g_r6=>?_⟩
 have d_r6:FB 129 (Rat.divInt ((u * ((((s).den:Nat):Int)+(s).num))) (((m+u) * (((s).den:Nat):Int)))):=(FB.mono (FB.fit (by exact Ja (by omega) (by omega)) ((Bd.mul (Bd.small (i:=u) (by omega) (by omega)) (Bd.add (d_s.2.mono (n:=64) (by decide)) (d_s.1.mono (n:=64) (by decide)))).mono (n:=129) (by decide)) ((Bd.mul (Bd.add ((Bd.small (i:=m) (by omega) (by omega)).mono (n:=64) (by decide)) ((Bd.small (i:=u) (by omega) (by omega)).mono (n:=64) (by decide))) d_s.2).mono (n:=129) (by decide))) (by decide))
 replace g_y:=(Kw.Same.tup s6 (Kw.Same.tup s5 (Kw.Same.tup s4 g_y)));refine ⟨_,_,_,_,rfl,g_y,(FB.mono d_y (by decide)),g_r6,(FB.mono d_r6 (by decide)),λp_r7 H7 s7 g_r7=>?_⟩
 have d_r7:FB 2119 (y * ((Rat.divInt ((u * ((((s).den:Nat):Int)+(s).num))) (((m+u) * (((s).den:Nat):Int)))))):=(FB.mono (FB.mul d_y d_r6) (by decide))
 replace g_r5:=(Kw.Same.tup s7 (Kw.Same.tup s6 g_r5));refine ⟨_,rfl,_,rfl,_,_,_,_,rfl,g_r5,(FB.mono d_r5 (by decide)),g_r7,(FB.mono d_r7 (by decide)),λp_r8 H8 s8 g_r8=>?_⟩
 have d_r8:FB 4239 (((x * ((Rat.divInt (((m * (((s).den:Nat):Int)) - (u * (s).num))) (((m+u) * (((s).den:Nat):Int)))))))+((y * ((Rat.divInt ((u * ((((s).den:Nat):Int)+(s).num))) (((m+u) * (((s).den:Nat):Int)))))))):=(FB.mono (FB.add d_r5 d_r7) (by decide))
 have e9:((((x * ((Rat.divInt (((m * (((s).den:Nat):Int)) - (u * (s).num))) (((m+u) * (((s).den:Nat):Int)))))))+((y * ((Rat.divInt ((u * ((((s).den:Nat):Int)+(s).num))) (((m+u) * (((s).den:Nat):Int)))))))):Rat)=mixS x y m u s:=by rfl
 exact k0 _ _ (s4.trans (s5.trans (s6.trans (s7.trans s8)))) (FQ.cast g_r8 e9)
noncomputable def sp_behind (K:PySem.W.Frag):Sp:=λvs H Q _=>∃ (p a c:Addr) (x v:Rat) (m:Int) (p' a' c':Addr) (x' v':Rat) (m':Int) (sh:Addr),vs=[.ref p,.ref p',.ref sh]/\SqT K H p [.ref a,.ref c,.int m]/\FQ K H a x/\FQ K H c v/\FB 1990 x/\FB 1990 v/\1<=m/\m<=10000/\SqT K H p' [.ref a',.ref c',.int m']/\FQ K H a' x'/\FQ K H c' v'/\FB 1990 x'/\FB 1990 v'/\1<=m'/\m'<=10000/\FQ K H sh ((1:Int):Rat)/\∀ (r f1 f2:Addr) (H1:Hp),Same H H1->SqT K H1 r [.ref f1,.ref f2,.int m]->FQ K H1 f1 (mixQ x x' m m')->FQ K H1 f2 (mixQ v v' m m')->Q (.ref r) H1
theorem Y2:FnScope ["one","other","share","place","speed"] ["one","other","share"] (zD (top 31)):={}
theorem ok_behind (D:Df K mg "behind" (top 31) ["one","other","share"]) (T:Tx K mg CK C) (dR:Fn P w K mg base 3 "mixed" ["own","far","weight","mass","share"] (sp_mixed K)):Fn P w K mg base 4 "behind" ["one","other","share"] (sp_behind K):=by
 refine D.ok0 Y2 (λvs H Q E h=>?_) (λf cdv A outer s H vs Q E hr h=>?_)
 ·obtain ⟨p,a,c,x,v,m,p',a',c',x',v',m',sh,rfl,_⟩:=h;rfl
 obtain ⟨p,a,c,x,v,m,p',a',c',x',v',m',sh,rfl,hp,ga,gc,da,dc,m1,m2,hp',ga',gc',da',dc',m1',m2',gsh,k⟩:=h
 refine ⟨_,(zE (zO (i:=3) Y2.nd rfl (Or.inl rfl) (zJ dR (by decide) hr (by rfl) zG (zA (zH ix_tup (pv 0) zC (λ_ _=>rfl)) (zA (zH ix_tup (pv 1) zC (λ_ _=>rfl)) (zA (zH ix_tup (pv 0) zC (λ_ _=>rfl)) (zA (zH ix_tup (pv 1) zC (λ_ _=>rfl)) (zA (pv 2) zB)))))))
   (zE (zO (i:=4) Y2.nd rfl (Or.inl rfl) (zJ dR (by decide) hr (by rfl) zG (zA (zH ix_tup (pv 0) zC (λ_ _=>rfl)) (zA (zH ix_tup (pv 1) zC (λ_ _=>rfl)) (zA (zH ix_tup (pv 0) zC (λ_ _=>rfl)) (zA (zH ix_tup (pv 1) zC (λ_ _=>rfl)) (zA (pv 2) zB)))))))
   (zF (zM (zP (zA (pv 3) (zA (pv 4) (zA (zH ix_tup (pv 0) zC (λ_ _=>rfl)) zB)))))))),?_⟩
 try dsimp only [cxK,cxK0]
 have ds:FB 64 ((1:Int):Rat):=FB.ofInt (Bd.small (i:=1) (by decide) (by decide)) (by decide)
 refine ⟨_,rfl,p,_,_,_,rfl,rfl,hp,rfl,_,rfl,p',_,_,_,rfl,rfl,hp',rfl,_,rfl,p,_,_,_,rfl,rfl,hp,rfl,_,rfl,p',_,_,_,rfl,rfl,hp',rfl,_,rfl,a,x,a',x',m,m',sh,_,rfl,ga,da,ga',da',m1,m2,m1',m2',gsh,ds,λr1 H1 s1 g1=>?_⟩
 have cH:=Kw.Same.tup s1 hp;have fG:=Kw.Same.tup s1 hp';refine ⟨_,rfl,p,_,_,_,rfl,rfl,cH,rfl,_,rfl,p',_,_,_,rfl,rfl,fG,rfl,_,rfl,p,_,_,_,rfl,rfl,cH,rfl,_,rfl,p',_,_,_,rfl,rfl,fG,rfl,_,rfl,c,v,c',v',m,m',sh,_,rfl,Kw.Same.tup s1 gc,dc,Kw.Same.tup s1 gc',dc',m1,m2,m1',m2',Kw.Same.tup s1 gsh,ds,λr2 H2 s2 g2=>?_⟩
 have cV:=Kw.Same.tup s2 cH;refine ⟨_,rfl,_,rfl,_,rfl,p,_,_,_,rfl,rfl,cV,rfl,by show 3<=sizeLine; decide,?_⟩
 intro p3 n3;obtain ⟨H3,q3,s3,e3⟩:=newO n3 (.tup [.ref r1,.ref r2,.int m]);rw [q3];clear q3;exact k p3 r1 r2 H3 (s1.trans (s2.trans s3)) (SqT.of e3) (FQ.cast (Kw.Same.tup (s2.trans s3) g1) (mixS_one _ _ _ _)) (FQ.cast (Kw.Same.tup s3 g2) (mixS_one _ _ _ _))
noncomputable def ZS (K:PySem.W.Frag):Sp:=λvs H Q _=>∃ (p_x:Addr) (x:Rat),vs=[.ref p_x]/\FQ K H p_x x/\FB 3900 x/\(∀ (p_r:Addr) (H1:Hp),Same H H1->FQ K H1 p_r (-x)->Q (.ref p_r) H1)
theorem sc_turned_about:FnScope ["number"] ["number"] (zD (top 56)):={}
theorem ok_turned_about (D:Df K mg "turned_about" (top 56) ["number"]) (T:Tx K mg CK C) (aJ:Fn P w K mg base 3 "minus" ["one","other"] (ZT K)):Fn P w K mg base 4 "turned_about" ["number"] (ZS K):=by
 refine D.ok0 sc_turned_about (λvs H Q E h=>?_) (λf cdv A outer s H vs Q E hr h=>?_)
 ·obtain ⟨p_x,x,rfl,_⟩:=h;rfl
 obtain ⟨p_x,x,rfl,g_x,d_x,k0⟩:=h;refine ⟨_,(zF (zM (zJ aJ (by decide) hr (by rfl) zG (zA (zp (K:=K) rfl (by rfl) T.k_NOUGHT) (zA (pv 0) zB))))),?_⟩
 try dsimp only [cxK,cxK0]
 refine λKn qD=>?_
 have Ko:FQ K H Kn (((0:Int)):Rat):=qD _;refine ⟨_,rfl,_,_,_,_,rfl,Ko,(FB.mono (FB.ofInt (Bd.small (i:=0) (by decide) (by decide)) (by decide)) (by decide)),g_x,(FB.mono d_x (by decide)),λp_r11 cM aO g_r11=>?_⟩
 have d_r11:FB 3965 (((((0:Int):Rat))) - x):=(FB.mono (FB.sub (FB.ofInt (Bd.small (i:=0) (by decide) (by decide)) (by decide)) d_x) (by decide))
 have cW:((((((0:Int):Rat))) - x):Rat)=-x:=by grind
 exact k0 _ _ aO (FQ.cast g_r11 cW)
noncomputable def sp_parted (K:PySem.W.Frag):Sp:=λvs H Q _=>∃ (z y:V) (a b:Rat × Rat × Option Int),vs=[z,y]/\GoQ K 1990 H z a/\GoQ K 1990 H y b/\(b.2.2=none\/a.2.2≠none)/\FB 1990 (ptd a b).1/\FB 1990 (ptd a b).2/\∀ (r f1 f2:Addr) (ys:List V) (H1:Hp),Same H H1->SqT K H1 r (.ref f1::.ref f2::ys)->FQ K H1 f1 (ptd a b).1->FQ K H1 f2 (ptd a b).2->Q (.ref r) H1
theorem sc_parted:FnScope ["own","far"] ["own","far"] (zD (top 67)):={}
theorem ok_parted (D:Df K mg "parted" (top 67) ["own","far"]) (T:Tx K mg CK C) (aJ:Fn P w K mg base 3 "minus" ["one","other"] (ZT K)) (aP:Fn P w K mg base 2 "plus" ["one","other"] (Zy K)) (bS:Fn P w K mg base 4 "turned_about" ["number"] (ZS K)) (eU:Fn P w K mg base 4 "behind" ["one","other","share"] (sp_behind K)):Fn P w K mg base 5 "parted" ["own","far"] (sp_parted K):=by
 refine D.ok0 sc_parted (λvs H Q E h=>?_) (λf cdv A outer s H vs Q E hr h=>?_)
 ·obtain ⟨z,y,a,b,rfl,_⟩:=h;rfl
 obtain ⟨z,y,a,b,rfl,⟨p,pa,pc,rfl,hp,ga,gc,da,dc,wa⟩,⟨p',pa',pc',rfl,hp',ga',gc',da',dc',wb⟩,hn,f1,f2,k⟩:=h
 refine ⟨_,(zE (ze (zR J4 (zH ix_tup (pv 1) zC (λ_ _=>rfl)) yf (zU _)) (zF (zM (zP (zA (zJ aJ (by decide) hr (by rfl) zG (zA (zJ aP (by decide) hr (by rfl) zG (zA (zH ix_tup (pv 1) zC (λ_ _=>rfl)) (zA (zH ix_tup (pv 1) zC (λ_ _=>rfl)) zB))) (zA (zH ix_tup (pv 0) zC (λ_ _=>rfl)) zB))) (zA (zJ bS (by decide) hr (by rfl) zG (zA (zH ix_tup (pv 0) zC (λ_ _=>rfl)) zB)) (zA (zH ix_tup (pv 0) zC (λ_ _=>rfl)) zB)))))) zT)
   (zF (zM (zJ eU (by decide) hr (by rfl) zG (zA (pv 0) (zA (pv 1) (zA (zp (K:=K) rfl (by rfl) T.k_ALL) zB))))))),?_⟩
 try dsimp only [cxK,cxK0]
 obtain ⟨x,v,om⟩:=a;obtain ⟨x',v',ou⟩:=b;cases ou with
 |none=>
  refine ⟨_,rfl,p',_,_,_,rfl,rfl,hp',rfl,rfl,_,rfl,iteT ?_⟩;refine ⟨_,rfl,p',_,_,_,rfl,rfl,hp',rfl,_,rfl,p',_,_,_,rfl,rfl,hp',rfl,_,_,_,_,rfl,ga',da'.mono (by decide),ga',da'.mono (by decide),λr1 H1 s1 k1=>?_⟩
  have cH:=Kw.Same.tup s1 hp;have d1:FB 3981 (x'+x'):=FB.add da' da';refine ⟨_,rfl,p,_,_,_,rfl,rfl,cH,rfl,r1,_,pa,_,rfl,k1,d1.mono (by decide),Kw.Same.tup s1 ga,da.mono (by decide),λr2 H2 s2 k2=>?_⟩
  have cV:=Kw.Same.tup s2 cH;refine ⟨_,rfl,p,_,_,_,rfl,rfl,cV,rfl,pc,_,rfl,Kw.Same.tup (s1.trans s2) gc,dc.mono (by decide),λr3 H3 s3 k3=>?_⟩
  have iK:=Kw.Same.tup s3 cV;refine ⟨_,rfl,p,_,_,_,rfl,rfl,iK,rfl,by show 3<=sizeLine; decide,?_⟩
  intro p4 n4;obtain ⟨H4,q4,s4,e4⟩:=newO n4 (.tup [.ref r2,.ref r3,wV om]);rw [q4];clear q4;exact k p4 r2 r3 [wV om] H4 (s1.trans (s2.trans (s3.trans s4))) (SqT.of e4) (Kw.Same.tup (s3.trans s4) k2) (Kw.Same.tup s4 k3)
 |some u=>
  cases om with
  |none=>rcases hn with hn|hn<;>exact absurd hn (by simp)
  |some m=>
   have w1:=wa m rfl;have w2:=wb u rfl;refine ⟨_,rfl,p',_,_,_,rfl,rfl,hp',rfl,rfl,_,rfl,iteF ?_⟩;refine ⟨_,rfl,_,rfl,λN hN=>?_⟩
   have gN:FQ K H N (((1:Int)):Rat):=hN _;exact ⟨p,pa,pc,x,v,m,p',pa',pc',x',v',u,N,rfl,hp,ga,gc,da,dc,by omega,by omega,hp',ga',gc',da',dc',by omega,by omega,gN,λr f1 f2 H1 s1 h1 h2 h3=>k r f1 f2 [.int m] H1 s1 h1 h2 h3⟩
noncomputable def ZR (K:PySem.W.Frag):Sp:=λvs H Q _=>∃ (z y:V) (a b:Rat × Rat × Option Int),vs=[z,y]/\GoQ K 1990 H z a/\GoQ K 1990 H y b/\(a.2.1<=b.2.1->∀ H1,Same H H1->Q .non H1)/\(¬ a.2.1<=b.2.1->∀ (r:Addr) (H1:Hp),Same H H1->FQ K H1 r ((b.1 - a.1) / (a.2.1 - b.2.1))->Q (.ref r) H1)
theorem ZO:FnScope ["one","other","gain"] ["one","other"] (zD (top 29)):={}
theorem ok_joint_moment (D:Df K mg "joint_moment" (top 29) ["one","other"]) (T:Tx K mg CK C) (aJ:Fn P w K mg base 3 "minus" ["one","other"] (ZT K)) (gU:Fn P w K mg base 3 "over" ["one","other"] (sp_over K)):Fn P w K mg base 4 "joint_moment" ["one","other"] (ZR K):=by
 refine D.ok0 ZO (λvs H Q E h=>?_) (λf cdv A outer s H vs Q E hr h=>?_)
 ·obtain ⟨z,y,a,b,rfl,_⟩:=h;rfl
 obtain ⟨z,y,⟨x,v,om⟩,⟨x',v',ou⟩,rfl,⟨p,pa,pc,rfl,hp,ga,gc,da,dc,wa⟩,⟨p',pa',pc',rfl,hp',ga',gc',da',dc',wb⟩,kn,ks⟩:=h
 refine ⟨_,(zE (zO (i:=2) ZO.nd rfl (Or.inl rfl) (zJ aJ (by decide) hr (by rfl) zG (zA (zH ix_tup (pv 0) zC (λ_ _=>rfl)) (zA (zH ix_tup (pv 1) zC (λ_ _=>rfl)) zB))))
   (zE (ze (zR Jj (zH ix_tup (pv 2) zC (λ_ _=>rfl)) zC (zU _)) (zF (zM yf)) zT)
   (zF (zM (zJ gU (by decide) hr (by rfl) zG (zA (zJ aJ (by decide) hr (by rfl) zG (zA (zH ix_tup (pv 1) zC (λ_ _=>rfl)) (zA (zH ix_tup (pv 0) zC (λ_ _=>rfl)) zB))) (zA (pv 2) zB))))))),?_⟩
 try dsimp only [cxK,cxK0]
 refine ⟨_,rfl,p,_,_,_,rfl,rfl,hp,rfl,_,rfl,p',_,_,_,rfl,rfl,hp',rfl,pc,v,pc',v',rfl,gc,dc.mono (by decide),gc',dc'.mono (by decide),λr1 H1 s1 g1=>?_⟩
 have Kp:SqT K H1 r1 [.int (v - v').num,.int (((v - v').den:Nat):Int)]:=g1;refine ⟨_,rfl,r1,_,_,_,rfl,rfl,Kp,rfl,_,_,rfl,rfl,_,rfl,?_⟩;refine zc (λcc=>?_) (λcc=>?_)
 ·have:=(q_le0 (v - v')).mp cc;exact kn (by dsimp only; grind) H1 s1
 ·have pos:=mt (q_le0 (v - v')).mpr cc;have cH:=Kw.Same.tup s1 hp;have fG:=Kw.Same.tup s1 hp';refine ⟨_,rfl,p',_,_,_,rfl,rfl,fG,rfl,_,rfl,p,_,_,_,rfl,rfl,cH,rfl,pa',x',pa,x,rfl,Kw.Same.tup s1 ga',da'.mono (by decide),Kw.Same.tup s1 ga,da.mono (by decide),λr2 H2 s2 g2=>?_⟩
  refine ⟨_,rfl,r2,_,r1,_,rfl,g2,(FB.sub da' da).mono (by decide),Kw.Same.tup s2 g1,(FB.sub dc dc').mono (by decide),(by dsimp only at *; grind),λr3 H3 s3 g3=>?_⟩
  exact ks (by dsimp only; grind) r3 H3 (s1.trans (s2.trans s3)) g3
noncomputable def jY (K:PySem.W.Frag) (C:Addr):Sp:=λvs H Q _=>∃ (p pb l:Addr) (R:Rat × Rat) (gs:List Bq) (dx:Addr) (fs:List (Str × V)) (wl g:Addr) (xs:List V) (q:Pr) (ys:List V) (bs:List Bq) (N:Nat),vs=[.ref p,.ref pb,.ref l]/\PlG K H C p R gs dx fs wl g xs/\H pb=some (.tup ((keyP q).map kV))/\H l=some (.lst ys)/\Al2 (BqH K N H) ys bs/\InP bs.length q/\1990<=N/\∀ (v:V) (H1:Hp),Same H H1->BqH K N H1 v (boxB R bs q.1 q.2.1)->Q v H1
theorem sc_Plane_one_of:FnScope ["self","pair","boxes"] ["self","pair","boxes"] (zD (zQ (top 69) 1)):={}
theorem ok_Plane_one_of (D:DfM K (C 7) "one_of" "Plane.one_of" (zQ (top 69) 1) ["self","pair","boxes"]) (T:Tx K mg CK C):FnM P w K mg base 1 (C 7) "one_of" ["self","pair","boxes"] (jY K (C 7)):=by
 refine D.ok0 sc_Plane_one_of (λvs H Q E h=>?_) (λf cdv A outer s H vs Q E hr h=>?_)
 ·obtain ⟨p,pb,l,R,gs,dx,fs,wl,g,xs,q,ys,bs,N,rfl,_⟩:=h;rfl
 obtain ⟨p,pb,l,R,gs,dx,fs,wl,g,xs,q,ys,bs,N,rfl,pg,hb,hl,al,hin,hN,k⟩:=h;refine ⟨_,(zF (zM (Jz (zR YM (zH ix_tup (pv 1) zC (λ_ _=>rfl)) zC (zU _)) (zH ix_list (pv 2) (zH ix_tup (pv 1) zC (λ_ _=>rfl)) (λ_ _=>rfl)) (ZN (Z3 (u100 hr)) (zW T.cl_Plane T.n_Plane_walls (pv 0)) (zP (zA (zH ix_tup (pv 1) zC (λ_ _=>rfl)) (zA (zH ix_tup (pv 1) zC (λ_ _=>rfl)) zB))) (λ_ _=>rfl))))),?_⟩
 try dsimp only [cxK,cxK0]
 have hq:SqT K H pb [.int (q.1:Int),.int q.2.1,.int q.2.2]:=SqT.of hb;have hz:=Al2.len al;refine ⟨_,rfl,pb,_,_,_,rfl,rfl,hq,rfl,_,_,rfl,rfl,_,rfl,?_⟩;refine zc (λc=>?_) (λc=>?_)
 ·obtain ⟨i,hi,ei⟩:∃ i,i < bs.length/\q.2.1=(i:Int):=by
   rcases hin.2.1 with z|z
   ·rw [z] at c;exact absurd c (by decide)
   ·exact z
  obtain ⟨y,hy⟩:∃ y,ys[i]?=some y:=⟨_,List.getElem?_eq_getElem (by omega)⟩
  obtain ⟨b,hb',hyb⟩:=Al2.get al hy;have e:boxB R bs q.1 q.2.1=b:=by
   unfold boxB bxAt;rw [if_pos c,ei,Int.toNat_natCast,List.getD_eq_getElem?_getD,hb'];rfl
  refine ⟨_,rfl,_,rfl,pb,_,_,_,rfl,rfl,hq,rfl,l,_,_,_,rfl,rfl,SqL.of hl,by rw [ei]; exact zi hy,?_⟩
  exact k y H (Same.refl _) (by rw [e]; exact hyb)
 ·have ci:q.2.1=-1\/q.2.1=-2:=by
   rcases hin.2.1 with z|⟨i,_,z⟩
   ·exact .inl z
   ·exact absurd (show 0<=q.2.1 by omega) c
  have e:boxB R bs q.1 q.2.1=jj R q.1 q.2.1:=by
   unfold boxB;rw [if_neg c]
  refine ⟨_,rfl,p,_,_,_,rfl,pg.ob,pg.fw,_,rfl,pb,_,_,_,rfl,rfl,hq,rfl,_,rfl,pb,_,_,_,rfl,rfl,hq,rfl,by show 2<=sizeLine; decide,?_⟩
  intro p1 n1;obtain ⟨H1,q1,s1,e1⟩:=newO n1 (.tup [.int (q.1:Int),.int q.2.1]);rw [q1];clear q1;obtain ⟨w,kvs,hw,hv,hb'⟩:=(pg.ws.same s1).get (d:=q.1) (i:=q.2.1) hin.1 ci;refine ⟨wl,w,rfl,?_,k w H1 s1 (by rw [e]; exact hb'.mono hN)⟩
  have z:=DGet.t (k:=keyW q.1 q.2.1) hw (b:=p1) e1;rw [hv] at z;exact z
noncomputable def yz (K:PySem.W.Frag) (C:Addr):Sp:=λvs H Q _=>∃ (p pb l:Addr) (R:Rat × Rat) (gs:List Bq) (dx:Addr) (fs:List (Str × V)) (wl g:Addr) (xs:List V) (q:Pr) (ys:List V) (bs:List Bq) (N:Nat),vs=[.ref p,.ref pb,.ref l]/\PlG K H C p R gs dx fs wl g xs/\H pb=some (.tup ((keyP q).map kV))/\H l=some (.lst ys)/\Al2 (BqH K N H) ys bs/\InP bs.length q/\1990<=N/\∀ (v:V) (H1:Hp),Same H H1->BqH K N H1 v (boxB R bs q.1 q.2.2)->Q v H1
theorem sc_Plane_other_of:FnScope ["self","pair","boxes"] ["self","pair","boxes"] (zD (zQ (top 69) 2)):={}
theorem ok_Plane_other_of (D:DfM K (C 7) "other_of" "Plane.other_of" (zQ (top 69) 2) ["self","pair","boxes"]) (T:Tx K mg CK C):FnM P w K mg base 1 (C 7) "other_of" ["self","pair","boxes"] (yz K (C 7)):=by
 refine D.ok0 sc_Plane_other_of (λvs H Q E h=>?_) (λf cdv A outer s H vs Q E hr h=>?_)
 ·obtain ⟨p,pb,l,R,gs,dx,fs,wl,g,xs,q,ys,bs,N,rfl,_⟩:=h;rfl
 obtain ⟨p,pb,l,R,gs,dx,fs,wl,g,xs,q,ys,bs,N,rfl,pg,hb,hl,al,hin,hN,k⟩:=h;refine ⟨_,(zF (zM (Jz (zR YM (zH ix_tup (pv 1) zC (λ_ _=>rfl)) zC (zU _)) (zH ix_list (pv 2) (zH ix_tup (pv 1) zC (λ_ _=>rfl)) (λ_ _=>rfl)) (ZN (Z3 (u100 hr)) (zW T.cl_Plane T.n_Plane_walls (pv 0)) (zP (zA (zH ix_tup (pv 1) zC (λ_ _=>rfl)) (zA (zH ix_tup (pv 1) zC (λ_ _=>rfl)) zB))) (λ_ _=>rfl))))),?_⟩
 try dsimp only [cxK,cxK0]
 have hq:SqT K H pb [.int (q.1:Int),.int q.2.1,.int q.2.2]:=SqT.of hb;have hz:=Al2.len al;refine ⟨_,rfl,pb,_,_,_,rfl,rfl,hq,rfl,_,_,rfl,rfl,_,rfl,?_⟩;refine zc (λc=>?_) (λc=>?_)
 ·obtain ⟨i,hi,ei⟩:∃ i,i < bs.length/\q.2.2=(i:Int):=by
   rcases hin.2.2.1 with z|z
   ·rw [z] at c;exact absurd c (by decide)
   ·exact z
  obtain ⟨y,hy⟩:∃ y,ys[i]?=some y:=⟨_,List.getElem?_eq_getElem (by omega)⟩
  obtain ⟨b,hb',hyb⟩:=Al2.get al hy;have e:boxB R bs q.1 q.2.2=b:=by
   unfold boxB bxAt;rw [if_pos c,ei,Int.toNat_natCast,List.getD_eq_getElem?_getD,hb'];rfl
  refine ⟨_,rfl,_,rfl,pb,_,_,_,rfl,rfl,hq,rfl,l,_,_,_,rfl,rfl,SqL.of hl,by rw [ei]; exact zi hy,?_⟩
  exact k y H (Same.refl _) (by rw [e]; exact hyb)
 ·have ci:q.2.2=-1\/q.2.2=-2:=by
   rcases hin.2.2.1 with z|⟨i,_,z⟩
   ·exact .inr z
   ·exact absurd (show 0<=q.2.2 by omega) c
  have e:boxB R bs q.1 q.2.2=jj R q.1 q.2.2:=by
   unfold boxB;rw [if_neg c]
  refine ⟨_,rfl,p,_,_,_,rfl,pg.ob,pg.fw,_,rfl,pb,_,_,_,rfl,rfl,hq,rfl,_,rfl,pb,_,_,_,rfl,rfl,hq,rfl,by show 2<=sizeLine; decide,?_⟩
  intro p1 n1;obtain ⟨H1,q1,s1,e1⟩:=newO n1 (.tup [.int (q.1:Int),.int q.2.2]);rw [q1];clear q1;obtain ⟨w,kvs,hw,hv,hb'⟩:=(pg.ws.same s1).get (d:=q.1) (i:=q.2.2) hin.1 ci;refine ⟨wl,w,rfl,?_,k w H1 s1 (by rw [e]; exact hb'.mono hN)⟩
  have z:=DGet.t (k:=keyW q.1 q.2.2) hw (b:=p1) e1;rw [hv] at z;exact z
noncomputable def j1 (K:PySem.W.Frag) (C:Addr):Sp:=λvs H Q _=>∃ (p pb:Addr) (R:Rat × Rat) (gs:List Bq) (dx:Addr) (fs:List (Str × V)) (wl g:Addr) (xs:List V) (q:Pr),vs=[.ref p,.ref pb]/\PlG K H C p R gs dx fs wl g xs/\H pb=some (.tup ((keyP q).map kV))/\InP gs.length q/\FB 1990 ((boxB R gs q.1 q.2.1).far q.1)/\(∀ t,jntP R gs q=some t->FB 2000 t)/\∀ (v:V) (H1:Hp),Same H H1->OptB K H1 v (jntP R gs q)->Q v H1
theorem y4:FnScope ["self","pair","one","other"] ["self","pair"] (zD (zQ (top 69) 3)):={}
theorem ok_Plane_joint_of (D:DfM K (C 7) "joint_of" "Plane.joint_of" (zQ (top 69) 3) ["self","pair"]) (T:Tx K mg CK C) (aT:Fn P w K mg base 4 "far_going" ["box","way"] (j5 K)) (ai:FnM P w K mg base 1 (C 7) "one_of" ["self","pair","boxes"] (jY K (C 7))) (aQ:Fn P w K mg base 1 "near_going" ["box","way"] (jm K)) (ae:FnM P w K mg base 1 (C 7) "other_of" ["self","pair","boxes"] (yz K (C 7))) (bT:Fn P w K mg base 4 "joint_moment" ["one","other"] (ZR K)):FnM P w K mg base 5 (C 7) "joint_of" ["self","pair"] (j1 K (C 7)):=by
 refine D.ok0 y4 (λvs H Q E h=>?_) (λf cdv A outer s H vs Q E hr h=>?_)
 ·obtain ⟨p,pb,R,gs,dx,fs,wl,g,xs,q,rfl,_⟩:=h;rfl
 obtain ⟨p,pb,R,gs,dx,fs,wl,g,xs,q,rfl,pg,hb,hin,fb,ft,k⟩:=h
 refine ⟨_,(zE (zO (i:=2) y4.nd rfl (Or.inl rfl) (zJ aT (by decide) hr (by rfl) zG (zA (ya T.cl_Plane ai (by decide) hr zG (pv 0) (zA (pv 1) (zA (zW T.cl_Plane T.n_Plane_goings (pv 0)) zB))) (zA (zH ix_tup (pv 1) zC (λ_ _=>rfl)) zB))))
   (zE (zO (i:=3) y4.nd rfl (Or.inl rfl) (zJ aQ (by decide) hr (by rfl) zG (zA (ya T.cl_Plane ae (by decide) hr zG (pv 0) (zA (pv 1) (zA (zW T.cl_Plane T.n_Plane_goings (pv 0)) zB))) (zA (zH ix_tup (pv 1) zC (λ_ _=>rfl)) zB))))
   (zF (zM (zJ bT (by decide) hr (by rfl) zG (zA (pv 2) (zA (pv 3) zB))))))),?_⟩
 try dsimp only [cxK,cxK0]
 have hq:SqT K H pb [.int (q.1:Int),.int q.2.1,.int q.2.2]:=SqT.of hb;refine ⟨_,rfl,p,_,_,rfl,pg.ob,pg.nm.one_of,_,rfl,_,rfl,p,_,_,_,rfl,pg.ob,pg.fg,p,pb,g,R,gs,dx,fs,wl,g,xs,q,xs,gs,1990,rfl,pg,hb,pg.hg,pg.al,hin,Nat.le_refl _,λv1 H1 s1 k1=>?_⟩
 have gW:=Kw.Same.tup s1 hq;refine ⟨_,rfl,pb,_,_,_,rfl,rfl,gW,rfl,v1,_,q.1,rfl,k1,hin.1,fb,λr2 H2 s2 k2=>?_⟩
 have ak:=s1.trans s2;have ck:=pg.same ak;refine ⟨_,rfl,p,_,_,rfl,ck.ob,ck.nm.other_of,_,rfl,_,rfl,p,_,_,_,rfl,ck.ob,ck.fg,p,pb,g,R,gs,dx,fs,wl,g,xs,q,xs,gs,1990,rfl,ck,ak _ _ hb,ck.hg,ck.al,hin,Nat.le_refl _,λv3 H3 s3 k3=>?_⟩
 have aC:=ak.trans s3;have Kq:=Kw.Same.tup aC hq;refine ⟨_,rfl,pb,_,_,_,rfl,rfl,Kq,rfl,v3,_,q.1,rfl,k3,hin.1,λr4 H4 s4 k4=>?_⟩
 have aM:=aC.trans s4;refine ⟨_,rfl,_,rfl,_,_,farG (boxB R gs q.1 q.2.1) q.1,jI (boxB R gs q.1 q.2.2) q.1,rfl,k2.same (s3.trans s4),k4,λc H5 s5=>?_,λc r5 H5 s5 g5=>?_⟩
 ·refine k _ H5 (aM.trans s5) (.inl ⟨?_,rfl⟩);unfold jntP;exact if_pos c
 ·have e:jntP R gs q=some (((boxB R gs q.1 q.2.2).pl q.1 - (boxB R gs q.1 q.2.1).far q.1) / ((boxB R gs q.1 q.2.1).sp q.1 - (boxB R gs q.1 q.2.2).sp q.1)):=by
   unfold jntP;exact if_neg c
  exact k _ H5 (aM.trans s5) (.inr ⟨_,r5,e,rfl,g5,ft _ e⟩)
noncomputable def JF (K:PySem.W.Frag) (C:Addr):Sp:=λvs H Q _=>∃ (p pb pt:Addr) (R:Rat × Rat) (gs:List Bq) (dx:Addr) (fs:List (Str × V)) (wl g:Addr) (xs:List V) (q:Pr) (t:Rat),vs=[.ref p,.ref pb,.ref pt]/\PlG K H C p R gs dx fs wl g xs/\H pb=some (.tup ((keyP q).map kV))/\InP gs.length q/\FQ K H pt t/\FB 2000 t/\∀ (H1:Hp),Same H H1->Q (.bl (metP R gs t q)) H1
theorem jA:FnScope ["self","pair","moment","one","other"] ["self","pair","moment"] (zD (zQ (top 69) 8)):={}
theorem ok_Plane_meet_at (D:DfM K (C 7) "meet_at" "Plane.meet_at" (zQ (top 69) 8) ["self","pair","moment"]) (T:Tx K mg CK C) (bp:Fn P w K mg base 4 "box_at" ["box","moment"] (Yz K)) (ai:FnM P w K mg base 1 (C 7) "one_of" ["self","pair","boxes"] (jY K (C 7))) (ae:FnM P w K mg base 1 (C 7) "other_of" ["self","pair","boxes"] (yz K (C 7))) (ah:Fn P w K mg base 4 "have_in_common" ["one","other","way"] (yQ K)):FnM P w K mg base 5 (C 7) "meet_at" ["self","pair","moment"] (JF K (C 7)):=by
 refine D.ok0 jA (λvs H Q E h=>?_) (λf cdv A outer s H vs Q E hr h=>?_)
 ·obtain ⟨p,pb,pt,R,gs,dx,fs,wl,g,xs,q,t,rfl,_⟩:=h;rfl
 obtain ⟨p,pb,pt,R,gs,dx,fs,wl,g,xs,q,t,rfl,pg,hb,hin,gt,dt,k⟩:=h
 refine ⟨_,(zE (zO (i:=3) jA.nd rfl (Or.inl rfl) (zJ bp (by decide) hr (by rfl) zG (zA (ya T.cl_Plane ai (by decide) hr zG (pv 0) (zA (pv 1) (zA (zW T.cl_Plane T.n_Plane_goings (pv 0)) zB))) (zA (pv 2) zB))))
   (zE (zO (i:=4) jA.nd rfl (Or.inl rfl) (zJ bp (by decide) hr (by rfl) zG (zA (ya T.cl_Plane ae (by decide) hr zG (pv 0) (zA (pv 1) (zA (zW T.cl_Plane T.n_Plane_goings (pv 0)) zB))) (zA (pv 2) zB))))
   (zF (zM (zJ ah (by decide) hr (by rfl) zG (zA (pv 3) (zA (pv 4) (zA (zN jp zC (zH ix_tup (pv 1) zC (λ_ _=>rfl))) zB)))))))),?_⟩
 try dsimp only [cxK,cxK0]
 have hq:SqT K H pb [.int (q.1:Int),.int q.2.1,.int q.2.2]:=SqT.of hb;refine ⟨_,rfl,p,_,_,rfl,pg.ob,pg.nm.one_of,_,rfl,_,rfl,p,_,_,_,rfl,pg.ob,pg.fg,p,pb,g,R,gs,dx,fs,wl,g,xs,q,xs,gs,1990,rfl,pg,hb,pg.hg,pg.al,hin,Nat.le_refl _,λv1 H1 s1 k1=>?_⟩
 refine ⟨_,rfl,v1,_,pt,t,rfl,k1,Kw.Same.tup s1 gt,dt,λr2 H2 s2 k2=>?_⟩
 have ak:=s1.trans s2;have ck:=pg.same ak;refine ⟨_,rfl,p,_,_,rfl,ck.ob,ck.nm.other_of,_,rfl,_,rfl,p,_,_,_,rfl,ck.ob,ck.fg,p,pb,g,R,gs,dx,fs,wl,g,xs,q,xs,gs,1990,rfl,ck,ak _ _ hb,ck.hg,ck.al,hin,Nat.le_refl _,λv3 H3 s3 k3=>?_⟩
 have aC:=ak.trans s3;refine ⟨_,rfl,v3,_,pt,t,rfl,k3,Kw.Same.tup aC gt,dt,λr4 H4 s4 k4=>?_⟩
 have aM:=aC.trans s4;have i6:=Kw.Same.tup aM hq;refine ⟨_,rfl,_,rfl,_,rfl,pb,_,_,_,rfl,rfl,i6,rfl,_,_,rfl,rfl,_,_,_,_,1 - q.1,?_,k2.same (s3.trans s4),k4,by omega,λH5 s5=>k H5 (aM.trans s5)⟩
 have h1:=hin.1;rw [show ((1 - q.1:Nat):Int)=1 - (q.1:Int) by omega]
 rfl
noncomputable def yN (K:PySem.W.Frag) (C:Addr):Sp:=λvs H Q _=>∃ (p pb:Addr) (R:Rat × Rat) (gs:List Bq) (dx:Addr) (fs:List (Str × V)) (j:Addr) (kvs:List (List Key × V)) (q:Pr),vs=[.ref p,.ref pb]/\H p=some (.ins C dx fs)/\PlJ K H R gs fs j kvs/\H pb=some (.tup ((keyP q).map kV))/\InP gs.length q/\∀ (H1:Hp),Same H H1->Q (.bl (corP R gs q)) H1
theorem yT:FnScope ["self","pair","aside"] ["self","pair"] (zD (zQ (top 69) 9)):={}
theorem ok_Plane_close_at_a_corner (D:DfM K (C 7) "close_at_a_corner" "Plane.close_at_a_corner" (zQ (top 69) 9) ["self","pair"]) (T:Tx K mg CK C):FnM P w K mg base 1 (C 7) "close_at_a_corner" ["self","pair"] (yN K (C 7)):=by
 refine D.ok0 yT (λvs H Q E h=>?_) (λf cdv A outer s H vs Q E hr h=>?_)
 ·obtain ⟨p,pb,R,gs,dx,fs,j,kvs,q,rfl,_⟩:=h;rfl
 obtain ⟨p,pb,R,gs,dx,fs,j,kvs,q,rfl,hp,pj,hb,hin,k⟩:=h
 refine ⟨_,(zE (ze (y9 (zR Z5 (zH ix_tup (pv 1) zC (λ_ _=>rfl)) zC (zU _)) (yO (zR Z5 (zH ix_tup (pv 1) zC (λ_ _=>rfl)) zC (zU _)))).pt (zF (zM yW)) zT)
   (zE (zO (i:=2) yT.nd rfl (Or.inl rfl) (zN jp zC (zH ix_tup (pv 1) zC (λ_ _=>rfl))))
   (zF (zM (yy (op_inOB (K:=K) rfl (u100 hr)) (ZN (Z3 (u100 hr)) (zW T.cl_Plane T.n_Plane_joints (pv 0)) (pv 1) (λ_ _=>rfl)) (zP (zA (ZN (Z3 (u100 hr)) (zW T.cl_Plane T.n_Plane_joints (pv 0)) (zP (zA (pv 2) (zA (zH ix_tup (pv 1) zC (λ_ _=>rfl)) (zA (zH ix_tup (pv 1) zC (λ_ _=>rfl)) zB)))) (λ_ _=>rfl)) (zA (ZN (Z3 (u100 hr)) (zW T.cl_Plane T.n_Plane_joints (pv 0)) (zP (zA (pv 2) (zA (zH ix_tup (pv 1) zC (λ_ _=>rfl)) (zA (zH ix_tup (pv 1) zC (λ_ _=>rfl)) zB)))) (λ_ _=>rfl)) zB))) (by first|rfl|with_unfolding_all rfl)))))),?_⟩
 try dsimp only [cxK,cxK0]
 have hq:SqT K H pb [.int (q.1:Int),.int q.2.1,.int q.2.2]:=SqT.of hb;unfold corP at k;have h1:=hin.1;have get:∀ {H1:Hp} {b:Addr} {q':Pr},Same H H1->InP gs.length q'->H1 b=some (.tup ((keyP q').map kV))->∃ v,DGet H1 j (.ref b) (some v)/\OptB K H1 v (jntP R gs q'):=λ{H1 b q'} s1 hi hb'=>by
  obtain ⟨v,e1,e2⟩:=(pj.same s1).get (jC.mpr hi);exact ⟨v,.inr ⟨kvs,keyP q',b,(pj.same s1).hj,rfl,hb',e1.symm⟩,e2⟩
 refine cut1 (λσ' H'=>σ'=[some (.ref p),some (.ref pb),none]/\H'=H/\0<=q.2.1/\0<=q.2.2) (λN hN=>?_) ?_
 ·refine ⟨_,rfl,pb,_,_,_,rfl,rfl,hq,rfl,_,_,rfl,rfl,_,rfl,?_⟩;refine zc (λc=>?_) (λc=>?_)
  ·refine iteT ?_;have z:=k H (Same.refl _);rw [decide_eq_false (show ¬ 0<=q.2.1 by omega),Bool.false_and] at z
   exact z
  ·refine ⟨_,rfl,pb,_,_,_,rfl,rfl,hq,rfl,_,_,rfl,rfl,_,rfl,?_⟩;refine zc (λc2=>?_) (λc2=>?_)
   ·have z:=k H (Same.refl _);rw [decide_eq_true (show 0<=q.2.1 by omega),decide_eq_false (show ¬ 0<=q.2.2 by omega),Bool.false_and,Bool.and_false] at z
    exact z
   ·exact hN _ _ ⟨rfl,rfl,by omega,by omega⟩
 rintro σ' H' ⟨rfl,rfl,c1,c2⟩;rw [decide_eq_true c1,decide_eq_true c2,Bool.true_and,Bool.true_and] at k;refine ⟨_,rfl,pb,_,_,_,rfl,rfl,hq,rfl,_,_,rfl,rfl,?_⟩;obtain ⟨v0,d0,o0⟩:=get (Same.refl _) hin hb;refine ⟨_,rfl,p,_,_,_,rfl,hp,pj.fj,_,rfl,j,v0,rfl,d0,?_⟩;have i1:InP gs.length (1 - q.1,q.2.1,q.2.2):=⟨by show 1 - q.1<=1; omega,hin.2⟩
 have i2:InP gs.length (1 - q.1,q.2.2,q.2.1):=by
  refine ⟨by show 1 - q.1<=1; omega,.inr ?_,.inr ?_,Ne.symm hin.2.2.2.1,.inl c2⟩
  ·rcases hin.2.2.1 with z|z
   ·exact absurd c2 (by rw [z]; decide)
   ·exact z
  ·rcases hin.2.1 with z|z
   ·exact absurd c1 (by rw [z]; decide)
   ·exact z
 have ed:(1:Int) - (q.1:Int)=((1 - q.1:Nat):Int):=by omega
 refine ⟨_,rfl,p,_,_,_,rfl,hp,pj.fj,_,rfl,_,rfl,pb,_,_,_,rfl,rfl,hq,rfl,_,rfl,pb,_,_,_,rfl,rfl,hq,rfl,by show 3<=sizeLine; decide,?_⟩
 intro p1 n1;obtain ⟨H1,q1,s1,e1⟩:=newO n1 (.tup [.int (1 - (q.1:Int)),.int q.2.1,.int q.2.2]);rw [q1];clear q1;have gi:H1 p1=some (.tup ((keyP (1 - q.1,q.2.1,q.2.2)).map kV)):=by
  rw [e1,ed];rfl
 obtain ⟨v1,d1,o1⟩:=get s1 i1 gi;have gW:=Kw.Same.tup s1 hq;refine ⟨j,v1,rfl,d1,_,rfl,p,_,_,_,rfl,s1 _ _ hp,pj.fj,_,rfl,_,rfl,pb,_,_,_,rfl,rfl,gW,rfl,_,rfl,pb,_,_,_,rfl,rfl,gW,rfl,by show 3<=sizeLine; decide,?_⟩
 intro p2 n2;obtain ⟨H2,q2,s2,e2⟩:=newO n2 (.tup [.int (1 - (q.1:Int)),.int q.2.2,.int q.2.1]);rw [q2];clear q2;have ak:=s1.trans s2;have oa:H2 p2=some (.tup ((keyP (1 - q.1,q.2.2,q.2.1)).map kV)):=by
  rw [e2,ed];rfl
 obtain ⟨v2,d2,o2⟩:=get ak i2 oa;refine ⟨j,v2,rfl,d2,by show 2<=sizeLine; decide,?_⟩
 intro p3 n3;obtain ⟨H3,q3,s3,e3⟩:=newO n3 (.tup [v1,v2]);rw [q3];clear q3;have aC:=ak.trans s3;exact ⟨p3,v1,v2,_,_,_,rfl,SqT.of e3,o0.same aC,o1.same (s2.trans s3),o2.same s3,k H3 aC⟩
noncomputable def Z8 (K:PySem.W.Frag) (C:Addr):Sp:=λvs H Q _=>∃ (p dx:Addr) (v:V) (now:Rat) (c o:Option Rat) (fs:List (Str × V)) (nw:Addr) (co:V),vs=[.ref p,v]/\H p=some (.ins C dx fs)/\PlC K H now c fs nw co/\OptB K H v o/\∀ (H1:Hp),Same H H1->Q (.bl (soonP now c o)) H1
theorem sc_Plane_is_sooner:FnScope ["self","moment"] ["self","moment"] (zD (zQ (top 69) 6)):={}
theorem ok_Plane_is_sooner (D:DfM K (C 7) "is_sooner" "Plane.is_sooner" (zQ (top 69) 6) ["self","moment"]) (T:Tx K mg CK C) (aE:Fn P w K mg base 1 "under" ["one","other"] (ZV K)):FnM P w K mg base 2 (C 7) "is_sooner" ["self","moment"] (Z8 K (C 7)):=by
 refine D.ok0 sc_Plane_is_sooner (λvs H Q E h=>?_) (λf cdv A outer s H vs Q E hr h=>?_)
 ·obtain ⟨p,dx,v,now,c,o,fs,nw,co,rfl,_⟩:=h;rfl
 obtain ⟨p,dx,v,now,c,o,fs,nw,co,rfl,hp,pc,ov,k⟩:=h
 refine ⟨_,(zE (ze (y9 (zR J4 (pv 1) yf (zU _)) (yO (zh (zJ aE (by decide) hr (by rfl) zG (zA (pv 1) (zA (zW T.cl_Plane T.n_Plane_now (pv 0)) zB))) (λ_=>rfl)))).pt (zF (zM yW)) zT)
   (zF (zM (pe_or (yy J4 (zW T.cl_Plane T.n_Plane_coming (pv 0)) yf (zU _)) (yR (zJ aE (by decide) hr (by rfl) zG (zA (pv 1) (zA (zW T.cl_Plane T.n_Plane_coming (pv 0)) zB)))))))),?_⟩
 try dsimp only [cxK,cxK0]
 rcases ov with ⟨rfl,rfl⟩|⟨t,pt,rfl,rfl,gt,dt⟩
 ·refine ⟨_,rfl,rfl,_,rfl,iteT ?_⟩;refine iteT ?_;exact k H (Same.refl _)
 ·refine ⟨_,rfl,rfl,_,rfl,iteF ?_⟩;refine ⟨_,rfl,_,rfl,p,_,_,_,rfl,hp,pc.fn,pt,t,nw,now,rfl,gt,dt.mono (by decide),pc.gn,pc.dn.mono (by decide),λH1 s1=>⟨_,rfl,?_⟩⟩
  refine zc (λlt=>?_) (λlt=>?_)
  ·have z:=k H1 s1;unfold soonP at z;dsimp only at z;rw [if_pos lt] at z;exact z
  ·unfold soonP at k;dsimp only at k;rw [if_neg lt] at k;have qE:=pc.same s1;refine ⟨_,rfl,p,_,_,_,rfl,s1 _ _ hp,qE.fc,rfl,_,rfl,?_⟩;rcases qE.oc with ⟨ec,eo⟩|⟨sq,ps,ec,eo,gs',ds⟩
   ·rw [ec] at k;rw [eo];exact iteT (k H1 s1)
   ·rw [ec] at k;rw [eo];refine iteF ?_;exact ⟨_,rfl,_,rfl,p,_,_,_,rfl,s1 _ _ hp,qE.fc.trans (by rw [eo]),pt,t,ps,sq,rfl,Kw.Same.tup s1 gt,dt.mono (by decide),gs',ds.mono (by decide),λH2 s2=>k H2 (s1.trans s2)⟩
noncomputable def jr (K:PySem.W.Frag) (C:Addr):Sp:=λvs H Q _=>∃ (p pb:Addr) (R:Rat × Rat) (gs:List Bq) (dx:Addr) (fs:List (Str × V)) (j:Addr) (kvs:List (List Key × V)) (q:Pr) (c:Option Rat) (co:V),vs=[.ref p,.ref pb]/\H p=some (.ins C dx fs)/\PlJ K H R gs fs j kvs/\H pb=some (.tup ((keyP q).map kV))/\InP gs.length q/\fs.lookup ("coming" : Str)=some co/\OptB K H co c/\Q (.bl (cmgP R gs c q)) H
theorem sc_Plane_is_coming:FnScope ["self","pair"] ["self","pair"] (zD (zQ (top 69) 7)):={}
theorem ok_Plane_is_coming (D:DfM K (C 7) "is_coming" "Plane.is_coming" (zQ (top 69) 7) ["self","pair"]) (T:Tx K mg CK C):FnM P w K mg base 1 (C 7) "is_coming" ["self","pair"] (jr K (C 7)):=by
 refine D.ok0 sc_Plane_is_coming (λvs H Q E h=>?_) (λf cdv A outer s H vs Q E hr h=>?_)
 ·obtain ⟨p,pb,R,gs,dx,fs,j,kvs,q,c,co,rfl,_⟩:=h;rfl
 obtain ⟨p,pb,R,gs,dx,fs,j,kvs,q,c,co,rfl,hp,pj,hb,hin,fc,oc,k⟩:=h;refine ⟨_,(zF (zM (yd (yy op_notN (zW T.cl_Plane T.n_Plane_coming (pv 0)) yf (zU _)) (yR (yy (op_eqOB (K:=K) rfl (u100 hr)) (ZN (Z3 (u100 hr)) (zW T.cl_Plane T.n_Plane_joints (pv 0)) (pv 1) (λ_ _=>rfl)) (zW T.cl_Plane T.n_Plane_coming (pv 0)) (zU _)))))),?_⟩
 try dsimp only [cxK,cxK0]
 unfold cmgP at k;refine ⟨_,rfl,p,_,_,_,rfl,hp,fc,rfl,_,rfl,?_⟩;rcases id oc with ⟨ec,eo⟩|⟨sq,ps,ec,eo,gs',ds⟩
 ·rw [decide_eq_false (λz=>z ec),Bool.false_and] at k
  rw [eo];exact iteF k
 ·rw [decide_eq_true (show c≠none by rw [ec]; exact λz=>nomatch z),Bool.true_and] at k
  obtain ⟨v,e1,e2⟩:=pj.get (jC.mpr hin);rw [show (!decide (co=V.non))=true by rw [eo]; rfl]
  refine iteT ?_;exact ⟨_,rfl,p,_,_,_,rfl,hp,pj.fj,_,rfl,j,v,rfl,.inr ⟨kvs,keyP q,pb,pj.hj,rfl,hb,e1.symm⟩,_,rfl,p,_,_,_,rfl,hp,fc,_,_,e2,oc,k⟩
noncomputable def jO (K:PySem.W.Frag) (C:Addr):Sp:=λvs H Q _=>∃ (p:Addr) (R:Rat × Rat) (gs:List Bq) (dx:Addr) (fs:List (Str × V)) (wl g:Addr) (xs:List V) (j:Addr) (kvs:List (List Key × V)) (nw:Addr) (now:Rat),vs=[.ref p]/\PlG K H C p R gs dx fs wl g xs/\PlJ K H R gs fs j kvs/\H j=some (.dT kvs)/\wl≠j/\fs.lookup ("now" : Str)=some (.ref nw)/\FQ K H nw now/\FB 2000 now/\fs.length < 900/\gs.length<=6/\∀ (co:V) (du:Addr) (ds:List V) (H1:Hp),But p H H1->H du=none->H1 p=some (.ins C dx (putF ("due" : Str) (.ref du) (putF ("coming" : Str) co fs)))->OptB K H1 co (comP R gs now)->H1 du=some (.lst ds)->Al2 (PrH H1) ds (dueP R gs now)->Q .non H1
theorem yb:FnScope ["self","pair","moment"] ["self"] (zD (zQ (top 69) 5)):={}
theorem ok_Plane_look_ahead (D:DfM K (C 7) "look_ahead" "Plane.look_ahead" (zQ (top 69) 5) ["self"]) (T:Tx K mg CK C) (br:FnM P w K mg base 2 (C 7) "is_sooner" ["self","moment"] (Z8 K (C 7))) (aR:FnM P w K mg base 5 (C 7) "meet_at" ["self","pair","moment"] (JF K (C 7))) (aj:FnM P w K mg base 1 (C 7) "close_at_a_corner" ["self","pair"] (yN K (C 7))) (aw:FnM P w K mg base 1 (C 7) "is_coming" ["self","pair"] (jr K (C 7))):FnM P w K mg base 6 (C 7) "look_ahead" ["self"] (jO K (C 7)):=by
 refine D.ok0 yb (λvs H Q E h=>?_) (λf cdv A outer s H vs Q E hr h=>?_)
 ·obtain ⟨p,R,gs,dx,fs,wl,g,xs,j,kvs,nw,now,rfl,_⟩:=h;rfl
 obtain ⟨p,R,gs,dx,fs,wl,g,xs,j,kvs,nw,now,rfl,pg,pj,hj,njw,fn,gn,dn,fl,l6,k⟩:=h
 refine ⟨_,(zE (jN T.cl_Plane T.n_Plane_coming (pv 0) yf)
   (zE (ps_thaw (yA PassesOwn.never rfl (JY (zW T.cl_Plane T.n_Plane_joints (pv 0))) (zj (i:=1) yb.nd rfl (Or.inl rfl)) (zE (zO (i:=2) yb.nd rfl (Or.inl rfl) (ZN (Z3 (u100 hr)) (zW T.cl_Plane T.n_Plane_joints (pv 0)) (pv 1) (λ_ _=>rfl)))
   (zF (ze (j2 (zh (ya T.cl_Plane br (by decide) hr zG (pv 0) (zA (pv 2) zB)) (λ_=>rfl)) (jL (y9 (zh (ya T.cl_Plane aR (by decide) hr zG (pv 0) (zA (pv 1) (zA (pv 2) zB))) (λ_=>rfl)) (yO (zh (ya T.cl_Plane aj (by decide) hr zG (pv 0) (zA (pv 1) zB)) (λ_=>rfl)))).pt)).pt (zF (jN T.cl_Plane T.n_Plane_coming (pv 0) (pv 2))) zT)))))
   (zF (jN T.cl_Plane T.n_Plane_due (pv 0) (pe_thaw (@pe_lcT _ _ _ _ _ _ _ _ _ _ _ _ ["self"] [0] rfl (JY (zW T.cl_Plane T.n_Plane_joints (pv 0))) rfl (by decide) rfl (by decide) rfl (by decide) (ZE (j:=0) rfl rfl rfl rfl (.inl rfl)) (λy c h=>h) (YF rfl) (λC z Hc fp=>pts_one (j2 (zh (ya T.cl_Plane aw (by decide) hr zG (pv 1) (zA (pv 0) zB)) (λ_=>rfl)) (jL (zh (ya T.cl_Plane aR (by decide) hr zG (pv 1) (zA (pv 0) (zA (zW T.cl_Plane T.n_Plane_coming (pv 1)) zB))) (λ_=>rfl)))).pt) (λC z Hc fp=>(pv 0)) (λ_=>rfl))))))),?_⟩
 try dsimp only [cxK,cxK0]
 have c1:("coming" : Str)="coming"\/("coming" : Str)="due"\/("coming" : Str)="now"\/("coming" : Str)="gone_through":=.inl rfl;have npj:p≠j:=zq pg.ob hj (by intro z; cases z)
 have npg:p≠g:=zq pg.ob pg.hg (by intro z; cases z)
 have njg:j≠g:=zq hj pg.hg (by intro z; cases z)
 obtain ⟨wkv,hwl⟩:∃ kv,H wl=some (.dT kv):=by
  obtain ⟨_,_,_,_,e,_⟩:=pg.ws;exact ⟨_,e⟩
 have npw:p≠wl:=zq pg.ob hwl (by intro z; cases z)
 have lk:kvs.length<=200:=by
  have z:=congrArg List.length pj.ks;rw [List.length_map,List.length_map] at z;have:=Zz l6;omega
 refine ⟨_,rfl,p,dx,fs,rfl,pg.ob,by omega,?_⟩
 obtain ⟨H1,q1,s1,e1⟩:=newB (H:=H) (p:=p) (.ins (C 7) dx (putF ("coming" : Str) V.non fs));dsimp only;rw [q1];clear q1;have GQ:=s1 _ _ (Ne.symm npj) hj;refine ⟨_,rfl,p,_,_,_,rfl,e1,(ZB (by decide) fs).trans pj.fj,j,kvs,rfl,GQ,λo=>?_⟩
 obtain ⟨H2,q2,s2,e2⟩:=newB (H:=H1) (p:=j) (.frz o (.dT kvs));rw [q2];clear q2;have nt:NoT [p,j] H:=NoT.ins pg.ob (NoT.dct hj NoT.nil);have b2:Buts [p,j] H H2:=(Buts.one s1 (by simp)).trans (Buts.one s2 (by simp))
 have nwa:wl∉[p,j]:=by simp [Ne.symm npw,njw]
 have nga:g∉[p,j]:=by simp [Ne.symm npg,Ne.symm njg]
 have qF:∀ {H3:Hp} {cv:V},Buts [p] H2 H3->H3 p=some (.ins (C 7) dx (putF ("coming" : Str) cv fs))->PlG K H3 (C 7) p R gs dx (putF ("coming" : Str) cv fs) wl g xs/\PlJ K H3 R gs (putF ("coming" : Str) cv fs) j kvs/\FQ K H3 nw now/\H3 j=some (.frz o (.dT kvs)):=λ{H3 cv} s3 e3=>by
  have b3:Buts [p,j] H H3:=b2.trans (s3.mono (by simp))
  have j3:=s3 _ _ (by simp [Ne.symm npj]) e2
  exact ⟨pg.put c1 b3 nt nwa nga e3,pj.put c1 b3 nt (.inr ⟨o,j3⟩),b3.tup nt gn,j3⟩
 refine for_dict (λi σ' H'=>∃ (u1 u2:Option V) (cv:V),σ'=[some (.ref p),u1,u2]/\Buts [p] H2 H'/\H' p=some (.ins (C 7) dx (putF ("coming" : Str) cv fs))/\OptB K H' cv (((prsP gs.length).take i).foldl (je R gs now) none)) ⟨_,_,.non,rfl,Buts.refl,s2 _ _ npj e1,.inl ⟨rfl,rfl⟩⟩ (by rintro _ _ _ _ ⟨_,_,_,_,g',h',_⟩; exact (qF g' h').2.2.2) ?_ ?_
 ·rintro i kv b σ' H3 hk hb ⟨u1,u2,cv,rfl,s3,e3,oc⟩;obtain ⟨q,hq,ek⟩:=Y6 pj.ks hk;rw [ek] at hb;have hin:=jC.mp (List.mem_of_getElem? hq);obtain ⟨cX,eV,gn3,gX⟩:=qF s3 e3;obtain ⟨v,ev,ov⟩:=eV.get (jC.mpr hin);have GR:PlC K H3 now (((prsP gs.length).take i).foldl (je R gs now) none) (putF ("coming" : Str) cv fs) nw cv:=⟨(ZB (by decide) fs).trans fn,gn3,dn,look_eq fs,oc⟩
  generalize hc:((prsP gs.length).take i).foldl (je R gs now) none=cc at oc GR;have stp:((prsP gs.length).take (i+1)).foldl (je R gs now) none=je R gs now cc q:=by rw [zd hq,List.foldl_append,hc]; rfl
  rw [stp];refine ⟨_,rfl,p,_,_,_,rfl,e3,eV.fj,_,rfl,j,v,rfl,.inr ⟨kvs,keyP q,b,eV.hj,rfl,hb,ev.symm⟩,?_⟩;refine ⟨_,rfl,p,_,_,rfl,e3,cX.nm.is_sooner,_,rfl,p,dx,v,now,cc,jntP R gs q,_,nw,cv,rfl,e3,GR,ov,λH4 s4=>⟨_,rfl,?_⟩⟩
  have stay:∀ {H5:Hp},Same H3 H5->je R gs now cc q=cc->∃ (u1 u2:Option V) (cv:V),[some (V.ref p),some (.ref b),some v]=[some (.ref p),u1,u2]/\Buts [p] H2 H5/\H5 p=some (.ins (C 7) dx (putF ("coming" : Str) cv fs))/\OptB K H5 cv (je R gs now cc q):=λ{H5} s5 e=>⟨_,_,cv,rfl,s3.trans (Buts.of s5),s5 _ _ e3,by rw [e]; exact oc.same s5⟩
  cases hs:soonP now cc (jntP R gs q) with
  |false=>
   refine iteF ?_;refine iteF ?_;exact stay s4 (by unfold je; rw [hs]; rfl)
  |true=>
   refine iteT ?_;rcases ov with ⟨en,_⟩|⟨t,pt,et,rfl,gt,dt⟩
   ·rw [en] at hs;cases hs
   refine ⟨_,rfl,p,_,_,rfl,s4 _ _ e3,cX.nm.meet_at,_,rfl,_,rfl,p,b,pt,R,gs,dx,_,wl,g,xs,q,t,rfl,cX.same s4,s4 _ _ hb,hin,Kw.Same.tup s4 gt,dt,λH5 s5=>⟨_,rfl,?_⟩⟩
   have fH:=s4.trans s5;have gd:((jntP R gs q).getD 0)=t:=by rw [et]; rfl
   cases hm:metP R gs t q with
   |true=>
    refine iteT ?_;refine iteT ?_;refine ⟨_,rfl,_,rfl,p,dx,_,rfl,(s4.trans s5 _ _ e3),by have:=Je (f:=("coming" : Str)) (v:=cv) fs; omega,?_⟩
    obtain ⟨H7,q7,s7,e7⟩:=newB (H:=H5) (p:=p) (.ins (C 7) dx (putF ("coming" : Str) (V.ref pt) (putF ("coming" : Str) cv fs)));dsimp only;rw [q7];clear q7;rw [put_put] at e7;refine ⟨_,_,.ref pt,rfl,s3.trans ((Buts.of (s4.trans s5)).trans (Buts.one s7 (List.mem_singleton.mpr rfl))),e7,?_⟩;rw [show je R gs now cc q=jntP R gs q by unfold je; rw [hs,gd,hm]; rfl,et]
    exact .inr ⟨t,pt,rfl,rfl,(Buts.one s7 (List.mem_singleton.mpr rfl):Buts [p] _ _).tup (NoT.ins (s4.trans s5 _ _ e3) NoT.nil) (Kw.Same.tup (s4.trans s5) gt),dt⟩
   |false=>
    refine iteF ?_;refine ⟨_,rfl,p,_,_,rfl,fH _ _ e3,cX.nm.close_at_a_corner,_,rfl,p,b,R,gs,dx,_,j,kvs,q,rfl,fH _ _ e3,eV.same fH,fH _ _ hb,hin,λH6 s6=>⟨_,rfl,?_⟩⟩
    cases hcr:corP R gs q with
    |true=>
     refine iteT ?_;refine ⟨_,rfl,_,rfl,p,dx,_,rfl,(fH.trans s6 _ _ e3),by have:=Je (f:=("coming" : Str)) (v:=cv) fs; omega,?_⟩
     obtain ⟨H7,q7,s7,e7⟩:=newB (H:=H6) (p:=p) (.ins (C 7) dx (putF ("coming" : Str) (V.ref pt) (putF ("coming" : Str) cv fs)));dsimp only;rw [q7];clear q7;rw [put_put] at e7;refine ⟨_,_,.ref pt,rfl,s3.trans ((Buts.of (fH.trans s6)).trans (Buts.one s7 (List.mem_singleton.mpr rfl))),e7,?_⟩;rw [show je R gs now cc q=jntP R gs q by unfold je; rw [hs,gd,hm,hcr]; rfl,et]
     exact .inr ⟨t,pt,rfl,rfl,(Buts.one s7 (List.mem_singleton.mpr rfl):Buts [p] _ _).tup (NoT.ins (fH.trans s6 _ _ e3) NoT.nil) (Kw.Same.tup (fH.trans s6) gt),dt⟩
    |false=>
     refine iteF ?_;exact stay (fH.trans s6) (by unfold je; rw [hs,gd,hm,hcr]; rfl)
 ·rintro σ' H3 ⟨u1,u2,cv,rfl,s3,e3,oc⟩;obtain ⟨cX,eV,gn3,gX⟩:=qF s3 e3;have lkp:kvs.length=(prsP gs.length).length:=by
   have z:=congrArg List.length pj.ks;rwa [List.length_map,List.length_map] at z
  rw [lkp,List.take_length] at oc
  change OptB K H3 cv (comP R gs now) at oc
  refine ⟨j,o,kvs,GQ,gX,?_⟩;obtain ⟨H4,q4,s4,e4⟩:=newB (H:=H3) (p:=j) (.dT kvs);rw [q4];clear q4;have p4:=s4 _ _ npj e3;have b4:Buts [p,j] H H4:=(b2.trans (s3.mono (by simp))).trans (Buts.one s4 (by simp))
  refine ⟨_,rfl,p,_,_,_,rfl,p4,eV.fj,j,kvs,rfl,e4,λo'=>?_⟩
  obtain ⟨H5,q5,s5,e5⟩:=newB (H:=H4) (p:=j) (.frz o' (.dT kvs));rw [q5];clear q5;have p5:=s5 _ _ npj p4;have b5:Buts [p,j] H H5:=b4.trans (Buts.one s5 (by simp))
  have iL:=pg.put c1 b5 nt nwa nga p5;have ow:PlJ K H5 R gs (putF ("coming" : Str) cv fs) j kvs:=pj.put c1 b5 nt (.inr ⟨o',e5⟩);have gY:OptB K H5 cv (comP R gs now):=oc.buts ((Buts.one s4 (by simp)).trans (Buts.one s5 (by simp)):Buts [j] H3 H5) (NoT.frz gX NoT.nil)
  have fc:=look_eq (f:=("coming" : Str)) (v:=cv) fs;refine lc_dictF (ps:=prsP gs.length) (λq=>cmgP R gs (comP R gs now) q && metP R gs ((comP R gs now).getD 0) q) pj.ks e5 (Nat.le_trans lk (by decide)) ?_ ?_ ?_
  ·intro q b H6 hq s6 hb Q' hQ;have hin:=jC.mp hq;refine ⟨_,rfl,p,_,_,rfl,s6 _ _ p5,iL.nm.is_coming,_,rfl,p,b,R,gs,dx,_,j,kvs,q,_,cv,rfl,s6 _ _ p5,ow.same s6,hb,hin,fc,gY.same s6,_,rfl,?_⟩;cases hc:cmgP R gs (comP R gs now) q with
   |false=>
    refine iteF ?_;have z:=hQ H6 (Same.refl _);rw [hc,Bool.false_and] at z;exact z
   |true=>
    refine iteT ?_;rcases gY.same s6 with ⟨en,_⟩|⟨t,pt,et,ecv,gt,dt⟩
    ·unfold cmgP at hc;rw [en] at hc;cases hc
    refine ⟨_,rfl,p,_,_,rfl,s6 _ _ p5,iL.nm.meet_at,_,rfl,_,rfl,p,_,_,_,rfl,s6 _ _ p5,fc,p,b,pt,R,gs,dx,_,wl,g,xs,q,t,by rw [ecv]; rfl,iL.same s6,hb,hin,gt,dt,λH7 s7=>⟨_,rfl,?_⟩⟩
    have z:=hQ H7 s7;rw [hc,Bool.true_and,et] at z;exact z
  ·intro b H6 Q' hQ;exact ⟨_,rfl,hQ⟩
  ·intro H6 ds s6 al q hq;obtain ⟨H7,q7,s7,e7⟩:=newO hq (.lst ds);rw [q7];clear q7;have qG:=s6.trans s7;have j7:=qG _ _ e5;refine ⟨j,o',kvs,e4,j7,?_⟩;obtain ⟨H8,q8,s8,e8⟩:=newB (H:=H7) (p:=j) (.dT kvs);rw [q8];clear q8;have p7:=qG _ _ p5;have p8:=s8 _ _ npj p7;refine ⟨_,rfl,p,dx,_,rfl,p8,by have:=Je (f:=("coming" : Str)) (v:=cv) fs; omega,?_⟩
   obtain ⟨H9,q9,s9,e9⟩:=newB (H:=H8) (p:=p) (.ins (C 7) dx (putF ("due" : Str) (V.ref q) (putF ("coming" : Str) cv fs)));dsimp only;rw [q9];clear q9;have nq:H q=none:=by
    cases z:H q with
    |none=>rfl
    |some u=>
     by_cases e:q=p
     ·subst e;rw [(s6 _ _ p5)] at hq;cases hq
     ·by_cases e':q=j
      ·subst e';rw [s6 _ _ e5] at hq;cases hq
      ·have y:=s6 _ _ (b5 q u (by simp [e,e']) z)
       rw [hq] at y;cases y
   have nqp:q≠p:=λz=>by subst z; rw [pg.ob] at nq; cases nq
   have nqj:q≠j:=λz=>by subst z; rw [hj] at nq; cases nq
   have GS:Buts [p,j] H5 H9:=(Buts.of qG).trans ((Buts.one s8 (by simp)).trans (Buts.one s9 (by simp)))
   have oy:NoT [p,j] H5:=NoT.ins p5 (NoT.frz e5 NoT.nil);have oz:NoT [p,j] H7:=NoT.ins p7 (NoT.frz j7 NoT.nil);have i7:Buts [p,j] H7 H9:=(Buts.one s8 (by simp)).trans (Buts.one s9 (by simp))
   refine k cv q ds H9 (λa u na ha=>?_) nq e9 (gY.buts GS oy) (i7 _ _ (by simp [nqp,nqj]) e7) (yt (z8 al s7) i7 oz)
   by_cases e':a=j
   ·subst e';rw [hj] at ha;cases ha
    exact s9 _ _ na e8
   ·exact GS _ _ (by simp [na,e']) (b5 a u (by simp [na,e']) ha)
noncomputable def jn (K:PySem.W.Frag) (C:Addr):Sp:=λvs H Q _=>∃ (p u dx g:Addr) (fs:List (Str × V)) (xs:List V) (gs:List Bq) (t:Rat),vs=[.ref p,.ref u]/\H p=some (.ins C dx fs)/\fs.lookup ("goings" : Str)=some (.ref g)/\H g=some (.lst xs)/\Al2 (BqH K 1990 H) xs gs/\gs.length<=6/\FQ K H u t/\FB 2000 t/\∀ (r:Addr) (zs:List V) (H1:Hp),Same H H1->H r=none->H1 r=some (.lst zs)->Al2 (BqH K 5990 H1) zs (gs.map (atB t))->Q (.ref r) H1
theorem sc_Plane_bodies_at:FnScope ["self","moment"] ["self","moment"] (zD (zQ (top 69) 4)):={}
theorem ok_Plane_bodies_at (D:DfM K (C 7) "bodies_at" "Plane.bodies_at" (zQ (top 69) 4) ["self","moment"]) (T:Tx K mg CK C) (bp:Fn P w K mg base 4 "box_at" ["box","moment"] (Yz K)):FnM P w K mg base 5 (C 7) "bodies_at" ["self","moment"] (jn K (C 7)):=by
 refine D.ok0 sc_Plane_bodies_at (λvs H Q E h=>?_) (λf cdv A outer s H vs Q E hr h=>?_)
 ·obtain ⟨p,u,dx,g,fs,xs,gs,t,rfl,_⟩:=h;rfl
 obtain ⟨p,u,dx,g,fs,xs,gs,t,rfl,hp,fg,hg,al,l6,gt,dt,k⟩:=h;refine ⟨_,(zF (zM (@JD _ _ _ _ _ _ _ _ _ _ ["moment"] [1] rfl (yP (zW T.cl_Plane T.n_Plane_goings (pv 0))) rfl (by decide) rfl (by decide) rfl (by decide) (ZE (j:=1) rfl rfl rfl rfl (.inl rfl)) (λy c h=>h) (YF rfl) (λC z Hc fp=>(zJ bp (by decide) hr (by rfl) zG (zA (pv 0) (zA (pv 1) zB)))) (λ_=>rfl)))),?_⟩
 try dsimp only [cxK,cxK0]
 have hz:=Al2.len al;refine ⟨_,rfl,p,_,_,_,rfl,hp,fg,g,rfl,⟨_,SqL.of hg⟩,ZL (K:=K) (xs:=xs) (λi zs H'=>i<=xs.length/\Same H H'/\Al2 (BqH K 5990 H') zs ((gs.take i).map (atB t))) ⟨Nat.zero_le _,Same.refl _,trivial⟩ (by rw [hz]; exact Nat.le_trans l6 (by decide)) (λi zs H1 z=>by obtain ⟨l,_,e⟩:=z; have:=Al2.len e; simp at this; omega) (λi zs H1 z=>by obtain ⟨_,g,_⟩:=z; exact SqL.of (g _ _ hg)) ?_ ?_⟩
 ·rintro i x zs H1 Q1 hx ⟨hl,s1,hy⟩ kq;have hi:i < xs.length:=(List.getElem?_eq_some_iff.mp hx).1;obtain ⟨b,hb,hxb⟩:=Al2.get (zY al s1) hx;refine ⟨_,rfl,_,rfl,x,b,u,t,rfl,hxb,Kw.Same.tup s1 gt,dt,λr2 H2 s2 one=>?_⟩
  refine kq _ _ ⟨hi,s1.trans s2,?_⟩;rw [zd hb,List.map_append];exact Al2.snoc (zY hy s2) one
 ·rintro zs H1 ⟨_,s1,hy⟩ pl hpl;rw [hz,List.take_length] at hy;obtain ⟨H2,q2,s2,e2⟩:=newO hpl (.lst zs);rw [q2];clear q2;exact k pl zs H2 (s1.trans s2) (ym s1 hpl) e2 (zY hy s2)
noncomputable def wdP (d:Nat):V:=strV (if d=0 then "across" else "along")
noncomputable def MtP (K:PySem.W.Frag) (H:Hp) (v:V) (m:Rat × Pr):Prop:=∃ r a:Addr,v=.ref r/\SqT K H r [.ref a,wdP m.2.1,.int m.2.2.1,.int m.2.2.2]/\FQ K H a m.1/\FB 2000 m.1
theorem MtP.same {K:PySem.W.Frag} {H H':Hp} {v:V} {m:Rat × Pr} (h:MtP K H v m) (s:Same H H'):MtP K H' v m:=by
 obtain ⟨r,a,e,h1,h2,h3⟩:=h;exact ⟨r,a,e,Kw.Same.tup s h1,Kw.Same.tup s h2,h3⟩
theorem ZX {K:PySem.W.Frag} {H H':Hp} {vs:List V} {ms:List (Rat × Pr)} (h:Al2 (MtP K H) vs ms) (s:Same H H'):Al2 (MtP K H') vs ms:=Al2.imp (λ_ _ z=>z.same s) h
theorem MtP.buts {K:PySem.W.Frag} {H H':Hp} {v:V} {m:Rat × Pr} {as:List Addr} (h:MtP K H v m) (s:Buts as H H') (n:NoT as H):MtP K H' v m:=by
 obtain ⟨r,a,e,h1,h2,h3⟩:=h;exact ⟨r,a,e,s.tup n h1,s.tup n h2,h3⟩
theorem mtp_buts {K:PySem.W.Frag} {H H':Hp} {vs:List V} {ms:List (Rat × Pr)} {as:List Addr} (h:Al2 (MtP K H) vs ms) (s:Buts as H H') (n:NoT as H):Al2 (MtP K H') vs ms:=Al2.imp (λ_ _ z=>z.buts s n) h
noncomputable def Yq (K:PySem.W.Frag) (C:Addr):Sp:=λvs H Q _=>∃ (p dx:Addr) (fs:List (Str × V)) (du:Addr) (ds:List V) (ps:List Pr) (t:Rat) (pc:Addr),vs=[.ref p]/\H p=some (.ins C dx fs)/\fs.lookup ("due" : Str)=some (.ref du)/\H du=some (.lst ds)/\Al2 (PrH H) ds ps/\ps.length<=200/\(∀ q∈ps,q.1<=1)/\fs.lookup ("coming" : Str)=some (.ref pc)/\FQ K H pc t/\FB 2000 t/\∀ (r:Addr) (zs:List V) (H1:Hp),Same H H1->H r=none->H1 r=some (.lst zs)->Al2 (MtP K H1) zs (ps.map λq=>(t,q))->Q (.ref r) H1
theorem sc_Plane_meetings:FnScope ["self"] ["self"] (zD (zQ (top 69) 10)):={}
theorem ok_Plane_meetings (D:DfM K (C 7) "meetings" "Plane.meetings" (zQ (top 69) 10) ["self"]) (T:Tx K mg CK C):FnM P w K mg base 1 (C 7) "meetings" ["self"] (Yq K (C 7)):=by
 refine D.ok0 sc_Plane_meetings (λvs H Q E h=>?_) (λf cdv A outer s H vs Q E hr h=>?_)
 ·obtain ⟨p,dx,fs,du,ds,ps,t,pc,rfl,_⟩:=h;rfl
 obtain ⟨p,dx,fs,du,ds,ps,t,pc,rfl,hp,fd,hd,al,l2,w1,fc,gt,dt,k⟩:=h;refine ⟨_,(zF (zM (@JD _ _ _ _ _ _ _ _ _ _ ["self"] [0] rfl (yP (zW T.cl_Plane T.n_Plane_due (pv 0))) rfl (by decide) rfl (by decide) rfl (by decide) (ZE (j:=0) rfl rfl rfl rfl (.inl rfl)) (λy c h=>h) (YF rfl) (λC z Hc fp=>(zP (zA (zW T.cl_Plane T.n_Plane_coming (pv 1)) (zA (zH (ixT (K:=K) rfl) (pe_globS3 (K:=K) rfl (by rfl) T.k_WORDS) (zH (ixT (K:=K) rfl) (pv 0) zC (λ_ _=>rfl)) (λ_ _=>rfl)) (zA (zH (ixT (K:=K) rfl) (pv 0) zC (λ_ _=>rfl)) (zA (zH (ixT (K:=K) rfl) (pv 0) zC (λ_ _=>rfl)) zB)))))) (λ_=>rfl)))),?_⟩
 try dsimp only [cxK,cxK0]
 have hz:=Al2.len al;refine ⟨_,rfl,p,_,_,_,rfl,hp,fd,du,rfl,⟨_,SqL.of hd⟩,ZL (K:=K) (xs:=ds) (λi zs H'=>i<=ds.length/\Same H H'/\Al2 (MtP K H') zs ((ps.take i).map λq=>(t,q))) ⟨Nat.zero_le _,Same.refl _,trivial⟩ (by rw [hz]; exact Nat.le_trans l2 (by decide)) (λi zs H1 z=>by obtain ⟨l,_,e⟩:=z; have:=Al2.len e; simp at this; omega) (λi zs H1 z=>by obtain ⟨_,g,_⟩:=z; exact SqL.of (g _ _ hd)) ?_ ?_⟩
 ·rintro i x zs H1 Q1 hx ⟨hl,s1,hy⟩ kq;have hi:i < ds.length:=(List.getElem?_eq_some_iff.mp hx).1;obtain ⟨q,hq,b,rfl,hb⟩:=Al2.get (z8 al s1) hx;have hqt:SqT K H1 b [.int (q.1:Int),.int q.2.1,.int q.2.2]:=SqT.of hb;have qu:=w1 q (List.mem_of_getElem? hq);refine ⟨_,rfl,p,_,_,_,rfl,s1 _ _ hp,fc,λN hN=>?_⟩
  have hN':SqT K H1 N [strV "across",strV "along"]:=hN H1;have at':atI [strV "across",strV "along"] (q.1:Int)=some (wdP q.1):=by
   rcases d01 qu with e|e
   ·rw [e];rfl
   ·rw [e];rfl
  refine ⟨_,rfl,b,_,_,_,rfl,rfl,hqt,rfl,N,_,_,_,rfl,rfl,hN',at',_,rfl,b,_,_,_,rfl,rfl,hqt,rfl,_,rfl,b,_,_,_,rfl,rfl,hqt,rfl,by show 4<=sizeLine; decide,?_⟩
  intro p2 n2;obtain ⟨H2,q2,s2,e2⟩:=newO n2 (.tup [.ref pc,wdP q.1,.int q.2.1,.int q.2.2]);rw [q2];clear q2;refine kq _ _ ⟨hi,s1.trans s2,?_⟩;rw [zd hq,List.map_append];exact Al2.snoc (ZX hy s2) ⟨p2,pc,rfl,SqT.of e2,Kw.Same.tup (s1.trans s2) gt,dt⟩
 ·rintro zs H1 ⟨_,s1,hy⟩ pl hpl;rw [hz,List.take_length] at hy;obtain ⟨H2,q2,s2,e2⟩:=newO hpl (.lst zs);rw [q2];clear q2;exact k pl zs H2 (s1.trans s2) (ym s1 hpl) e2 (ZX hy s2)
noncomputable def yE (l:List Int):List V:=l.map V.int
noncomputable def jq (K:PySem.W.Frag) (C:Addr):Sp:=λvs H Q _=>∃ (p dx:Addr) (fs:List (Str × V)) (du:Addr) (ds:List V) (ps:List Pr),vs=[.ref p]/\H p=some (.ins C dx fs)/\fs.lookup ("due" : Str)=some (.ref du)/\H du=some (.lst ds)/\Al2 (PrH H) ds ps/\ps.length<=200/\∀ (r:Addr) (H1:Hp),Same H H1->H1 r=some (.lst (yE (numP ps)))->Q (.ref r) H1
theorem jT:FnScope ["self","numbers"] ["self"] (zD (zQ (top 69) 11)):={}
theorem ok_Plane_boxes_met (D:DfM K (C 7) "boxes_met" "Plane.boxes_met" (zQ (top 69) 11) ["self"]) (T:Tx K mg CK C):FnM P w K mg base 1 (C 7) "boxes_met" ["self"] (jq K (C 7)):=by
 refine D.ok0 jT (λvs H Q E h=>?_) (λf cdv A outer s H vs Q E hr h=>?_)
 ·obtain ⟨p,dx,fs,du,ds,ps,rfl,_⟩:=h;rfl
 obtain ⟨p,dx,fs,du,ds,ps,rfl,hp,fd,hd,al,l2,k⟩:=h
 refine ⟨_,(zE (zO (i:=1) jT.nd rfl (Or.inl rfl) (zN YB (@JD _ _ _ _ _ _ _ _ _ _ [] [] rfl (yP (zW T.cl_Plane T.n_Plane_due (pv 0))) rfl (by decide) rfl (by decide) rfl (by decide) Yh (λ_ _ h=>nomatch h) (JS rfl) (λC z Hc fp=>(zH (ixT (K:=K) rfl) (pv 0) zC (λ_ _=>rfl))) (λ_=>rfl)) (@JD _ _ _ _ _ _ _ _ _ _ [] [] rfl (yP (zW T.cl_Plane T.n_Plane_due (pv 0))) rfl (by decide) rfl (by decide) rfl (by decide) Yh (λ_ _ h=>nomatch h) (JS rfl) (λC z Hc fp=>(zH (ixT (K:=K) rfl) (pv 0) zC (λ_ _=>rfl))) (λ_=>rfl))))
   (zF (zM (@pe_lcT _ _ _ _ _ _ _ _ _ _ _ _ [] [] rfl (yP (pv 1)) rfl (by decide) rfl (by decide) rfl (by decide) Yh (λ_ _ h=>nomatch h) (JS rfl) (λC z Hc fp=>pts_one (zR YM (pv 0) zC (zU _))) (λC z Hc fp=>(pv 0)) (λ_=>rfl))))),?_⟩
 try dsimp only [cxK,cxK0]
 have hz:=Al2.len al;refine ⟨_,rfl,p,_,_,_,rfl,hp,fd,du,rfl,⟨_,SqL.of hd⟩,ZL (K:=K) (xs:=ds) (λi zs H'=>i<=ds.length/\Same H H'/\zs=yE ((ps.take i).map (·.2.1))) ⟨Nat.zero_le _,Same.refl _,rfl⟩ (by rw [hz]; exact Nat.le_trans l2 (by decide)) (λi zs H1 z=>by obtain ⟨l,_,e⟩:=z; rw [e]; simp [yE]; omega) (λi zs H1 z=>by obtain ⟨_,g,_⟩:=z; exact SqL.of (g _ _ hd)) ?_ ?_⟩
 ·rintro i x zs H1 Q1 hx ⟨hl,s1,rfl⟩ kq;have hi:i < ds.length:=(List.getElem?_eq_some_iff.mp hx).1;obtain ⟨q,hq,b,rfl,hb⟩:=Al2.get (z8 al s1) hx;have hqt:SqT K H1 b [.int (q.1:Int),.int q.2.1,.int q.2.2]:=SqT.of hb;refine ⟨_,rfl,b,_,_,_,rfl,rfl,hqt,rfl,?_⟩;refine kq _ _ ⟨hi,s1,?_⟩;rw [zd hq];simp [yE]
 rintro zs H1 ⟨_,s1,rfl⟩ r1 ej;rw [hz,List.take_length];obtain ⟨H2,q2,s2,e2⟩:=newO ej (.lst (yE (ps.map (·.2.1))));rw [q2];clear q2;have ak:=s1.trans s2;refine ⟨_,rfl,p,_,_,_,rfl,ak _ _ hp,fd,du,rfl,⟨_,SqL.of (ak _ _ hd)⟩,ZL (K:=K) (xs:=ds) (λi zs H'=>i<=ds.length/\Same H2 H'/\zs=yE ((ps.take i).map (·.2.2))) ⟨Nat.zero_le _,Same.refl _,rfl⟩ (by rw [hz]; exact Nat.le_trans l2 (by decide)) (λi zs H1 z=>by obtain ⟨l,_,e⟩:=z; rw [e]; simp [yE]; omega) (λi zs H1 z=>by obtain ⟨_,g,_⟩:=z; exact SqL.of (g _ _ (ak _ _ hd))) ?_ ?_⟩
 ·rintro i x zs H3 Q1 hx ⟨hl,s3,rfl⟩ kq;have hi:i < ds.length:=(List.getElem?_eq_some_iff.mp hx).1;obtain ⟨q,hq,b,rfl,hb⟩:=Al2.get (z8 al (ak.trans s3)) hx;have hqt:SqT K H3 b [.int (q.1:Int),.int q.2.1,.int q.2.2]:=SqT.of hb;refine ⟨_,rfl,b,_,_,_,rfl,rfl,hqt,rfl,?_⟩;refine kq _ _ ⟨hi,s3,?_⟩;rw [zd hq];simp [yE]
 rintro zs H3 ⟨_,s3,rfl⟩ r3 gj;rw [hz,List.take_length];obtain ⟨H4,q4,s4,e4⟩:=newO gj (.lst (yE (ps.map (·.2.2))));rw [q4];clear q4;have l4:(yE (ps.map (·.2.1))).length+(yE (ps.map (·.2.2))).length<=400:=by simp [yE]; omega
 refine ⟨r1,r3,_,_,rfl,rfl,(s3.trans s4) _ _ e2,e4,Nat.le_trans l4 (by decide),?_⟩
 intro p5 n5;obtain ⟨H5,q5,s5,e5⟩:=newO n5 (.lst (yE (ps.map (·.2.1))++yE (ps.map (·.2.2))));rw [q5];clear q5;have GT:H5 p5=some (.lst (yE (ps.map (·.2.1)++ps.map (·.2.2)))):=by rw [e5]; simp [yE]
 have aS:=ak.trans (s3.trans (s4.trans s5));refine ⟨_,rfl,p5,rfl,⟨_,SqL.of GT⟩,lc_filter (K:=K) (λv=>match v with|.int i=>decide (0<=i)|_=>false) (SqL.of GT) (Nat.le_trans (show (yE (ps.map (·.2.1)++ps.map (·.2.2))).length<=400 by simp [yE]; omega) (by decide)) ?_ ?_ ?_⟩
 ·intro x hx Q1 q1;obtain ⟨i,_,rfl⟩:=List.mem_map.mp hx;exact ⟨_,rfl,_,_,rfl,rfl,_,rfl,q1⟩
 ·intro x hx Q1 q1;exact ⟨_,rfl,q1⟩
 ·intro l hln;have ef:((yE (ps.map (·.2.1)++ps.map (·.2.2))).filter λv=>match v with|.int i=>decide (0<=i)|_=>false)=yE (numP ps):=by
   unfold yE numP;rw [List.filter_map];rfl
  rw [ef];obtain ⟨H6,q6,s6,e6⟩:=newO hln (.lst (yE (numP ps)));rw [q6];clear q6;exact k l H6 (aS.trans s6) e6
noncomputable def jD (K:PySem.W.Frag) (C:Addr):Sp:=λvs H Q _=>∃ (p dx:Addr) (fs:List (Str × V)) (du:Addr) (ds:List V) (ps:List Pr),vs=[.ref p]/\H p=some (.ins C dx fs)/\fs.lookup ("due" : Str)=some (.ref du)/\H du=some (.lst ds)/\Al2 (PrH H) ds ps/\ps.length<=200/\fs.lookup ("boxes_met" : Str)=none/\∀ (H1:Hp),Same H H1->Q (.bl (twoP ps)) H1
theorem yZ:FnScope ["self","numbers"] ["self"] (zD (zQ (top 69) 13)):={}
theorem ok_Plane_has_two_meetings (D:DfM K (C 7) "has_two_meetings" "Plane.has_two_meetings" (zQ (top 69) 13) ["self"]) (T:Tx K mg CK C) (ay:FnM P w K mg base 1 (C 7) "boxes_met" ["self"] (jq K (C 7))):FnM P w K mg base 2 (C 7) "has_two_meetings" ["self"] (jD K (C 7)):=by
 refine D.ok0 yZ (λvs H Q E h=>?_) (λf cdv A outer s H vs Q E hr h=>?_)
 ·obtain ⟨p,dx,fs,du,ds,ps,rfl,_⟩:=h;rfl
 obtain ⟨p,dx,fs,du,ds,ps,rfl,hp,fd,hd,al,l2,nm,k⟩:=h
 refine ⟨_,(zE (zO (i:=1) yZ.nd rfl (Or.inl rfl) (Zg T.cl_Plane ay (by decide) hr zG (pv 0)))
   (zF (zM (yy Z5 (zS call_lenS (by rfl) T.b_len PyProof.Rows.Boot.«len» (zA (yX (call_setI rfl) (by rfl) T.b_set PyProof.Rows.Boot.«set» (zA (pv 1) zB)) zB)) (zS zo (by rfl) T.b_len PyProof.Rows.Boot.«len» (zA (pv 1) zB)) (zU _))))),?_⟩
 try dsimp only [cxK,cxK0]
 refine ⟨_,rfl,p,_,_,rfl,hp,nm,p,dx,fs,du,ds,ps,rfl,hp,fd,hd,al,l2,λr H1 s1 e1=>?_⟩
 have qH:(numP ps).length < 4000:=by
  have z:=List.length_filter_le (λi=>decide ((0:Int)<=i)) (ps.map (·.2.1)++ps.map (·.2.2))
  unfold numP;simp only [List.length_append,List.length_map] at z;omega
 refine ⟨_,rfl,r,numP ps,rfl,SqL.of e1,qH,λl hl=>?_⟩
 obtain ⟨H2,q2,s2,e2⟩:=newO hl (.set (λk=>(dd (numP ps)).any (· == k)) (dd (numP ps)).length)
 rw [q2];clear q2;refine ⟨l,_,_,rfl,e2,_,rfl,_,_,rfl,.inl ⟨_,SqL.of (s2 _ _ e1),rfl⟩,_,_,rfl,rfl,?_⟩;have z:=k H2 (s1.trans s2);have e:twoP ps=decide (((dd (numP ps)).length:Int) < ((yE (numP ps)).length:Int)):=by
  unfold twoP;refine decide_eq_decide.mpr ?_;rw [<- dd_two];simp [yE]
 rw [e] at z;exact z
noncomputable def jx (K:PySem.W.Frag) (C:Addr):Sp:=λvs H Q _=>∃ (p l:Addr) (R:Rat × Rat) (gs:List Bq) (dx:Addr) (fs:List (Str × V)) (wl g:Addr) (xs:List V) (j:Addr) (kvs:List (List Key × V)) (du:Addr) (ds:List V) (ps:List Pr) (ys:List V) (bs:List Bq),vs=[.ref p,.ref l]/\PlG K H C p R gs dx fs wl g xs/\PlJ K H R gs fs j kvs/\H j=some (.dT kvs)/\wl≠j/\fs.lookup ("due" : Str)=some (.ref du)/\H du=some (.lst ds)/\Al2 (PrH H) ds ps/\ps.length<=200/\gs.length<=6/\H l=some (.lst ys)/\Al2 (BqH K 5990 H) ys bs/\bs.length=gs.length/\∀ (H1:Hp),Same H H1->Q (.bl (hemP R bs ps)) H1
theorem yM:FnScope ["self","boxes","near","pair"] ["self","boxes"] (zD (zQ (top 69) 14)):={}
theorem ok_Plane_is_hemmed_in (D:DfM K (C 7) "is_hemmed_in" "Plane.is_hemmed_in" (zQ (top 69) 14) ["self","boxes"]) (T:Tx K mg CK C) (cN:Fn P w K mg base 5 "are_beside" ["one","other","way"] (Z6 K)) (ai:FnM P w K mg base 1 (C 7) "one_of" ["self","pair","boxes"] (jY K (C 7))) (ae:FnM P w K mg base 1 (C 7) "other_of" ["self","pair","boxes"] (yz K (C 7))):FnM P w K mg base 6 (C 7) "is_hemmed_in" ["self","boxes"] (jx K (C 7)):=by
 refine D.ok0 yM (λvs H Q E h=>?_) (λf cdv A outer s H vs Q E hr h=>?_)
 ·obtain ⟨p,l,R,gs,dx,fs,wl,g,xs,j,kvs,du,ds,ps,ys,bs,rfl,_⟩:=h;rfl
 obtain ⟨p,l,R,gs,dx,fs,wl,g,xs,j,kvs,du,ds,ps,ys,bs,rfl,pg,pj,hj,njw,fd,hd,al,l2,l6,hl,alb,lb,k⟩:=h
 refine ⟨_,(zE (ps_thaw (yA PassesOwn.never rfl (JY (zW T.cl_Plane T.n_Plane_joints (pv 0))) (zj (i:=2) yM.nd rfl (Or.inl rfl)) (zF (ze (zh (zJ cN (by decide) hr (by rfl) zG (zA (ya T.cl_Plane ai (by decide) hr zG (pv 0) (zA (pv 2) (zA (pv 1) zB))) (zA (ya T.cl_Plane ae (by decide) hr zG (pv 0) (zA (pv 2) (zA (pv 1) zB))) (zA (zH ix_tup (pv 2) zC (λ_ _=>rfl)) zB)))) (λ_=>rfl)) (zF (yA PassesOwn.never rfl (yP (zW T.cl_Plane T.n_Plane_due (pv 0))) (zj (i:=3) yM.nd rfl (Or.inl rfl)) (zF (ze (j2 (zR ji (zH ix_tup (pv 3) zC (λ_ _=>rfl)) (zH ix_tup (pv 2) zC (λ_ _=>rfl)) (zU _)) (jL (y9 (zR ji (zH ix_tup (pv 3) zC (λ_ _=>rfl)) (zH ix_tup (pv 2) zC (λ_ _=>rfl)) (zU _)) (yO (zR ji (zH ix_tup (pv 3) zC (λ_ _=>rfl)) (zH ix_tup (pv 2) zC (λ_ _=>rfl)) (zU _)))).pt)).pt (zF (zM yW)) zT)))) zT))))
   (zF (zM yW))),?_⟩
 try dsimp only [cxK,cxK0]
 refine ⟨_,rfl,p,_,_,_,rfl,pg.ob,pj.fj,j,kvs,rfl,hj,λo=>?_⟩
 obtain ⟨H2,q2,s2,e2⟩:=newB (H:=H) (p:=j) (.frz o (.dT kvs));rw [q2];clear q2;have npj:p≠j:=zq pg.ob hj (by intro z; cases z)
 have njg:g≠j:=zq pg.hg hj (by intro z; cases z)
 have njd:du≠j:=zq hd hj (by intro z; cases z)
 have njl:l≠j:=zq hl hj (by intro z; cases z)
 have nt:NoT [j] H:=NoT.dct hj NoT.nil;have b2:Buts [j] H H2:=Buts.one s2 (by simp)
 have ck:=pg.buts b2 nt (by simp [npj]) (by simp [njw]) (by simp [njg])
 have i8:=yg alb b2 nt;have gl:=yt al b2 nt;have nZ:=s2 _ _ njl hl;have gh:=s2 _ _ njd hd;have hzd:=Al2.len al;have lkp:kvs.length=(prsP bs.length).length:=by
  have z:=congrArg List.length pj.ks;rw [List.length_map,List.length_map] at z;rw [lb];exact z
 have out:∀ {H3:Hp} (c:Bool),Same H2 H3->c=hemP R bs ps->Thw H H3 (Q (.bl c)):=λ{H3} c s3 ec=>by
  refine ⟨j,o,kvs,hj,s3 _ _ e2,?_⟩;obtain ⟨H4,q4,s4,e4⟩:=newB (H:=H3) (p:=j) (.dT kvs);rw [q4];clear q4;rw [ec];exact k H4 (thawed (v:=.dT kvs) hj s2 s3 s4 e4)
 refine for_dict (λi σ' H'=>∃ (u1 u2:Option V),σ'=[some (.ref p),some (.ref l),u1,u2]/\Same H2 H'/\((prsP bs.length).take i).any (λn=>besB (boxB R bs n.1 n.2.1) (boxB R bs n.1 n.2.2) n.1 && ps.any λp=>decide (p.1=n.1) && (decide (p.2.1=n.2.2) || decide (p.2.2=n.2.1)))=false) ⟨_,_,rfl,Same.refl _,rfl⟩ (by rintro _ _ _ _ ⟨_,_,_,g',_⟩; exact g' _ _ e2) ?_ ?_
 ·rintro i kv b σ' H3 hk hb ⟨u1,u2,rfl,s3,an⟩;obtain ⟨q,hq,ek⟩:=Y6 pj.ks hk;rw [ek] at hb;have hin:=jC.mp (List.mem_of_getElem? hq);rw [<- lb] at hq hin;have cX:=ck.same s3;have hqt:SqT K H3 b [.int (q.1:Int),.int q.2.1,.int q.2.2]:=SqT.of hb;refine ⟨_,rfl,p,_,_,rfl,cX.ob,cX.nm.one_of,_,rfl,_,rfl,p,b,l,R,gs,dx,fs,wl,g,xs,q,ys,bs,5990,rfl,cX,hb,s3 _ _ nZ,zY i8 s3,hin,by decide,λv4 H4 s4 k4=>?_⟩
  have GU:=s3.trans s4;have cu:=cX.same s4;refine ⟨_,rfl,p,_,_,rfl,cu.ob,cu.nm.other_of,_,rfl,_,rfl,p,b,l,R,gs,dx,fs,wl,g,xs,q,ys,bs,5990,rfl,cu,s4 _ _ hb,GU _ _ nZ,zY i8 GU,hin,by decide,λv5 H5 s5 k5=>?_⟩
  have qI:=s4.trans s5;have qJ:=Kw.Same.tup qI hqt;refine ⟨_,rfl,b,_,_,_,rfl,rfl,qJ,rfl,v4,v5,_,_,q.1,rfl,k4.same s5,k5,hin.1,λH6 s6=>⟨_,rfl,?_⟩⟩
  have cY:=s3.trans (qI.trans s6);have i9:=qI.trans s6;have gZ:=Kw.Same.tup i9 hqt;cases hc:besB (boxB R bs q.1 q.2.1) (boxB R bs q.1 q.2.2) q.1 with
  |false=>
   refine iteF ?_;exact ⟨_,_,rfl,cY,jE _ hq an (by rw [hc]; rfl)⟩
  |true=>
   refine iteT ?_;refine ⟨_,rfl,p,_,_,_,rfl,cY _ _ ck.ob,fd,du,rfl,⟨_,SqL.of (cY _ _ gh)⟩,jS (K:=K) (a:=du) (xs:=ds) (λm σ1 H'=>∃ (u2:Option V),σ1=[some (.ref p),some (.ref l),some (.ref b),u2]/\H'=H6/\(ps.take m).any (λp=>decide (p.1=q.1) && (decide (p.2.1=q.2.2) || decide (p.2.2=q.2.1)))=false) ⟨_,rfl,rfl,rfl⟩ (by rintro _ _ _ _ ⟨_,_,rfl,_⟩; exact SqL.of (cY _ _ gh)) ?_ ?_⟩
   ·rintro m x σ1 H' hx ⟨u2,rfl,rfl,dS⟩;obtain ⟨r,hr',c,rfl,hcr⟩:=Al2.get (z8 gl cY) hx;have hrt:SqT K H' c [.int (r.1:Int),.int r.2.1,.int r.2.2]:=SqT.of hcr;refine ⟨_,rfl,c,_,_,_,rfl,rfl,hrt,rfl,_,rfl,b,_,_,_,rfl,rfl,gZ,rfl,rfl,_,rfl,?_⟩;refine yh (λc1=>?_) (λc1=>?_)
    ·have qK:r.1=q.1:=by omega
     refine ⟨_,rfl,c,_,_,_,rfl,rfl,hrt,rfl,_,rfl,b,_,_,_,rfl,rfl,gZ,rfl,rfl,_,rfl,?_⟩;refine yh (λc2=>?_) (λc2=>?_)
     ·refine iteT ?_;refine out true cY ?_;unfold hemP;rw [jb _ hq (by rw [hc,jb _ hr' (by rw [decide_eq_true qK,decide_eq_true c2]; rfl)]; rfl)]
     ·refine ⟨_,rfl,c,_,_,_,rfl,rfl,hrt,rfl,_,rfl,b,_,_,_,rfl,rfl,gZ,rfl,rfl,_,rfl,?_⟩;refine yh (λc3=>?_) (λc3=>?_)
      ·refine out true cY ?_;unfold hemP;rw [jb _ hq (by rw [hc,jb _ hr' (by rw [decide_eq_true qK,decide_eq_false c2,decide_eq_true c3]; rfl)]; rfl)]
      ·exact ⟨_,rfl,rfl,jE _ hr' dS (by rw [decide_eq_true qK,decide_eq_false c2,decide_eq_false c3]; rfl)⟩
    ·refine iteF ?_;exact ⟨_,rfl,rfl,jE _ hr' dS (by rw [decide_eq_false (show ¬ r.1=q.1 by omega)]; rfl)⟩
   ·rintro σ1 H' ⟨u2,rfl,rfl,dS⟩;rw [hzd,List.take_length] at dS;exact ⟨_,_,rfl,cY,jE _ hq an (by rw [hc,dS]; rfl)⟩
 ·rintro σ' H3 ⟨u1,u2,rfl,s3,an⟩;rw [lkp,List.take_length] at an;obtain ⟨j',o',kvs',h1,h2,h3⟩:=out false s3 an.symm;exact ⟨j',o',kvs',h1,h2,h3⟩
noncomputable def jw (K:PySem.W.Frag) (C:Addr):Sp:=λvs H Q _=>∃ (p l:Addr) (R:Rat × Rat) (gs:List Bq) (dx:Addr) (fs:List (Str × V)) (wl g:Addr) (xs:List V) (j:Addr) (kvs:List (List Key × V)) (du:Addr) (ds:List V) (ps:List Pr) (ys:List V) (bs:List Bq) (c:Option Rat) (co:V),vs=[.ref p,.ref l]/\PlG K H C p R gs dx fs wl g xs/\PlJ K H R gs fs j kvs/\H j=some (.dT kvs)/\wl≠j/\fs.lookup ("due" : Str)=some (.ref du)/\H du=some (.lst ds)/\Al2 (PrH H) ds ps/\ps.length<=200/\gs.length<=6/\H l=some (.lst ys)/\Al2 (BqH K 5990 H) ys bs/\bs.length=gs.length/\fs.lookup ("coming" : Str)=some co/\OptB K H co c/\∀ (H1:Hp),Same H H1->Q (.bl (cnrP bs ps || cloP R gs c)) H1
theorem z9:FnScope ["self","boxes","numbers","other","one"] ["self","boxes"] (zD (zQ (top 69) 15)):={}
theorem ok_Plane_has_a_corner (D:DfM K (C 7) "has_a_corner" "Plane.has_a_corner" (zQ (top 69) 15) ["self","boxes"]) (T:Tx K mg CK C) (ay:FnM P w K mg base 1 (C 7) "boxes_met" ["self"] (jq K (C 7))) (bu:Fn P w K mg base 5 "are_at_a_corner" ["one","other"] (jU K)) (aw:FnM P w K mg base 1 (C 7) "is_coming" ["self","pair"] (jr K (C 7))) (aj:FnM P w K mg base 1 (C 7) "close_at_a_corner" ["self","pair"] (yN K (C 7))):FnM P w K mg base 6 (C 7) "has_a_corner" ["self","boxes"] (jw K (C 7)):=by
 refine D.ok0 z9 (λvs H Q E h=>?_) (λf cdv A outer s H vs Q E hr h=>?_)
 ·obtain ⟨p,l,R,gs,dx,fs,wl,g,xs,j,kvs,du,ds,ps,ys,bs,c,co,rfl,_⟩:=h;rfl
 obtain ⟨p,l,R,gs,dx,fs,wl,g,xs,j,kvs,du,ds,ps,ys,bs,c,co,rfl,pg,pj,hj,njw,fd,hd,al,l2,l6,hl,alb,lb,fc,oc,k⟩:=h
 refine ⟨_,(zE (zO (i:=2) z9.nd rfl (Or.inl rfl) (Zg T.cl_Plane ay (by decide) hr zG (pv 0)))
   (zE (yA PassesOwn.never rfl (yn (by rfl) T.b_range (zA (zS zo (by rfl) T.b_len PyProof.Rows.Boot.«len» (zA (pv 1) zB)) zB)) (zj (i:=3) z9.nd rfl (Or.inl rfl)) (zF (yA PassesOwn.never rfl (yn (by rfl) T.b_range (zA (pv 3) zB)) (zj (i:=4) z9.nd rfl (Or.inl rfl)) (zF (ze (j2 (y9 (zR Zw (pv 4) (pv 2) (by first|rfl|with_unfolding_all rfl)) (yO (zR Zw (pv 3) (pv 2) (by first|rfl|with_unfolding_all rfl)))).pt (jL (zh (zJ bu (by decide) hr (by rfl) zG (zA (zH ix_list (pv 1) (pv 4) (λ_ _=>rfl)) (zA (zH ix_list (pv 1) (pv 3) (λ_ _=>rfl)) zB))) (λ_=>rfl)))).pt (zF (zM yW)) zT)))))
   (zF (zM (zS (call_any (K:=K) rfl rfl) (by rfl) T.b_any PyProof.Rows.Boot.«any» (zA (pe_thaw (@JD _ _ _ _ _ _ _ _ _ _ ["self"] [0] rfl (JY (zW T.cl_Plane T.n_Plane_joints (pv 0))) rfl (by decide) rfl (by decide) rfl (by decide) (ZE (j:=0) rfl rfl rfl rfl (.inl rfl)) (λy c h=>h) (YF rfl) (λC z Hc fp=>(yd (ya T.cl_Plane aw (by decide) hr zG (pv 1) (zA (pv 0) zB)) (yR (ya T.cl_Plane aj (by decide) hr zG (pv 1) (zA (pv 0) zB))))) (λ_=>rfl))) zB)))))),?_⟩
 try dsimp only [cxK,cxK0]
 have hzb:=Al2.len alb;have npj:p≠j:=zq pg.ob hj (by intro z; cases z)
 refine ⟨_,rfl,p,_,_,rfl,pg.ob,pg.nm.boxes_met,p,dx,fs,du,ds,ps,rfl,pg.ob,fd,hd,al,l2,λr H1 s1 e1=>?_⟩
 refine ⟨_,rfl,_,_,rfl,.inl ⟨_,SqL.of (s1 _ _ hl),rfl⟩,_,rfl,by omega,by omega,z7 (n:=((ys.length:Nat):Int).toNat) (λi σ1 H'=>∃ (u3 u4:Option V),σ1=[some (.ref p),some (.ref l),some (.ref r),u3,u4]/\Same H1 H'/\((List.range bs.length).take i).any (λo=>(List.range o).any λi=>(decide ((i:Int)∈numP ps) || decide ((o:Int)∈numP ps)) && crnB (bxAt bs i) (bxAt bs o))=false) ⟨_,_,rfl,Same.refl _,rfl⟩ ?_ ?_⟩
 ·rintro o σ1 H2 ho ⟨u3,u4,rfl,s2,an⟩;have hob:o < bs.length:=by omega
  have ho':(List.range bs.length)[o]?=some o:=List.getElem?_range hob;obtain ⟨yo,hyo⟩:∃ y,ys[o]?=some y:=⟨_,List.getElem?_eq_getElem (by omega)⟩
  refine ⟨_,rfl,_,rfl,by omega,by omega,z7 (n:=(0+(o:Int)).toNat) (λi σ1 H'=>∃ (u4:Option V),σ1=[some (.ref p),some (.ref l),some (.ref r),some (.int (0+(o:Int))),u4]/\Same H1 H'/\((List.range o).take i).any (λi=>(decide ((i:Int)∈numP ps) || decide ((o:Int)∈numP ps)) && crnB (bxAt bs i) (bxAt bs o))=false) ⟨_,rfl,s2,rfl⟩ ?_ ?_⟩
  ·rintro i σ1 H3 hi ⟨u4,rfl,s3,dS⟩;have hio:i < o:=by omega
   have hi':(List.range o)[i]?=some i:=List.getElem?_range hio;obtain ⟨yi,hyi⟩:∃ y,ys[i]?=some y:=⟨_,List.getElem?_eq_getElem (by omega)⟩
   have aC:=s1.trans s3;obtain ⟨bi,hbi,qi⟩:=Al2.get (zY alb aC) hyi;obtain ⟨bo,hbo,qo⟩:=Al2.get (zY alb aC) hyo;have ei:bxAt bs i=bi:=by
    unfold bxAt;rw [List.getD_eq_getElem?_getD,hbi];rfl
   have eo:bxAt bs o=bo:=by
    unfold bxAt;rw [List.getD_eq_getElem?_getD,hbo];rfl
   have gj:SqL K H3 r (yE (numP ps)):=SqL.of (s3 _ _ e1);refine ⟨_,rfl,_,rfl,r,_,rfl,.inl gj,rfl,Zx _,_,rfl,?_⟩;show if (inV (V.int (0+(i:Int))) (yE (numP ps)))=true then _ else _
   rw [show (0:Int)+(i:Int)=(i:Int) by omega,show inV (V.int (i:Int)) (yE (numP ps))=decide ((i:Int)∈numP ps) from JW _ _]
   refine zc (λc1=>?_) (λc1=>?_)
   ·refine iteT ?_;refine ⟨_,rfl,_,rfl,l,_,_,_,rfl,rfl,SqL.of (aC _ _ hl),zi hyi,_,rfl,_,rfl,l,_,_,_,rfl,rfl,SqL.of (aC _ _ hl),atI_z hyo,_,_,bi,bo,rfl,qi,qo,λH4 s4=>⟨_,rfl,?_⟩⟩
    have aM:=s3.trans s4;cases hc:crnB bi bo with
    |true=>
     refine iteT ?_;have z:=k H4 (s1.trans aM);have e:cnrP bs ps=true:=by
      unfold cnrP;exact jb _ ho' (jb _ hi' (by rw [ei,eo,hc]; simp [c1]))
     rw [e,Bool.true_or] at z;exact z
    |false=>
     refine iteF ?_;exact ⟨_,rfl,aM,jE _ hi' dS (by rw [ei,eo,hc,Bool.and_false])⟩
   ·refine ⟨_,rfl,_,rfl,r,_,rfl,.inl gj,rfl,Zx _,_,rfl,?_⟩;show if (inV (V.int (0+(o:Int))) (yE (numP ps)))=true then _ else _
    rw [show inV (V.int (0+(o:Int))) (yE (numP ps))=decide ((o:Int)∈numP ps) by rw [show (0:Int)+(o:Int)=(o:Int) by omega]; exact JW _ _]
    refine zc (λc2=>?_) (λc2=>?_)
    ·skip
     refine ⟨_,rfl,_,rfl,l,_,_,_,rfl,rfl,SqL.of (aC _ _ hl),zi hyi,_,rfl,_,rfl,l,_,_,_,rfl,rfl,SqL.of (aC _ _ hl),atI_z hyo,_,_,bi,bo,rfl,qi,qo,λH4 s4=>⟨_,rfl,?_⟩⟩
     have aM:=s3.trans s4;cases hc:crnB bi bo with
     |true=>
      refine iteT ?_;have z:=k H4 (s1.trans aM);have e:cnrP bs ps=true:=by
       unfold cnrP;exact jb _ ho' (jb _ hi' (by rw [ei,eo,hc]; simp [c2]))
      rw [e,Bool.true_or] at z;exact z
     |false=>
      refine iteF ?_;exact ⟨_,rfl,aM,jE _ hi' dS (by rw [ei,eo,hc,Bool.and_false])⟩
    ·refine iteF ?_;exact ⟨_,rfl,s3,jE _ hi' dS (by rw [decide_eq_false c1,decide_eq_false c2]; rfl)⟩
  ·rintro σ1 H3 ⟨u4,rfl,s3,dS⟩;rw [show (0+(o:Int)).toNat=o by omega,List.take_of_length_le (by rw [List.length_range]; exact Nat.le_refl _)] at dS
   exact ⟨_,_,rfl,s3,jE _ ho' an dS⟩
 ·rintro σ1 H2 ⟨u3,u4,rfl,s2,an⟩;rw [show ((ys.length:Nat):Int).toNat=bs.length by omega,List.take_of_length_le (by rw [List.length_range]; exact Nat.le_refl _)] at an
  have ak:=s1.trans s2;have oA:=ak _ _ hj;refine ⟨_,rfl,p,_,_,_,rfl,ak _ _ pg.ob,pj.fj,j,kvs,rfl,oA,λo=>?_⟩
  obtain ⟨H3,q3,s3,e3⟩:=newB (H:=H2) (p:=j) (.frz o (.dT kvs));rw [q3];clear q3;have nt:NoT [j] H2:=NoT.dct oA NoT.nil;have b3:Buts [j] H2 H3:=Buts.one s3 (by simp)
  have oB:=s3 _ _ npj (ak _ _ pg.ob);have eV:PlJ K H3 R gs fs j kvs:=(pj.same ak).buts b3 nt (.inr ⟨o,e3⟩);have qL:=(oc.same ak).buts b3 nt;have lk:kvs.length<=200:=by
   have z:=congrArg List.length pj.ks;rw [List.length_map,List.length_map] at z;have:=Zz l6;omega
  refine lc_dictB (ps:=prsP gs.length) (λq=>cmgP R gs c q && corP R gs q) pj.ks e3 (Nat.le_trans lk (by decide)) ?_ ?_
  ·intro q b H4 hq s4 hb Q' hQ;have hin:=jC.mp hq;refine ⟨_,rfl,p,_,_,rfl,s4 _ _ oB,pg.nm.is_coming,_,rfl,p,b,R,gs,dx,_,j,kvs,q,_,co,rfl,s4 _ _ oB,eV.same s4,hb,hin,fc,qL.same s4,_,rfl,?_⟩;cases hc:cmgP R gs c q with
   |false=>
    refine iteF ?_;have z:=hQ H4 (Same.refl _);rw [hc,Bool.false_and] at z;exact z
   |true=>
    refine iteT ?_;refine ⟨_,rfl,p,_,_,rfl,s4 _ _ oB,pg.nm.close_at_a_corner,_,rfl,p,b,R,gs,dx,_,j,kvs,q,rfl,s4 _ _ oB,eV.same s4,hb,hin,λH5 s5=>?_⟩
    have z:=hQ H5 s5;rw [hc,Bool.true_and] at z;exact z
  ·intro H4 s4 r4 qM;obtain ⟨H5,q5,s5,e5⟩:=newO qM (.lst (((prsP gs.length).map λq=>cmgP R gs c q && corP R gs q).map V.bl))
   rw [q5];clear q5;refine ⟨j,o,kvs,oA,(s4.trans s5) _ _ e3,?_⟩;obtain ⟨H6,q6,s6,e6⟩:=newB (H:=H5) (p:=j) (.dT kvs);rw [q6];clear q6;have cY:Same H2 H6:=thawed (v:=.dT kvs) oA s3 (s4.trans s5) s6 e6;have r4j:r4≠j:=λz=>by
    rw [z,s4 _ _ e3] at qM;cases qM
   refine ⟨r4,_,rfl,SqL.of (s6 _ _ r4j e5),?_⟩;have z:=k H6 (ak.trans cY);unfold cnrP at z;rw [an,Bool.false_or] at z;unfold cloP at z;rw [show (((prsP gs.length).map λq=>cmgP R gs c q && corP R gs q).any id)=(prsP gs.length).any λp=>cmgP R gs c p && corP R gs p by rw [List.any_map]; rfl]
   exact z
noncomputable def Zq (K:PySem.W.Frag) (C:Addr):Sp:=λvs H Q _=>∃ (p:Addr) (R:Rat × Rat) (gs:List Bq) (dx:Addr) (fs:List (Str × V)) (wl g:Addr) (xs:List V) (j:Addr) (kvs:List (List Key × V)) (du:Addr) (ds:List V) (ps:List Pr) (now t:Rat) (pc:Addr),vs=[.ref p]/\PlG K H C p R gs dx fs wl g xs/\PlJ K H R gs fs j kvs/\H j=some (.dT kvs)/\wl≠j/\fs.lookup ("due" : Str)=some (.ref du)/\H du=some (.lst ds)/\Al2 (PrH H) ds ps/\ps.length<=200/\gs.length<=6/\ps=dueP R gs now/\comP R gs now=some t/\fs.lookup ("coming" : Str)=some (.ref pc)/\FQ K H pc t/\FB 2000 t/\∀ (H1:Hp),Same H H1->Q (.bl (crwP R gs now)) H1
theorem jJ:FnScope ["self","boxes"] ["self"] (zD (zQ (top 69) 12)):={}
theorem ok_Plane_is_crowded (D:DfM K (C 7) "is_crowded" "Plane.is_crowded" (zQ (top 69) 12) ["self"]) (T:Tx K mg CK C) (aA:FnM P w K mg base 5 (C 7) "bodies_at" ["self","moment"] (jn K (C 7))) (aK:FnM P w K mg base 2 (C 7) "has_two_meetings" ["self"] (jD K (C 7))) (aU:FnM P w K mg base 6 (C 7) "is_hemmed_in" ["self","boxes"] (jx K (C 7))) (aV:FnM P w K mg base 6 (C 7) "has_a_corner" ["self","boxes"] (jw K (C 7))):FnM P w K mg base 7 (C 7) "is_crowded" ["self"] (Zq K (C 7)):=by
 refine D.ok0 jJ (λvs H Q E h=>?_) (λf cdv A outer s H vs Q E hr h=>?_)
 ·obtain ⟨p,R,gs,dx,fs,wl,g,xs,j,kvs,du,ds,ps,now,t,pc,rfl,_⟩:=h;rfl
 obtain ⟨p,R,gs,dx,fs,wl,g,xs,j,kvs,du,ds,ps,now,t,pc,rfl,pg,pj,hj,njw,fd,hd,al,l2,l6,eps,ec,fc,gt,dt,k⟩:=h
 refine ⟨_,(zE (zO (i:=1) jJ.nd rfl (Or.inl rfl) (ya T.cl_Plane aA (by decide) hr zG (pv 0) (zA (zW T.cl_Plane T.n_Plane_coming (pv 0)) zB)))
   (zF (zM (pe_or (Zg T.cl_Plane aK (by decide) hr zG (pv 0)) (pe_or (ya T.cl_Plane aU (by decide) hr zG (pv 0) (zA (pv 1) zB)) (yR (ya T.cl_Plane aV (by decide) hr zG (pv 0) (zA (pv 1) zB)))))))),?_⟩
 try dsimp only [cxK,cxK0]
 refine ⟨_,rfl,p,_,_,rfl,pg.ob,pg.nm.bodies_at,_,rfl,p,_,_,_,rfl,pg.ob,fc,p,pc,dx,g,fs,xs,gs,t,rfl,pg.ob,pg.fg,pg.hg,pg.al,l6,gt,dt,λr ys H1 s1 n1 e1 GV=>?_⟩
 have eg:((comP R gs now).getD 0)=t:=by rw [ec]; rfl
 unfold crwP at k;rw [eg,<- eps] at k;have eO:=pg.same s1;have al1d:=z8 al s1;refine ⟨_,rfl,p,_,_,rfl,eO.ob,eO.nm.has_two_meetings,p,dx,fs,du,ds,ps,rfl,eO.ob,fd,s1 _ _ hd,al1d,l2,eO.nm.boxes_met,λH2 s2=>⟨_,rfl,?_⟩⟩
 have ak:=s1.trans s2;cases c1:twoP ps with
 |true=>
  have z:=k H2 ak;rw [c1,Bool.true_or] at z;exact iteT z
 |false=>
  refine iteF ?_;rw [c1,Bool.false_or] at k;have ck:=pg.same ak;refine ⟨_,rfl,p,_,_,rfl,ck.ob,ck.nm.is_hemmed_in,_,rfl,p,r,R,gs,dx,fs,wl,g,xs,j,kvs,du,ds,ps,ys,_,rfl,ck,pj.same ak,ak _ _ hj,njw,fd,ak _ _ hd,z8 al ak,l2,l6,s2 _ _ e1,zY GV s2,by rw [List.length_map],λH3 s3=>⟨_,rfl,?_⟩⟩
  have aC:=ak.trans s3;cases c2:hemP R (gs.map (atB t)) ps with
  |true=>
   have z:=k H3 aC;rw [c2,Bool.true_or] at z;exact iteT z
  |false=>
   refine iteF ?_;rw [c2,Bool.false_or] at k;have cX:=pg.same aC;exact ⟨_,rfl,p,_,_,rfl,cX.ob,cX.nm.has_a_corner,_,rfl,p,r,R,gs,dx,fs,wl,g,xs,j,kvs,du,ds,ps,ys,_,some t,.ref pc,rfl,cX,pj.same aC,aC _ _ hj,njw,fd,aC _ _ hd,z8 al aC,l2,l6,(s2.trans s3) _ _ e1,zY GV (s2.trans s3),by rw [List.length_map],fc,.inr ⟨t,pc,rfl,rfl,Kw.Same.tup aC gt,dt⟩,λH4 s4=>by have z:=k H4 (aC.trans s4); rw [ec] at z; exact z⟩
noncomputable def spP_part (K:PySem.W.Frag) (C:Addr):Sp:=λvs H Q _=>∃ (p pb:Addr) (R:Rat × Rat) (gs:List Bq) (dx:Addr) (fs:List (Str × V)) (wl g:Addr) (xs:List V) (j:Addr) (kvs:List (List Key × V)) (q:Pr) (B:Nat),vs=[.ref p,.ref pb]/\PlG K H C p R gs dx fs wl g xs/\PlJ K H R gs fs j kvs/\H j=some (.dT kvs)/\wl≠j/\H pb=some (.tup ((keyP q).map kV))/\InP gs.length q/\gs.length<=6/\WtB gs/\CmP B R gs/\B<=1900/\∀ (xs':List V) (kvs':List (List Key × V)) (H1:Hp),Buts [g,j] H H1->PlG K H1 C p R (prtP R gs q) dx fs wl g xs'->PlJ K H1 R (prtP R gs q) fs j kvs'->H1 j=some (.dT kvs')->Q .non H1
theorem zy:FnScope ["self","pair","way","one","other","left","right","changed","near"] ["self","pair"] (zD (zQ (top 69) 17)):={}
theorem ok_Plane_part (D:DfM K (C 7) "part" "Plane.part" (zQ (top 69) 17) ["self","pair"]) (T:Tx K mg CK C) (ai:FnM P w K mg base 1 (C 7) "one_of" ["self","pair","boxes"] (jY K (C 7))) (ae:FnM P w K mg base 1 (C 7) "other_of" ["self","pair","boxes"] (yz K (C 7))) (aT:Fn P w K mg base 4 "far_going" ["box","way"] (j5 K)) (aQ:Fn P w K mg base 1 "near_going" ["box","way"] (jm K)) (bA:Fn P w K mg base 4 "with_far_going" ["box","way","going"] (jd K)) (av:Fn P w K mg base 1 "with_near_going" ["box","way","going"] (yk K)) (cZ:Fn P w K mg base 5 "parted" ["own","far"] (sp_parted K)) (aD:FnM P w K mg base 5 (C 7) "joint_of" ["self","pair"] (j1 K (C 7))):FnM P w K mg base 6 (C 7) "part" ["self","pair"] (spP_part K (C 7)):=by
 refine D.ok0 zy (λvs H Q E h=>?_) (λf cdv A outer s H vs Q E hr h=>?_)
 ·obtain ⟨p,pb,R,gs,dx,fs,wl,g,xs,j,kvs,q,B,rfl,_⟩:=h;rfl
 obtain ⟨p,pb,R,gs,dx,fs,wl,g,xs,j,kvs,q,B,rfl,pg,pj,hj,njw,hb,hin,l6,hw,cm,hB,k⟩:=h
 refine ⟨_,(zE (zO (i:=2) zy.nd rfl (Or.inl rfl) (zH ix_tup (pv 1) zC (λ_ _=>rfl)))
   (zE (zO (i:=3) zy.nd rfl (Or.inl rfl) (ya T.cl_Plane ai (by decide) hr zG (pv 0) (zA (pv 1) (zA (zW T.cl_Plane T.n_Plane_goings (pv 0)) zB))))
   (zE (zO (i:=4) zy.nd rfl (Or.inl rfl) (ya T.cl_Plane ae (by decide) hr zG (pv 0) (zA (pv 1) (zA (zW T.cl_Plane T.n_Plane_goings (pv 0)) zB))))
   (zE (zO (i:=5) zy.nd rfl (Or.inl rfl) (zJ aT (by decide) hr (by rfl) zG (zA (pv 3) (zA (pv 2) zB))))
   (zE (zO (i:=6) zy.nd rfl (Or.inl rfl) (zJ aQ (by decide) hr (by rfl) zG (zA (pv 4) (zA (pv 2) zB))))
   (zE (ze (zR YM (zH ix_tup (pv 1) zC (λ_ _=>rfl)) zC (zU _)) (zF (Yu (zJ bA (by decide) hr (by rfl) zG (zA (pv 3) (zA (pv 2) (zA (zJ cZ (by decide) hr (by rfl) zG (zA (pv 5) (zA (pv 6) zB))) zB)))) (Jq (zW T.cl_Plane T.n_Plane_goings (pv 0)) (zH ix_tup (pv 1) zC (λ_ _=>rfl)) Zj))) zT)
   (zE (ze (zR YM (zH ix_tup (pv 1) zC (λ_ _=>rfl)) zC (zU _)) (zF (Yu (zJ av (by decide) hr (by rfl) zG (zA (pv 4) (zA (pv 2) (zA (zJ cZ (by decide) hr (by rfl) zG (zA (pv 6) (zA (pv 5) zB))) zB)))) (Jq (zW T.cl_Plane T.n_Plane_goings (pv 0)) (zH ix_tup (pv 1) zC (λ_ _=>rfl)) Zj))) zT)
   (zE (@ps_lcT _ _ _ _ _ _ _ _ _ _ _ _ [] [] 7 _ _ _ zy.nd rfl rfl rfl rfl (pi_tup (yU (Zv (K:=K) rfl) (pv 1) (yq zC) yv)) rfl (by decide) rfl (by decide) rfl (by decide) Yh (λ_ _ h=>nomatch h) (JS rfl) (λC z Hc fp=>pts_one (zR YM (pv 0) zC (zU _))) (λC z Hc fp=>(pv 0)) (λ_=>rfl))
   (zF (yA PassesOwn.never rfl (yP (yX (call_list_dct rfl) (by rfl) T.b_list PyProof.Rows.Boot.«list» (zA (zW T.cl_Plane T.n_Plane_joints (pv 0)) zB))) (zj (i:=8) zy.nd rfl (Or.inl rfl)) (zF (ze (j2 (zR ji (zH ix_tup (pv 8) zC (λ_ _=>rfl)) (pv 2) (zU _)) (jL (y9 (zR Zw (zH ix_tup (pv 8) zC (λ_ _=>rfl)) (pv 7) (by first|rfl|with_unfolding_all rfl)) (yO (zR Zw (zH ix_tup (pv 8) zC (λ_ _=>rfl)) (pv 7) (by first|rfl|with_unfolding_all rfl)))).pt)).pt (zF (ps_dput (Z3 (u100 hr)) (zW T.cl_Plane T.n_Plane_joints (pv 0)) (pv 8) (ya T.cl_Plane aD (by decide) hr zG (pv 0) (zA (pv 8) zB)) rfl)) zT)))))))))))),?_⟩
 try dsimp only [cxK,cxK0]
 have hq:SqT K H pb [.int (q.1:Int),.int q.2.1,.int q.2.2]:=SqT.of hb;have hz:=Al2.len pg.al;have npg:p≠g:=zq pg.ob pg.hg (by intro z; cases z)
 have npj:p≠j:=zq pg.ob hj (by intro z; cases z)
 have njg:j≠g:=zq hj pg.hg (by intro z; cases z)
 obtain ⟨wkv,hwl⟩:∃ kv,H wl=some (.dT kv):=by
  obtain ⟨_,_,_,_,e,_⟩:=pg.ws;exact ⟨_,e⟩
 have nwg:wl≠g:=zq hwl pg.hg (by intro z; cases z)
 obtain ⟨f1,f2⟩:=cm.fbs (q:=q) hw hin (by omega)
 refine ⟨_,rfl,pb,_,_,_,rfl,rfl,hq,rfl,?_⟩;refine ⟨_,rfl,p,_,_,rfl,pg.ob,pg.nm.one_of,_,rfl,_,rfl,p,_,_,_,rfl,pg.ob,pg.fg,p,pb,g,R,gs,dx,fs,wl,g,xs,q,xs,gs,1990,rfl,pg,hb,pg.hg,pg.al,hin,Nat.le_refl _,λv1 H1 s1 k1=>?_⟩
 have eO:=pg.same s1;refine ⟨_,rfl,p,_,_,rfl,eO.ob,eO.nm.other_of,_,rfl,_,rfl,p,_,_,_,rfl,eO.ob,eO.fg,p,pb,g,R,gs,dx,fs,wl,g,xs,q,xs,gs,1990,rfl,eO,s1 _ _ hb,eO.hg,eO.al,hin,Nat.le_refl _,λv2 H2 s2 k2=>?_⟩
 refine ⟨_,rfl,_,rfl,v1,_,q.1,rfl,k1.same s2,hin.1,(cm.far q.1 q.2.1).mono (by omega),λr3 H3 s3 k3=>?_⟩
 refine ⟨_,rfl,_,rfl,v2,_,q.1,rfl,k2.same s3,hin.1,λr4 H4 s4 k4=>?_⟩
 have dA:=s3.trans s4;have aM:=s2.trans dA;have qN:=s1.trans aM;have cu:=pg.same qN;have i6:=Kw.Same.tup qN hq;have qO:=k1.same aM;have qP:=k2.same dA;have oC:=k3.same s4;have mA:0<=q.2.1->(boxB R gs q.1 q.2.1).m≠none:=λz=>by
  obtain ⟨m,em,_⟩:=YA (R:=R) (d:=q.1) hw z (hin.l1 z);rw [em];exact λy=>nomatch y
 have mB:0<=q.2.2->(boxB R gs q.1 q.2.2).m≠none:=λz=>by
  obtain ⟨m,em,_⟩:=YA (R:=R) (d:=q.1) hw z (hin.l2 z);rw [em];exact λy=>nomatch y
 have ntg:NoT [g] H4:=NoT.lst cu.hg NoT.nil;refine g_go ?_;dsimp only;refine cut1 (λσ' H'=>∃ (iM:List V),σ'=[some (.ref p),some (.ref pb),some (.int (q.1:Int)),some v1,some v2,some (.ref r3),some (.ref r4),none,none]/\But g H4 H'/\H' g=some (.lst iM)/\Al2 (BqH K 1990 H') iM (prtA R gs q)) (λN hN=>?_) ?_
 ·refine ⟨_,rfl,pb,_,_,_,rfl,rfl,i6,rfl,_,_,rfl,rfl,_,rfl,?_⟩;refine zc (λc=>?_) (λc=>?_)
  ·obtain ⟨fa,fb,fc⟩:=f1 c;refine ⟨_,rfl,_,rfl,_,rfl,_,rfl,_,_,farG (boxB R gs q.1 q.2.1) q.1,jI (boxB R gs q.1 q.2.2) q.1,rfl,oC,k4,.inr (mA c),fa,fb,λr5 a5 c5 Kr H5 s5 h5 g5 Ks=>?_⟩
   refine ⟨v1,_,q.1,r5,a5,c5,_,_,Kr,rfl,qO.same s5,hin.1,h5,g5,Ks,fa,fb,fc,λr6 H6 s6 k6=>?_⟩
   have cU:=s5.trans s6;have fI:=cu.same cU;have qQ:=Kw.Same.tup cU i6;refine ⟨_,rfl,p,_,_,_,rfl,fI.ob,fI.fg,_,rfl,pb,_,_,_,rfl,rfl,qQ,rfl,g,xs,_,q.2.1.toNat,rfl,rfl,fI.hg,by rw [show q.2.1=((q.2.1.toNat:Nat):Int) by omega]; exact ixN_nat (by have:=hin.l1 c; omega),?_⟩
   obtain ⟨H7,q7,s7,e7⟩:=newB (H:=H6) (p:=g) (.lst (xs.set q.2.1.toNat (V.ref r6)));dsimp only;rw [q7];clear q7;refine hN _ _ ⟨_,rfl,(But.of cU).trans s7,e7,?_⟩;have oE:NoT [g] H6:=NoT.lst fI.hg NoT.nil;have b7:Buts [g] H6 H7:=Buts.one s7 (by simp)
   unfold prtA;rw [if_pos c];exact Al2.set (yg fI.al b7 oE) (k6.buts b7 oE)
  ·refine hN _ _ ⟨xs,rfl,But.refl _,cu.hg,?_⟩;unfold prtA;rw [if_neg c];exact cu.al
 rintro σ' H5 ⟨iM,rfl,s5,qR,bF⟩;have b5:Buts [g] H4 H5:=Buts.one s5 (by simp)
 have Kt:=s5 _ _ npg cu.ob;have GW:=b5.tup ntg i6;have Ku:=Al2.len bF;rw [YK] at Ku;refine cut1 (λσ' H'=>∃ (fv:List V),σ'=[some (.ref p),some (.ref pb),some (.int (q.1:Int)),some v1,some v2,some (.ref r3),some (.ref r4),none,none]/\But g H5 H'/\H' g=some (.lst fv)/\Al2 (BqH K 1990 H') fv (prtP R gs q)) (λN hN=>?_) ?_
 ·refine ⟨_,rfl,pb,_,_,_,rfl,rfl,GW,rfl,_,_,rfl,rfl,_,rfl,?_⟩;refine zc (λc=>?_) (λc=>?_)
  ·obtain ⟨fa,fb⟩:=f2 c;have Kv:GoQ K 1990 H5 (.ref r3) (farG (boxB R gs q.1 q.2.1) q.1):=by
    obtain ⟨p',a',c',e',h1',h2',h3',d'⟩:=oC;exact ⟨p',a',c',e',b5.tup ntg h1',b5.tup ntg h2',b5.tup ntg h3',d'⟩
   have Kx:GoQ K 1990 H5 (.ref r4) (jI (boxB R gs q.1 q.2.2) q.1):=by
    obtain ⟨p',a',c',e',h1',h2',h3',d'⟩:=k4;exact ⟨p',a',c',e',b5.tup ntg h1',b5.tup ntg h2',b5.tup ntg h3',d'⟩
   refine ⟨_,rfl,_,rfl,_,rfl,_,rfl,_,_,jI (boxB R gs q.1 q.2.2) q.1,farG (boxB R gs q.1 q.2.1) q.1,rfl,Kx,Kv,.inr (mB c),fa,fb,λr6 a6 c6 Ky H6 s6 h6 g6 Kz=>?_⟩
   refine ⟨v2,_,q.1,r6,a6,c6,_,_,Ky,rfl,(qP.buts b5 ntg).same s6,hin.1,h6,g6,Kz,fa,fb,λr7 H7 s7 k7=>?_⟩
   have iN:=s6.trans s7;have KA:=Kw.Same.tup iN GW;refine ⟨_,rfl,p,_,_,_,rfl,iN _ _ Kt,pg.fg,_,rfl,pb,_,_,_,rfl,rfl,KA,rfl,g,iM,_,q.2.2.toNat,rfl,rfl,iN _ _ qR,by rw [show q.2.2=((q.2.2.toNat:Nat):Int) by omega]; exact ixN_nat (by have:=hin.l2 c; omega),?_⟩
   obtain ⟨H8,q8,s8,e8⟩:=newB (H:=H7) (p:=g) (.lst (iM.set q.2.2.toNat (V.ref r7)));dsimp only;rw [q8];clear q8;refine hN _ _ ⟨_,rfl,(But.of iN).trans s8,e8,?_⟩;have oz:NoT [g] H7:=NoT.lst (iN _ _ qR) NoT.nil;have b8:Buts [g] H7 H8:=Buts.one s8 (by simp)
   unfold prtP;rw [if_pos c];exact Al2.set (yg (zY bF iN) b8 oz) (k7.buts b8 oz)
  ·refine hN _ _ ⟨iM,rfl,But.refl _,qR,?_⟩;unfold prtP;rw [if_neg c];exact bF
 rintro σ' H6 ⟨fv,rfl,s6,hg6,oF⟩;have KB:But g H H6:=(But.of qN).trans (s5.trans s6);have g7:Buts [g] H H6:=Buts.one KB (by simp)
 have g8:NoT [g] H:=NoT.lst pg.hg NoT.nil;have qQ:=g7.tup g8 hq;refine ⟨_,rfl,_,rfl,pb,_,rfl,qQ,Y3 (n:=3) (by decide) (by decide),?_⟩
 intro p7 n7;obtain ⟨H7,q7,s7,e7⟩:=newO n7 (.tup (cutV [.int (q.1:Int),.int q.2.1,.int q.2.2] (some 1) none));rw [q7];clear q7;have GX:H7 p7=some (.tup [.int q.2.1,.int q.2.2]):=e7;refine ⟨p7,rfl,⟨_,SqT.of GX⟩,lc_tupG (K:=K) (λv=>match v with|.int i=>decide (0<=i)|_=>false) (SqT.of GX) (by show 2<=sizeLine; decide) ?_ ?_ ?_⟩
 ·intro x hx Q1 q1;obtain ⟨i,rfl⟩:∃ i:Int,x=.int i:=by
   rcases List.mem_cons.mp hx with rfl|hx
   ·exact ⟨_,rfl⟩
   ·rw [List.mem_singleton.mp hx];exact ⟨_,rfl⟩
  exact ⟨_,rfl,_,_,rfl,rfl,_,rfl,q1⟩
 ·intro x hx Q1 q1;exact ⟨_,rfl,q1⟩
 intro l8 qS;obtain ⟨ch,ech⟩:∃ ch:List Int,ch=[q.2.1,q.2.2].filter λi=>decide (0<=i):=⟨_,rfl⟩
 have ef:(([.int q.2.1,.int q.2.2]:List V).filter λv=>match v with|.int i=>decide (0<=i)|_=>false)=ch.map V.int:=by
  rw [ech];exact List.filter_map (f:=V.int) (l:=[q.2.1,q.2.2]) (p:=λv=>match v with|.int i=>decide (0<=i)|_=>false)
 rw [ef];obtain ⟨H8,q8,s8,e8⟩:=newO qS (.lst (ch.map V.int));rw [q8];clear q8;have mch:∀ i:Int,i∈ch↔0<=i/\(i=q.2.1\/i=q.2.2):=λi=>by
  rw [ech,List.mem_filter];simp only [List.mem_cons,List.not_mem_nil,or_false,decide_eq_true_eq];exact ⟨λh=>⟨h.2,h.1⟩,λh=>⟨h.2,h.1⟩⟩
 have GY:=s7.trans s8;have qT:Buts [g] H H8:=g7.trans (Buts.of GY);have qU:H8 j=some (.dT kvs):=qT _ _ (by simp [njg]) hj
 have GZ:=qT _ _ (by simp [npg]) pg.ob
 refine ⟨_,rfl,p,_,_,_,rfl,GZ,pj.fj,j,kvs,prsP gs.length,rfl,qU,pj.ks,λl9 ds gT oG=>?_⟩
 obtain ⟨H9,q9,s9,e9⟩:=newO gT (.lst ds);rw [q9];clear q9;have hzd:=Al2.len oG;have G0:=GY.trans s9;have nd:=Jo l6;have cm':=cm.part hw hin;have ka:=s9 _ _ qU;have qV:Buts [g] H H9:=qT.trans (Buts.of s9);have kc:PlG K H9 (C 7) p R (prtP R gs q) dx fs wl g fv:=⟨s9 _ _ GZ,pg.fw,pg.fg,pg.ws.buts qV g8 (by simp [nwg]),G0 _ _ hg6,zY oF G0,pg.nm⟩
 have l9j:l9≠j:=λz=>by rw [z,qU] at gT; cases gT
 have l8j:l8≠j:=λz=>by rw [z,(s7 _ _ (g7 _ _ (by simp [njg]) hj))] at qS; cases qS
 have ntj:NoT [j] H9:=NoT.dct ka NoT.nil;refine ⟨l9,rfl,⟨_,SqL.of e9⟩,jS (K:=K) (a:=l9) (xs:=ds) (λi σ1 H'=>∃ (u8:Option V) (kv:List (List Key × V)),σ1=[some (.ref p),some (.ref pb),some (.int (q.1:Int)),some v1,some v2,some (.ref r3),some (.ref r4),some (.ref l8),u8]/\Buts [j] H9 H'/\H' j=some (.dT kv)/\kv.map (·.1)=(prsP gs.length).map keyP/\Al2 (OptB K H') (kv.map (·.2)) (mixL (jntP R gs) (jntP R (prtP R gs q)) (prsP gs.length) i)) ⟨_,kvs,rfl,Buts.refl,ka,pj.ks,by rw [mix_zero]; exact yY pj.js qV g8⟩ (by rintro _ _ _ _ ⟨_,_,_,g',_⟩; exact SqL.of (g' _ _ (by simp [l9j]) e9)) ?_ ?_⟩
 ·rintro i x σ1 bO hx ⟨u8,kv,rfl,aI,bU,bB,eB⟩;have hi:i < ds.length:=(List.getElem?_eq_some_iff.mp hx).1;obtain ⟨r,hr',c,rfl,kd⟩:=Al2.get (yt (z8 oG s9) aI ntj) hx;have hrin:=jC.mp (List.mem_of_getElem? hr');have hrt:SqT K bO c [.int (r.1:Int),.int r.2.1,.int r.2.2]:=SqT.of kd;have hch:SqL K bO l8 (ch.map V.int):=SqL.of (aI _ _ (by simp [l8j]) (s9 _ _ e8))
  have stay:jntP R (prtP R gs q) r=jntP R gs r->∃ (u8:Option V) (kv:List (List Key × V)),[some (V.ref p),some (.ref pb),some (.int (q.1:Int)),some v1,some v2,some (.ref r3),some (.ref r4),some (.ref l8),some (.ref c)]=[some (.ref p),some (.ref pb),some (.int (q.1:Int)),some v1,some v2,some (.ref r3),some (.ref r4),some (.ref l8),u8]/\Buts [j] H9 bO/\bO j=some (.dT kv)/\kv.map (·.1)=(prsP gs.length).map keyP/\Al2 (OptB K bO) (kv.map (·.2)) (mixL (jntP R gs) (jntP R (prtP R gs q)) (prsP gs.length) (i+1)):=λe=>⟨_,kv,rfl,aI,bU,bB,by rw [<- mix_same hr' e]; exact eB⟩
  refine ⟨_,rfl,c,_,_,_,rfl,rfl,hrt,rfl,_,rfl,rfl,_,rfl,?_⟩;refine yh (λc1=>?_) (λc1=>?_)
  rotate_left
  ·refine iteF ?_;exact stay (jnt_else hin hrin.1 (.inl (by omega)))
  refine ⟨_,rfl,c,_,_,_,rfl,rfl,hrt,rfl,_,rfl,l8,_,rfl,.inl hch,rfl,Zx _,_,rfl,?_⟩;show if (inV (V.int r.2.1) (ch.map V.int))=true then _ else _
  rw [JW];refine zc (λc2=>?_) (λc2=>?_)
  ·refine iteT ?_;have bL:PlG K bO (C 7) p R (prtP R gs q) dx fs wl g fv:=kc.buts aI ntj (by simp [npj]) (by simp [njw]) (by simp [Ne.symm njg])
   refine ⟨_,rfl,p,_,_,rfl,bL.ob,bL.nm.joint_of,_,rfl,p,c,R,prtP R gs q,dx,fs,wl,g,fv,r,rfl,bL,kd,by rw [jy]; exact hrin,(cm'.far r.1 r.2.1).mono (by omega),λt et=>(cm'.jnt et).mono (by omega),λke cM aO qW=>?_⟩
   have bV:=aO _ _ bU;have lkv:kv.length<=200:=by
    have z:=congrArg List.length bB;rw [List.length_map,List.length_map] at z;have:=Zz l6;omega
   refine ⟨_,rfl,p,_,_,_,rfl,aO _ _ bL.ob,pj.fj,_,rfl,j,_,rfl,DPut.t (k:=keyP r) bV (aO _ _ kd) (Nat.lt_of_le_of_lt lkv (by decide)),?_⟩
   obtain ⟨dC,dm,ak,cW⟩:=newB (H:=cM) (p:=j) (.dT (putK kv (keyP r) ke));dsimp only;rw [dm];clear dm;have hikv:i < kv.length:=by
    have z:=congrArg List.length bB;rw [List.length_map,List.length_map] at z;omega
   obtain ⟨⟨ky,wv⟩,hkv⟩:∃ e,kv[i]?=some e:=⟨_,List.getElem?_eq_getElem hikv⟩;obtain ⟨r',hr'',ek⟩:=Y6 bB hkv;rw [hr'] at hr'';cases hr''
   replace ek:ky=keyP r:=ek;subst ek;have ep:=putK_at (v:=ke) (by rw [bB]; exact nd) hkv
   have fz:Buts [j] bO dC:=(Buts.of aO).trans (Buts.one ak (by simp))
   have dD:NoT [j] bO:=NoT.dct bU NoT.nil;have dE:NoT [j] cM:=NoT.dct bV NoT.nil;refine ⟨_,_,rfl,aI.trans fz,cW,?_,?_⟩
   ·rw [ep,List.map_set,bB];show ((prsP gs.length).map keyP).set i (keyP r)=_;refine List.ext_getElem? λn=>?_
    rw [List.getElem?_set];by_cases e:i=n
    ·subst e;rw [if_pos rfl,List.getElem?_map,hr',if_pos (by rw [List.length_map]; omega)]
     rfl
    ·rw [if_neg e]
   ·rw [ep,List.map_set,<- mix_set hr'];exact Al2.set (yY eB fz dD) (qW.buts (Buts.one ak (by simp)) dE)
  ·refine ⟨_,rfl,c,_,_,_,rfl,rfl,hrt,rfl,_,rfl,l8,_,rfl,.inl hch,rfl,Zx _,_,rfl,?_⟩;show if (inV (V.int r.2.2) (ch.map V.int))=true then _ else _
   rw [JW];refine zc (λc3=>?_) (λc3=>?_)
   ·skip
    have bL:PlG K bO (C 7) p R (prtP R gs q) dx fs wl g fv:=kc.buts aI ntj (by simp [npj]) (by simp [njw]) (by simp [Ne.symm njg])
    refine ⟨_,rfl,p,_,_,rfl,bL.ob,bL.nm.joint_of,_,rfl,p,c,R,prtP R gs q,dx,fs,wl,g,fv,r,rfl,bL,kd,by rw [jy]; exact hrin,(cm'.far r.1 r.2.1).mono (by omega),λt et=>(cm'.jnt et).mono (by omega),λke cM aO qW=>?_⟩
    have bV:=aO _ _ bU;have lkv:kv.length<=200:=by
     have z:=congrArg List.length bB;rw [List.length_map,List.length_map] at z;have:=Zz l6;omega
    refine ⟨_,rfl,p,_,_,_,rfl,aO _ _ bL.ob,pj.fj,_,rfl,j,_,rfl,DPut.t (k:=keyP r) bV (aO _ _ kd) (Nat.lt_of_le_of_lt lkv (by decide)),?_⟩
    obtain ⟨dC,dm,ak,cW⟩:=newB (H:=cM) (p:=j) (.dT (putK kv (keyP r) ke));dsimp only;rw [dm];clear dm;have hikv:i < kv.length:=by
     have z:=congrArg List.length bB;rw [List.length_map,List.length_map] at z;omega
    obtain ⟨⟨ky,wv⟩,hkv⟩:∃ e,kv[i]?=some e:=⟨_,List.getElem?_eq_getElem hikv⟩;obtain ⟨r',hr'',ek⟩:=Y6 bB hkv;rw [hr'] at hr'';cases hr''
    replace ek:ky=keyP r:=ek;subst ek;have ep:=putK_at (v:=ke) (by rw [bB]; exact nd) hkv
    have fz:Buts [j] bO dC:=(Buts.of aO).trans (Buts.one ak (by simp))
    have dD:NoT [j] bO:=NoT.dct bU NoT.nil;have dE:NoT [j] cM:=NoT.dct bV NoT.nil;refine ⟨_,_,rfl,aI.trans fz,cW,?_,?_⟩
    ·rw [ep,List.map_set,bB];show ((prsP gs.length).map keyP).set i (keyP r)=_;refine List.ext_getElem? λn=>?_
     rw [List.getElem?_set];by_cases e:i=n
     ·subst e;rw [if_pos rfl,List.getElem?_map,hr',if_pos (by rw [List.length_map]; omega)]
      rfl
     ·rw [if_neg e]
    ·rw [ep,List.map_set,<- mix_set hr'];exact Al2.set (yY eB fz dD) (qW.buts (Buts.one ak (by simp)) dE)
   ·exact stay (jnt_else hin hrin.1 (.inr ⟨λz=>c2 ((mch _).mpr z),λz=>c3 ((mch _).mpr z)⟩))
 ·rintro σ1 bO ⟨u8,kv,rfl,aI,bU,bB,eB⟩;rw [hzd,mix_all] at eB;have pgE:PlG K bO (C 7) p R (prtP R gs q) dx fs wl g fv:=kc.buts aI ntj (by simp [npj]) (by simp [njw]) (by simp [Ne.symm njg])
  refine k fv kv bO (λa u na ha=>aI _ _ ?_ (qV _ _ ?_ ha)) pgE ⟨pj.fj,.inl bU,by rw [jy]; exact bB,by rw [jy]; exact eB⟩ bU
  ·simp only [List.mem_cons,List.not_mem_nil,or_false,not_or] at na ⊢;exact na.2
  ·simp only [List.mem_cons,List.not_mem_nil,or_false,not_or] at na ⊢;exact na.1
noncomputable def spP_go_on (K:PySem.W.Frag) (C:Addr):Sp:=λvs H Q _=>∃ (p:Addr) (R:Rat × Rat) (gs:List Bq) (now:Rat) (n:Nat) (wl g j:Addr) (t:Rat) (B:Nat),vs=[.ref p]/\ZP K H C p R gs now n wl g j/\gs.length<=6/\WtB gs/\comP R gs now=some t/\CmP B R gs/\B+15 * (dueP R gs now).length<=1900/\∀ (H1:Hp),Buts [p,g,j] H H1->ZP K H1 C p R (onP R gs now) t (n+1) wl g j->(∀ dx fs,H1 p=some (.ins C dx fs)->∀ du,fs.lookup ("due" : Str)=some (.ref du)->∀ z o,H z=some o->du≠z\/z=p\/z=g\/z=j)->Q .non H1
theorem Zo:FnScope ["self","pair"] ["self"] (zD (zQ (top 69) 16)):={}
theorem ok_Plane_go_on (D:DfM K (C 7) "go_on" "Plane.go_on" (zQ (top 69) 16) ["self"]) (T:Tx K mg CK C) (cO:FnM P w K mg base 6 (C 7) "part" ["self","pair"] (spP_part K (C 7))) (ar:FnM P w K mg base 6 (C 7) "look_ahead" ["self"] (jO K (C 7))):FnM P w K mg base 7 (C 7) "go_on" ["self"] (spP_go_on K (C 7)):=by
 refine D.ok0 Zo (λvs H Q E h=>?_) (λf cdv A outer s H vs Q E hr h=>?_)
 ·obtain ⟨p,R,gs,now,n,wl,g,j,t,B,rfl,_⟩:=h;rfl
 obtain ⟨p,R,gs,now,n,wl,g,j,t,B,rfl,⟨dx,nw,co,du,xs,kvs,ds,pg,pj,hj,njw,gn,dn,oc,hd,al,ndg⟩,l6,hw,et,cm,hB,k⟩:=h
 refine ⟨_,(zE (jN T.cl_Plane T.n_Plane_now (pv 0) (zW T.cl_Plane T.n_Plane_coming (pv 0)))
   (zE (ps_fldadd T.cl_Plane T.n_Plane_gone_through in_add (pv 0) zC)
   (zE (yA PassesOwn.never rfl (yP (zW T.cl_Plane T.n_Plane_due (pv 0))) (zj (i:=1) Zo.nd rfl (Or.inl rfl)) (zF (yI (ya T.cl_Plane cO (by decide) hr zG (pv 0) (zA (pv 1) zB)))))
   (zF (yI (Zg T.cl_Plane ar (by decide) hr zG (pv 0))))))),?_⟩
 try dsimp only [cxK,cxK0]
 have npg:p≠g:=zq pg.ob pg.hg (by intro z; cases z)
 have npj:p≠j:=zq pg.ob hj (by intro z; cases z)
 have njg:j≠g:=zq hj pg.hg (by intro z; cases z)
 have npd:p≠du:=zq pg.ob hd (by intro z; cases z)
 have njd:j≠du:=zq hj hd (by intro z; cases z)
 obtain ⟨wkv,hwl⟩:∃ kv,H wl=some (.dT kv):=by
  obtain ⟨_,_,_,_,e,_⟩:=pg.ws;exact ⟨_,e⟩
 have nwg:wl≠g:=zq hwl pg.hg (by intro z; cases z)
 have nwp:wl≠p:=zq hwl pg.ob (by intro z; cases z)
 obtain ⟨pt,rfl,gt,dt⟩:∃ pt:Addr,co=.ref pt/\FQ K H pt t/\FB 2000 t:=by
  rcases oc with ⟨e,_⟩|⟨q,pt,e,e',g',d'⟩
  ·rw [et] at e;cases e
  ·rw [et] at e;injection e with e
   subst e;exact ⟨pt,e',g',d'⟩
 refine ⟨_,rfl,p,_,_,_,rfl,pg.ob,rfl,_,rfl,p,dx,_,rfl,pg.ob,by show (7:Nat) < 1000; decide,?_⟩
 obtain ⟨H2,q2,s2,e2⟩:=newB (H:=H) (p:=p) (.ins (C 7) dx (putF ("now" : Str) (V.ref pt) (plF wl g nw (n:Int) j (.ref pt) du)));dsimp only;rw [q2];clear q2;replace e2:H2 p=some (.ins (C 7) dx (plF wl g pt (n:Int) j (.ref pt) du)):=e2;refine ⟨_,rfl,p,dx,_,_,rfl,e2,rfl,1,rfl,rfl,by show (7:Nat) < 1000; decide,?_⟩
 obtain ⟨H3,q3,s3,e3⟩:=newB (H:=H2) (p:=p) (.ins (C 7) dx (putF ("gone_through" : Str) (V.int ((n:Int)+1)) (plF wl g pt (n:Int) j (.ref pt) du)));dsimp only;rw [q3];clear q3;replace e3:H3 p=some (.ins (C 7) dx (plF wl g pt ((n+1:Nat):Int) j (.ref pt) du)):=e3;have b3:But p H H3:=s2.trans s3;have kg:Buts [p] H H3:=Buts.one b3 (by simp)
 have nt:NoT [p] H:=NoT.ins pg.ob NoT.nil;have cX:PlG K H3 (C 7) p R gs dx (plF wl g pt ((n+1:Nat):Int) j (.ref pt) du) wl g xs:=⟨e3,rfl,rfl,pg.ws.buts kg nt (by simp [nwp]),b3 _ _ (Ne.symm npg) pg.hg,yg pg.al kg nt,plF_nm⟩
 have gX:=b3 _ _ (Ne.symm npj) hj;have eV:PlJ K H3 R gs (plF wl g pt ((n+1:Nat):Int) j (.ref pt) du) j kvs:=⟨rfl,.inl gX,pj.ks,yY pj.js kg nt⟩;have kh:=b3 _ _ (Ne.symm npd) hd;have ki:=yt al kg nt;have G1:=kg.tup nt gt;have qX:NoT [g,j] H3:=NoT.lst cX.hg (NoT.dct gX NoT.nil);have hzd:=Al2.len al;refine ⟨_,rfl,p,_,_,_,rfl,e3,rfl,du,rfl,⟨_,SqL.of kh⟩,jS (K:=K) (a:=du) (xs:=ds) (λm σ' H'=>∃ (u1:Option V) (xs':List V) (kvs':List (List Key × V)),σ'=[some (.ref p),u1]/\Buts [g,j] H3 H'/\PlG K H' (C 7) p R (((dueP R gs now).take m).foldl (prtP R) gs) dx (plF wl g pt ((n+1:Nat):Int) j (.ref pt) du) wl g xs'/\PlJ K H' R (((dueP R gs now).take m).foldl (prtP R) gs) (plF wl g pt ((n+1:Nat):Int) j (.ref pt) du) j kvs'/\H' j=some (.dT kvs')) ⟨_,xs,kvs,rfl,Buts.refl,cX,eV,gX⟩ (by rintro _ _ _ _ ⟨_,_,_,_,g5,_⟩; exact SqL.of (g5 _ _ (by simp [ndg,Ne.symm njd]) kh)) ?_ ?_⟩
 ·rintro m x σ' H4 hx ⟨u1,xs',kvs',rfl,s4,cu,pj4,oH⟩;have hm:m < ds.length:=(List.getElem?_eq_some_iff.mp hx).1;obtain ⟨q,hq,b,rfl,hb⟩:=Al2.get (yt ki s4 qX) hx;have hin:=Z9 q (List.mem_of_getElem? hq);have hlt:∀ r∈(dueP R gs now).take m,InP gs.length r:=λr hr=>Z9 r (List.mem_of_mem_take hr)
  obtain ⟨oI,oJ⟩:=Jl ((dueP R gs now).take m) cm hw hlt;have ltk:((dueP R gs now).take m).length<=(dueP R gs now).length:=by rw [List.length_take]; omega
  have lgs:(((dueP R gs now).take m).foldl (prtP R) gs).length=gs.length:=Z0 _ _;refine ⟨_,rfl,p,_,_,rfl,cu.ob,rfl,_,rfl,p,b,R,_,dx,_,wl,g,xs',j,kvs',q,B+15 * ((dueP R gs now).take m).length,rfl,cu,pj4,oH,njw,hb,by rw [lgs]; exact hin,by rw [lgs]; exact l6,oJ,oI,by omega,λKC qY H5 s5 iL ow oK=>?_⟩
  have ef:((dueP R gs now).take (m+1)).foldl (prtP R) gs=prtP R (((dueP R gs now).take m).foldl (prtP R) gs) q:=by
   rw [zd hq,List.foldl_append];rfl
  rw [<- ef] at iL ow;exact ⟨_,KC,qY,rfl,s4.trans s5,iL,ow,oK⟩
 ·rintro σ' H4 ⟨u1,xs',kvs',rfl,s4,cu,pj4,oH⟩;rw [hzd,List.take_length] at cu pj4;have lgs:(onP R gs now).length=gs.length:=Z0 _ _;refine ⟨_,rfl,p,_,_,rfl,cu.ob,rfl,p,R,onP R gs now,dx,_,wl,g,xs',j,kvs',pt,t,rfl,cu,pj4,oH,njw,rfl,s4.tup qX G1,dt,by show (7:Nat) < 900; decide,by rw [lgs]; exact l6,λkj iO qZ H5 s5 n5 e5 gY KD bF=>?_⟩
  replace e5:H5 p=some (.ins (C 7) dx (plF wl g pt ((n+1:Nat):Int) j kj iO)):=e5;have oM:Buts [p] H4 H5:=Buts.one s5 (by simp)
  have oN:NoT [p] H4:=NoT.ins cu.ob NoT.nil;have oK:=s5 _ _ (Ne.symm npj) oH;refine k H5 (λa o na ha=>?_) ⟨dx,pt,kj,iO,xs',kvs',qZ,⟨e5,rfl,rfl,cu.ws.buts oM oN (by simp [nwp]),s5 _ _ (Ne.symm npg) cu.hg,yg cu.al oM oN,plF_nm⟩,⟨rfl,.inl oK,pj4.ks,yY pj4.js oM oN⟩,oK,njw,oM.tup oN (s4.tup qX G1),dt,gY,KD,bF,λz=>by rw [z,cu.hg] at n5; cases n5⟩ ?_
  ·simp only [List.mem_cons,List.not_mem_nil,or_false,not_or] at na;exact s5 _ _ na.1 (s4 _ _ (by simp [na.2.1,na.2.2]) (b3 _ _ na.1 ha))
  ·intro dx' fs' hp' du' hdu' z o hz;rw [e5] at hp';cases hp'
   cases (show some (V.ref iO)=some (.ref du') from hdu')
   by_cases y:z=p\/z=g\/z=j
   ·exact .inr y
   ·simp only [not_or] at y;refine .inl λx=>?_
    have w:=s4 _ _ (by simp [y.2.1,y.2.2]) (b3 _ _ y.1 hz)
    rw [<- x,n5] at w;cases w
noncomputable def JH (K:PySem.W.Frag):Sp:=λvs H Q _=>∃ (r x y:Addr) (R:Rat × Rat),vs=[.ref r]/\SqT K H r [.ref x,.ref y]/\FQ K H x R.1/\FQ K H y R.2/\FB 1990 R.1/\FB 1990 R.2/\∀ (wl:Addr) (H1:Hp),Same H H1->Wls K H1 wl R->Q (.ref wl) H1
theorem Zt:FnScope ["room","wide","high"] ["room"] (zD (top 66)):={}
theorem ok_walls_of (D:Df K mg "walls_of" (top 66) ["room"]) (T:Tx K mg CK C):Fn P w K mg base 1 "walls_of" ["room"] (JH K):=by
 refine D.ok0 Zt (λvs H Q E h=>?_) (λf cdv A outer s H vs Q E hr h=>?_)
 ·obtain ⟨r,x,y,R,rfl,_⟩:=h;rfl
 obtain ⟨r,x,y,R,rfl,hr0,hx,hy,fx,fy,q⟩:=h
 refine ⟨_,(zE (zO (i:=1) Zt.nd rfl (Or.inl rfl) (zH ix_tup (pv 0) zC (λ_ _=>rfl)))
   (zE (zO (i:=2) Zt.nd rfl (Or.inl rfl) (zH ix_tup (pv 0) zC (λ_ _=>rfl)))
   (zF (zM (pe_dictT (Z3 (u100 hr)) (.cons (zP (zA (zX (by rfl) T.k_ACROSS) (zA (zX (by rfl) T.k_NEAR_WALL) zB))) (zP (zA (zP (zA (Yl ZK zC) (zA zC zB))) (zA (zp (K:=K) rfl (by rfl) T.k_NOUGHT) (zA (zP (zA zC (zA zC zB))) (zA (pv 2) (zA (zp (K:=K) rfl (by rfl) T.k_NOUGHT) (zA (zp (K:=K) rfl (by rfl) T.k_NOUGHT) (zA yf zB)))))))) (.cons (zP (zA (zX (by rfl) T.k_ACROSS) (zA (zX (by rfl) T.k_FAR_WALL) zB))) (zP (zA (pv 1) (zA (zp (K:=K) rfl (by rfl) T.k_NOUGHT) (zA (zP (zA zC (zA zC zB))) (zA (pv 2) (zA (zp (K:=K) rfl (by rfl) T.k_NOUGHT) (zA (zp (K:=K) rfl (by rfl) T.k_NOUGHT) (zA yf zB)))))))) (.cons (zP (zA (zX (by rfl) T.k_ALONG) (zA (zX (by rfl) T.k_NEAR_WALL) zB))) (zP (zA (zp (K:=K) rfl (by rfl) T.k_NOUGHT) (zA (zP (zA (Yl ZK zC) (zA zC zB))) (zA (pv 1) (zA (zP (zA zC (zA zC zB))) (zA (zp (K:=K) rfl (by rfl) T.k_NOUGHT) (zA (zp (K:=K) rfl (by rfl) T.k_NOUGHT) (zA yf zB)))))))) (.cons (zP (zA (zX (by rfl) T.k_ALONG) (zA (zX (by rfl) T.k_FAR_WALL) zB))) (zP (zA (zp (K:=K) rfl (by rfl) T.k_NOUGHT) (zA (pv 2) (zA (pv 1) (zA (zP (zA zC (zA zC zB))) (zA (zp (K:=K) rfl (by rfl) T.k_NOUGHT) (zA (zp (K:=K) rfl (by rfl) T.k_NOUGHT) (zA yf zB)))))))) .nil)))) (by simp) (by decide)))))),?_⟩
 try dsimp only [cxK,cxK0]
 refine ⟨_,rfl,r,_,_,_,rfl,rfl,hr0,rfl,?_⟩;refine ⟨_,rfl,r,_,_,_,rfl,rfl,hr0,rfl,?_⟩;intro p0 n0;obtain ⟨H0,q0,s0,e0⟩:=newO n0 (.dT []);rw [q0];clear q0;refine ⟨by show 2<=sizeLine; decide,?_⟩
 intro p1 n1;obtain ⟨H1,q1,s1,e1⟩:=newO n1 (.tup [.int 0,.int (-1)]);rw [q1];clear q1;refine ⟨_,rfl,by show 2<=sizeLine; decide,?_⟩
 intro p2 n2;obtain ⟨H2,q2,s2,e2⟩:=newO n2 (.tup [.int (-1),.int 1]);rw [q2];clear q2;refine λN3_1 g3_1=>?_
 refine ⟨by show 2<=sizeLine; decide,?_⟩
 intro p3 n3;obtain ⟨H3,q3,s3,e3⟩:=newO n3 (.tup [.int 1,.int 1]);rw [q3];clear q3;refine ⟨_,rfl,?_⟩;refine λN4_4 g4_4=>?_
 refine λN4_5 g4_5=>?_
 refine ⟨by show 7<=sizeLine; decide,?_⟩
 intro p4 n4;obtain ⟨H4,q4,s4,e4⟩:=newO n4 (.tup [.ref p2,.ref N3_1,.ref p3,.ref y,.ref N4_4,.ref N4_5,.non]);rw [q4];clear q4;refine ⟨by show 2<=sizeLine; decide,?_⟩
 intro p5 n5;obtain ⟨H5,q5,s5,e5⟩:=newO n5 (.tup [.int 0,.int (-2)]);rw [q5];clear q5;refine ⟨_,rfl,?_⟩;refine λN6_1 g6_1=>?_
 refine ⟨by show 2<=sizeLine; decide,?_⟩
 intro p6 n6;obtain ⟨H6,q6,s6,e6⟩:=newO n6 (.tup [.int 1,.int 1]);rw [q6];clear q6;refine ⟨_,rfl,?_⟩;refine λN7_4 g7_4=>?_
 refine λN7_5 g7_5=>?_
 refine ⟨by show 7<=sizeLine; decide,?_⟩
 intro p7 n7;obtain ⟨H7,q7,s7,e7⟩:=newO n7 (.tup [.ref x,.ref N6_1,.ref p6,.ref y,.ref N7_4,.ref N7_5,.non]);rw [q7];clear q7;refine ⟨by show 2<=sizeLine; decide,?_⟩
 intro p8 n8;obtain ⟨H8,q8,s8,e8⟩:=newO n8 (.tup [.int 1,.int (-1)]);rw [q8];clear q8;refine λN9_0 g9_0=>?_
 refine ⟨_,rfl,by show 2<=sizeLine; decide,?_⟩
 intro p9 n9;obtain ⟨H9,q9,s9,e9⟩:=newO n9 (.tup [.int (-1),.int 1]);rw [q9];clear q9;refine ⟨_,rfl,?_⟩;refine ⟨by show 2<=sizeLine; decide,?_⟩
 intro g9 iP;obtain ⟨bO,hG,aI,iQ⟩:=newO iP (.tup [.int 1,.int 1]);rw [hG];clear hG;refine λN11_4 g11_4=>?_
 refine λN11_5 g11_5=>?_
 refine ⟨by show 7<=sizeLine; decide,?_⟩
 intro fF oO;obtain ⟨cM,hI,aO,re⟩:=newO oO (.tup [.ref N9_0,.ref p9,.ref x,.ref g9,.ref N11_4,.ref N11_5,.non]);rw [hI];clear hI;refine ⟨by show 2<=sizeLine; decide,?_⟩
 intro cp dU;obtain ⟨dC,dm,ak,cW⟩:=newO dU (.tup [.int 1,.int (-2)]);rw [dm];clear dm;refine λN13_0 g13_0=>?_
 refine ⟨_,rfl,?_⟩;refine ⟨_,rfl,?_⟩;refine ⟨by show 2<=sizeLine; decide,?_⟩
 intro km ko;obtain ⟨ku,eC,aC,fJ⟩:=newO ko (.tup [.int 1,.int 1]);rw [eC];clear eC;refine λN14_4 g14_4=>?_
 refine λN14_5 g14_5=>?_
 refine ⟨by show 7<=sizeLine; decide,?_⟩
 intro fK kz;obtain ⟨cq,fA,aM,gq⟩:=newO kz (.tup [.ref N13_0,.ref y,.ref x,.ref km,.ref N14_4,.ref N14_5,.non]);rw [fA];clear fA;have hJ:Same cq cq:=λ_ _ h=>h
 have G2:=aM.trans hJ;have G3:=aC.trans G2;have G4:=ak.trans G3;have G5:=aO.trans G4;have t9:=aI.trans G5;have t8:=s9.trans t9;have t7:=s8.trans t8;have t6:=s7.trans t7;have t5:=s6.trans t6;have t4:=s5.trans t5;have t3:=s4.trans t4;have t2:=s3.trans t3;have t1:=s2.trans t2;have t0:=s1.trans t1;have tx:=s0.trans t0;obtain ⟨sz,wz⟩:=wls_new (K:=K) (R:=R) fx fy n0 tx (t0 _ _ e0) ⟨p4,_,_,_,_,_,_,rfl,SqT.of (t4 _ _ e4),fq_mone (SqT.of (t2 _ _ e2)),zw (g3_1 _),fq_one (SqT.of (t3 _ _ e3)),Kw.Same.tup tx hy,zw (g4_4 _),zw (g4_5 _)⟩ ⟨p7,_,_,_,_,_,_,rfl,SqT.of (t7 _ _ e7),Kw.Same.tup tx hx,zw (g6_1 _),fq_one (SqT.of (t6 _ _ e6)),Kw.Same.tup tx hy,zw (g7_4 _),zw (g7_5 _)⟩ ⟨fF,_,_,_,_,_,_,rfl,SqT.of (G4 _ _ re),zw (g9_0 _),fq_mone (SqT.of (t9 _ _ e9)),Kw.Same.tup tx hx,fq_one (SqT.of (G5 _ _ iQ)),zw (g11_4 _),zw (g11_5 _)⟩ ⟨fK,_,_,_,_,_,_,rfl,SqT.of (hJ _ _ gq),zw (g13_0 _),Kw.Same.tup tx hy,Kw.Same.tup tx hx,fq_one (SqT.of (G2 _ _ fJ)),zw (g14_4 _),zw (g14_5 _)⟩;exact ⟨t0 _ _ e0,[(keyW 0 (-1),.ref p4),(keyW 0 (-2),.ref p7),(keyW 1 (-1),.ref fF),(keyW 1 (-2),.ref fK)],⟨⟨p1,rfl,t1 _ _ e1⟩,rfl,⟨p5,rfl,t5 _ _ e5⟩,rfl,⟨p8,rfl,t8 _ _ e8⟩,rfl,⟨cp,rfl,G3 _ _ cW⟩,rfl,trivial⟩,by show 4<=100; decide,q p0 _ sz wz⟩
noncomputable def YY (K:PySem.W.Frag):Sp:=λvs H Q _=>∃ (n:Nat),vs=[.int (n:Int)]/\n<=6/\∀ (a:Addr) (xs:List V) (H1:Hp),Same H H1->H a=none->H1 a=some (.lst xs)->Al2 (PrH H1) xs (prsP n)->Q (.ref a) H1
theorem y7:FnScope ["count","pairs","way","one","other"] ["count"] (zD (top 68)):={}
theorem ok_all_pairs (D:Df K mg "all_pairs" (top 68) ["count"]) (T:Tx K mg CK C):Fn P w K mg base 1 "all_pairs" ["count"] (YY K):=by
 refine D.ok0 y7 (λvs H Q E h=>?_) (λf cdv A outer s H vs Q E hr h=>?_)
 ·obtain ⟨n,rfl,_⟩:=h;rfl
 obtain ⟨n,rfl,hn,q⟩:=h
 refine ⟨_,(zE (zO (i:=1) y7.nd rfl (Or.inl rfl) (zv zB))
   (zE (yA PassesOwn.never rfl (pi_tup (zP (zA (zX (by rfl) T.k_ACROSS) (zA (zX (by rfl) T.k_ALONG) zB)))) (zj (i:=2) y7.nd rfl (Or.inl rfl)) (zF (yA PassesOwn.never rfl (Yy (by rfl) T.b_range (zA (zX (by rfl) T.k_NEAR_WALL) (zA (pv 0) zB))) (zj (i:=3) y7.nd rfl (Or.inl rfl)) (zF (yA PassesOwn.never rfl (yP (zN YB (zv (zA (zX (by rfl) T.k_FAR_WALL) zB)) (pe_listRange rfl (by rfl) T.b_list (by rfl) T.b_range (zA (pv 0) zB)))) (zj (i:=4) y7.nd rfl (Or.inl rfl)) (zF (ze (j2 (zR Jt (pv 3) (pv 4) (zU _)) (jL (y9 (zR YM (pv 3) zC (zU _)) (yO (zR YM (pv 4) zC (zU _)))).pt)).pt (zF (yI (pe_bm PySem.F.plainAttrs_list PySem.F.slot_list_append PySem.F.type_list_append ju (pv 1) (zA (zP (zA (pv 2) (zA (pv 3) (zA (pv 4) zB)))) zB)))) zT)))))))
   (zF (zM (pv 1))))),?_⟩
 try dsimp only [cxK,cxK0]
 refine ⟨by show 0<=sizeLine; decide,?_⟩
 intro p0 n0;obtain ⟨H0,q0,s0,e0⟩:=newO n0 (.lst []);rw [q0];clear q0;refine ⟨by show 2<=sizeLine; decide,?_⟩
 intro p1 n1;obtain ⟨H1,q1,s1,e1⟩:=newO n1 (.tup [.int 0,.int 1]);rw [q1];clear q1;have G6:=s1 _ _ e0;have st:SqT K H1 p1 [.int 0,.int 1]:=SqT.of e1;have KG:NoT [p0] H1:=NoT.lst G6 NoT.nil;refine ⟨p1,rfl,⟨_,st⟩,for_tup (K:=K) (xs:=[.int 0,.int 1]) (λd σ' H'=>∃ (u2 u3 u4:Option V) (xs:List V) (ps:List Pr),σ'=[some (.int (n:Int)),some (.ref p0),u2,u3,u4]/\But p0 H1 H'/\H' p0=some (.lst xs)/\Al2 (PrH H') xs ps/\ps=(if d=0 then [] else if d=1 then prsD n 0 else prsP n)/\ps.length<=60 * d) ⟨_,_,_,[],[],rfl,But.refl _,G6,trivial,rfl,Nat.zero_le _⟩ ?_ ?_ ?_⟩
 ·rintro d σ' H2 _ ⟨u2,u3,u4,xs,ps,rfl,b2,cV,gl,eps,lps⟩;exact (Buts.one b2 (by simp)).tup KG st
 ·rintro d x σ' H2 hx ⟨u2,u3,u4,xs,ps,rfl,b2,cV,gl,eps,lps⟩;obtain ⟨hd,rfl⟩:d<=1/\x=.int (d:Int):=by
   match d,hx with
   |0,hx=>cases hx; exact ⟨by decide,rfl⟩
   |1,hx=>cases hx; exact ⟨by decide,rfl⟩
   |d+2,hx=>cases hx
  have G7:ps.length<=60:=by omega
  refine ⟨_,rfl,_,_,rfl,⟨by decide,by decide,by omega,by omega⟩,z7 (lo:=-1) (n:=((n:Int) - (-1)).toNat) (λi σ' H'=>∃ (u3 u4:Option V) (xs:List V) (qs:List Pr),σ'=[some (.int (n:Int)),some (.ref p0),some (.int (d:Int)),u3,u4]/\But p0 H2 H'/\H' p0=some (.lst xs)/\Al2 (PrH H') xs qs/\qs=ps++((onesN n).take i).flatMap (prs1 n d)/\qs.length<=ps.length+8 * i) ⟨_,_,xs,ps,rfl,But.refl _,cV,gl,by simp,by omega⟩ ?_ ?_⟩
  ·rintro i σ' H3 hi ⟨u3,u4,xs,qs,rfl,b3,iK,ki,eqs,lqs⟩;have hin:i<=n:=by omega
   refine ⟨by show 1<=sizeLine; decide,?_⟩
   intro p4 n4;obtain ⟨H4,q4,s4,e4⟩:=newO n4 (.lst [.int (-2)]);rw [q4];clear q4;refine ⟨_,rfl,n,rfl,by omega,?_⟩
   intro p5 n5;obtain ⟨H5,q5,s5,e5⟩:=newO n5 (.lst ((List.range n).map λi:Nat=>V.int (i:Int)))
   rw [q5];clear q5;refine ⟨p4,p5,_,_,rfl,rfl,s5 _ _ e4,e5,by rw [List.length_map,List.length_range,sizeLine_eq]; show 1+n<=_; omega,?_⟩
   intro p6 n6;obtain ⟨H6,q6,s6,e6⟩:=newO n6 (.lst ([V.int (-2)]++(List.range n).map λi:Nat=>V.int (i:Int)))
   rw [q6];clear q6;rw [oth_vs] at e6;have i9:=s4.trans (s5.trans s6);have hU:=i9 _ _ iK;have KH:p6≠p0:=λz=>by rw [z,(s4.trans s5) _ _ iK] at n6; cases n6
   refine ⟨p6,rfl,⟨_,SqL.of e6⟩,jS (K:=K) (xs:=(JQ n).map V.int) (λk σ' H'=>∃ (u4:Option V) (xs:List V) (rs:List Pr),σ'=[some (.int (n:Int)),some (.ref p0),some (.int (d:Int)),some (.int (-1+(i:Int))),u4]/\But p0 H6 H'/\H' p0=some (.lst xs)/\Al2 (PrH H') xs rs/\rs=qs++(((JQ n).take k).filter (okP (-1+(i:Int)))).map (λo=>(d,-1+(i:Int),o))/\rs.length<=qs.length+k) ⟨_,xs,qs,rfl,But.refl _,hU,z8 ki i9,by simp,by omega⟩ ?_ ?_ ?_⟩
   ·rintro k σ' H' _ ⟨u4,xs,rs,rfl,b,hp,_⟩;exact SqL.of (b _ _ KH e6)
   ·rintro k x σ' H7 hx ⟨u4,xs,rs,rfl,b7,dW,fL,ers,lrs⟩;rw [List.getElem?_map] at hx;obtain ⟨o,ho,rfl⟩:=Option.map_eq_some_iff.mp hx;have hk:k < (JQ n).length:=(List.getElem?_eq_some_iff.mp ho).1;rw [oth_len] at hk;refine ⟨_,rfl,_,rfl,rfl,_,rfl,?_⟩;refine if_neI (λc1=>?_) (λc1=>?_)
    ·refine ⟨_,rfl,_,_,rfl,rfl,_,rfl,?_⟩;refine zc (λc2=>?_) (λc2=>?_)
     ·refine iteT ?_;refine ⟨_,rfl,.inl ⟨rfl,_,SqL.of dW⟩,_,rfl,_,rfl,_,rfl,by show 3<=sizeLine; decide,?_⟩
      intro p8 n8;obtain ⟨H8,q8,s8,e8⟩:=newO n8 (.tup [.int (d:Int),.int (-1+(i:Int)),.int o]);rw [q8];clear q8;have hV:=s8 _ _ dW;refine ⟨p0,xs,_,rfl,rfl,hV,by rw [Al2.len fL,sizeLine_eq]; omega,?_⟩
      obtain ⟨H9,q9,b9,e9⟩:=newB (H:=H8) (p:=p0) (.lst (xs++[.ref p8]));rw [q9];clear q9;have rf:NoT [p0] H8:=NoT.lst hV NoT.nil;have rg:Buts [p0] H8 H9:=Buts.one b9 (by simp)
      have kA:p8≠p0:=zq e8 hV (by intro z; cases z)
      refine ⟨_,_,rs++[(d,-1+(i:Int),o)],rfl,b7.trans ((But.of s8).trans b9),e9,Al2.snoc (yt (z8 fL s8) rg rf) ⟨p8,rfl,b9 _ _ kA e8⟩,?_,by rw [List.length_append,List.length_singleton]; omega⟩
      rw [zd ho,List.filter_append,List.map_append,ers,List.append_assoc];rw [show [o].filter (okP (-1+(i:Int)))=[o] by simp [okP]; omega]
      rfl
     ·refine ⟨_,rfl,_,_,rfl,rfl,_,rfl,?_⟩;refine zc (λc3=>?_) (λc3=>?_)
      ·refine ⟨_,rfl,.inl ⟨rfl,_,SqL.of dW⟩,_,rfl,_,rfl,_,rfl,by show 3<=sizeLine; decide,?_⟩
       intro p8 n8;obtain ⟨H8,q8,s8,e8⟩:=newO n8 (.tup [.int (d:Int),.int (-1+(i:Int)),.int o]);rw [q8];clear q8;have hV:=s8 _ _ dW;refine ⟨p0,xs,_,rfl,rfl,hV,by rw [Al2.len fL,sizeLine_eq]; omega,?_⟩
       obtain ⟨H9,q9,b9,e9⟩:=newB (H:=H8) (p:=p0) (.lst (xs++[.ref p8]));rw [q9];clear q9;have rf:NoT [p0] H8:=NoT.lst hV NoT.nil;have rg:Buts [p0] H8 H9:=Buts.one b9 (by simp)
       have kA:p8≠p0:=zq e8 hV (by intro z; cases z)
       refine ⟨_,_,rs++[(d,-1+(i:Int),o)],rfl,b7.trans ((But.of s8).trans b9),e9,Al2.snoc (yt (z8 fL s8) rg rf) ⟨p8,rfl,b9 _ _ kA e8⟩,?_,by rw [List.length_append,List.length_singleton]; omega⟩
       rw [zd ho,List.filter_append,List.map_append,ers,List.append_assoc];rw [show [o].filter (okP (-1+(i:Int)))=[o] by simp [okP]; omega]
       rfl
      ·refine ⟨_,xs,rs,rfl,b7,dW,fL,?_,by omega⟩
       rw [zd ho,List.filter_append,List.map_append,ers];rw [show [o].filter (okP (-1+(i:Int)))=[] by simp [okP]; omega]
       simp
    ·refine iteF ?_;refine ⟨_,xs,rs,rfl,b7,dW,fL,?_,by omega⟩
     rw [zd ho,List.filter_append,List.map_append,ers];rw [show [o].filter (okP (-1+(i:Int)))=[] by simp [okP]; omega]
     simp
   ·rintro σ' H7 ⟨u4,xs,rs,rfl,b7,dW,fL,ers,lrs⟩;rw [List.length_map,oth_len] at lrs;rw [List.take_of_length_le (by rw [List.length_map]; exact Nat.le_refl _)] at ers
    refine ⟨_,_,xs,rs,rfl,b3.trans ((But.of i9).trans b7),dW,fL,?_,by omega⟩
    rw [zd (ones_at hin),List.flatMap_append,ers,eqs,List.append_assoc];simp only [List.append_cancel_left_eq,List.flatMap_cons,List.flatMap_nil,List.append_nil];exact prs1_eq.symm
  ·rintro σ' H3 ⟨u3,u4,xs,qs,rfl,b3,iK,ki,eqs,lqs⟩;rw [show ((n:Int) - (-1)).toNat=n+1 by omega] at eqs lqs
   rw [List.take_of_length_le (by rw [ones_len]; exact Nat.le_refl _),<- prsD_eq] at eqs
   refine ⟨_,_,_,xs,qs,rfl,b2.trans b3,iK,ki,?_,by omega⟩
   rw [eqs,eps];rcases d01 hd with rfl|rfl
   ·rfl
   ·rfl
 ·rintro σ' H2 ⟨u2,u3,u4,xs,ps,rfl,b2,cV,gl,eps,lps⟩;refine ⟨_,rfl,q p0 xs H2 (λa o ha=>?_) n0 cV ((show ps=prsP n from eps)▸gl)⟩
  have na:a≠p0:=λz=>by rw [z,n0] at ha; cases ha
  exact b2 _ _ na ((s0.trans s1) _ _ ha)
noncomputable def spP_init (K:PySem.W.Frag) (C:Addr):Sp:=λvs H Q _=>∃ (x dx r rx ry l:Addr) (R:Rat × Rat) (xs:List V) (gs:List Bq) (B:Nat),vs=[.ref x,.ref r,.ref l]/\H x=some (.ins C dx [])/\SqT K H r [.ref rx,.ref ry]/\FQ K H rx R.1/\FQ K H ry R.2/\FB 1990 R.1/\FB 1990 R.2/\H l=some (.lst xs)/\Al2 (BqH K 1990 H) xs gs/\gs.length<=6/\CmP B R gs/\B<=1900/\∀ (wl g j:Addr) (H1:Hp),But x H H1->H g=none->H j=none->ZP K H1 C x R gs 0 0 wl g j->Q .non H1
theorem jh:FnScope ["self","room","boxes","pair"] ["self","room","boxes"] (zD (zQ (top 69) 0)):={}
theorem ok_Plane___init__ (D:DfM K (C 7) "__init__" "Plane.__init__" (zQ (top 69) 0) ["self","room","boxes"]) (T:Tx K mg CK C) (dF:Fn P w K mg base 1 "walls_of" ["room"] (JH K)) (c7:Fn P w K mg base 1 "all_pairs" ["count"] (YY K)) (aD:FnM P w K mg base 5 (C 7) "joint_of" ["self","pair"] (j1 K (C 7))) (ar:FnM P w K mg base 6 (C 7) "look_ahead" ["self"] (jO K (C 7))):FnM P w K mg base 7 (C 7) "__init__" ["self","room","boxes"] (spP_init K (C 7)):=by
 refine D.ok0 jh (λvs H Q E h=>?_) (λf cdv A outer s H vs Q E hr h=>?_)
 ·obtain ⟨x,dx,r,rx,ry,l,R,xs,gs,B,rfl,_⟩:=h;rfl
 obtain ⟨x,dx,r,rx,ry,l,R,xs,gs,B,rfl,hx,hr0,grx,gry,fx,fy,hl,al,l6,cm,hB,k⟩:=h
 refine ⟨_,(zE (jN T.cl_Plane T.n_Plane_walls (pv 0) (zJ dF (by decide) hr (by rfl) zG (zA (pv 1) zB)))
   (zE (jN T.cl_Plane T.n_Plane_goings (pv 0) (yX ZA (by rfl) T.b_list PyProof.Rows.Boot.«list» (zA (pv 2) zB)))
   (zE (jN T.cl_Plane T.n_Plane_now (pv 0) (zp (K:=K) rfl (by rfl) T.k_NOUGHT))
   (zE (jN T.cl_Plane T.n_Plane_gone_through (pv 0) zC)
   (zE (jN T.cl_Plane T.n_Plane_joints (pv 0) pe_dnewT)
   (zE (yA PassesOwn.never rfl (yP (zJ c7 (by decide) hr (by rfl) zG (zA (zS zo (by rfl) T.b_len PyProof.Rows.Boot.«len» (zA (pv 2) zB)) zB))) (zj (i:=3) jh.nd rfl (Or.inl rfl)) (zF (ps_dput (Z3 (u100 hr)) (zW T.cl_Plane T.n_Plane_joints (pv 0)) (pv 3) (ya T.cl_Plane aD (by decide) hr zG (pv 0) (zA (pv 3) zB)) rfl)))
   (zF (yI (Zg T.cl_Plane ar (by decide) hr zG (pv 0)))))))))),?_⟩
 try dsimp only [cxK,cxK0]
 have hz:=Al2.len al;refine ⟨_,rfl,r,rx,ry,R,rfl,hr0,grx,gry,fx,fy,λwl H2 s2 G8=>?_⟩
 refine ⟨_,rfl,x,dx,_,rfl,s2 _ _ hx,by show (0:Nat) < 1000; decide,?_⟩
 obtain ⟨H3,q3,s3,e3⟩:=newB (H:=H2) (p:=x) (.ins (C 7) dx (putF ("walls" : Str) (V.ref wl) []));dsimp only;rw [q3];clear q3;replace e3:H3 x=some (.ins (C 7) dx [("walls",.ref wl)]):=e3;have G9:=s2 _ _ hx;have nlx:l≠x:=zq hl hx (by intro z; cases z)
 have gr:=s3 _ _ nlx (s2 _ _ hl);refine ⟨_,rfl,l,xs,rfl,.inl (SqL.of gr),?_⟩;intro p4 n4;obtain ⟨H4,q4,s4,e4⟩:=newO n4 (.lst xs);rw [q4];clear q4;have oP:p4≠x:=Ne.symm (zL e3 n4);refine ⟨_,rfl,x,dx,_,rfl,s4 _ _ e3,by show (1:Nat) < 1000; decide,?_⟩
 obtain ⟨H5,q5,s5,e5⟩:=newB (H:=H4) (p:=x) (.ins (C 7) dx (putF ("goings" : Str) (V.ref p4) [("walls",.ref wl)]));dsimp only;rw [q5];clear q5;replace e5:H5 x=some (.ins (C 7) dx [("walls",.ref wl),("goings",.ref p4)]):=e5;refine λN hN=>?_
 refine ⟨_,rfl,x,dx,_,rfl,e5,by show (2:Nat) < 1000; decide,?_⟩
 obtain ⟨H6,q6,s6,e6⟩:=newB (H:=H5) (p:=x) (.ins (C 7) dx (putF ("now" : Str) (V.ref N) [("walls",.ref wl),("goings",.ref p4)]));dsimp only;rw [q6];clear q6;replace e6:H6 x=some (.ins (C 7) dx [("walls",.ref wl),("goings",.ref p4),("now",.ref N)]):=e6;refine ⟨_,rfl,x,dx,_,rfl,e6,by show (3:Nat) < 1000; decide,?_⟩
 obtain ⟨H7,q7,s7,e7⟩:=newB (H:=H6) (p:=x) (.ins (C 7) dx (putF ("gone_through" : Str) (V.int 0) [("walls",.ref wl),("goings",.ref p4),("now",.ref N)]));dsimp only;rw [q7];clear q7;replace e7:H7 x=some (.ins (C 7) dx [("walls",.ref wl),("goings",.ref p4),("now",.ref N),("gone_through",.int 0)]):=e7;intro p8 n8;obtain ⟨H8,q8,s8,e8⟩:=newO n8 (.dT []);rw [q8];clear q8;have kB:p8≠x:=Ne.symm (zL e7 n8);refine ⟨_,rfl,x,dx,_,rfl,s8 _ _ e7,by show (4:Nat) < 1000; decide,?_⟩
 obtain ⟨H9,q9,s9,e9⟩:=newB (H:=H8) (p:=x) (.ins (C 7) dx (putF ("joints" : Str) (V.ref p8) [("walls",.ref wl),("goings",.ref p4),("now",.ref N),("gone_through",.int 0)]));dsimp only;rw [q9];clear q9;replace e9:H9 x=some (.ins (C 7) dx [("walls",.ref wl),("goings",.ref p4),("now",.ref N),("gone_through",.int 0),("joints",.ref p8)]):=e9;have rh:But x H2 H4:=s3.trans (But.of s4);have oQ:But x H4 H7:=s5.trans (s6.trans s7);have i7:But x H7 H9:=(But.of s8).trans s9;have rj:But x H2 H9:=rh.trans (oQ.trans i7);have kD:Buts [x] H2 H9:=Buts.one rj (by simp)
 have Hd:NoT [x] H2:=NoT.ins G9 NoT.nil;obtain ⟨wkv,hwl⟩:∃ kv,H2 wl=some (.dT kv):=by
  obtain ⟨_,_,_,_,e,_⟩:=G8;exact ⟨_,e⟩
 have nwx:wl≠x:=zq hwl G9 (by intro z; cases z)
 have rl:=(rh.trans oQ) _ _ nwx hwl;have oR:wl≠p8:=zL rl n8;have He:=oQ _ _ oP e4;have oS:p4≠p8:=zL He n8;have KI:=i7 _ _ oP He;have ka:=s9 _ _ kB e8;have oG:=yg (zY al s2) kD Hd;have gT:=rj _ _ nlx (s2 _ _ hl);have KJ:NoM [("walls",.ref wl),("goings",.ref p4),("now",.ref N),("gone_through",.int 0),("joints",.ref p8)]:=⟨rfl,rfl,rfl,rfl,rfl,rfl,rfl,rfl,rfl,rfl,rfl,rfl,rfl,rfl,rfl,rfl,rfl⟩;have kc:PlG K H9 (C 7) x R gs dx [("walls",.ref wl),("goings",.ref p4),("now",.ref N),("gone_through",.int 0),("joints",.ref p8)] wl p4 xs:=⟨e9,rfl,rfl,G8.buts kD Hd (by simp [nwx]),KI,oG,KJ⟩
 refine ⟨_,rfl,_,_,rfl,.inl ⟨_,SqL.of gT,rfl⟩,xs.length,rfl,by omega,λpa ys bO aI iP iQ hW=>?_⟩
 rw [hz] at hW;have hzp:=Al2.len hW;have lps:=Zz l6;have nd:=Jo l6;have bL:=kc.same aI;have bU:=aI _ _ ka;have dD:NoT [p8] bO:=NoT.dct bU NoT.nil;have nxa:x≠pa:=zL e9 iP;have n8a:p8≠pa:=zL ka iP;refine ⟨pa,rfl,⟨_,SqL.of iQ⟩,jS (K:=K) (a:=pa) (xs:=ys) (λi σ' H'=>∃ (u3:Option V) (kv:List (List Key × V)),σ'=[some (.ref x),some (.ref r),some (.ref l),u3]/\But p8 bO H'/\H' p8=some (.dT kv)/\kv.map (·.1)=((prsP gs.length).take i).map keyP/\Al2 (OptB K H') (kv.map (·.2)) (((prsP gs.length).take i).map (jntP R gs))) ⟨_,[],rfl,But.refl _,bU,rfl,trivial⟩ (by rintro _ _ _ _ ⟨_,_,_,g5,_⟩; exact SqL.of (g5 _ _ (Ne.symm n8a) iQ)) ?_ ?_⟩
 ·rintro i y σ' cM hy ⟨u3,kv,rfl,kE,bV,ks,js⟩;have fM:Buts [p8] bO cM:=Buts.one kE (by simp)
  have hi:i < ys.length:=(List.getElem?_eq_some_iff.mp hy).1;obtain ⟨q,hq,c,rfl,hc⟩:=Al2.get (yt hW fM dD) hy;have hin:InP gs.length q:=jC.mp (List.mem_of_getElem? hq);have bM:PlG K cM (C 7) x R gs dx [("walls",.ref wl),("goings",.ref p4),("now",.ref N),("gone_through",.int 0),("joints",.ref p8)] wl p4 xs:=bL.buts fM dD (by simp [Ne.symm kB]) (by simp [oR]) (by simp [oS])
  refine ⟨_,rfl,x,_,_,rfl,bM.ob,bM.nm.joint_of,_,rfl,x,c,R,gs,dx,_,wl,p4,xs,q,rfl,bM,hc,hin,(cm.far q.1 q.2.1).mono (by omega),λt et=>(cm.jnt et).mono (by omega),λKK dC ak KL=>?_⟩
  have eW:=ak _ _ bV;have lkv:kv.length<=200:=by
   have z:=congrArg List.length ks;rw [List.length_map,List.length_map,List.length_take] at z;omega
  refine ⟨_,rfl,x,_,_,_,rfl,ak _ _ bM.ob,rfl,_,rfl,p8,_,rfl,DPut.t (k:=keyP q) eW (ak _ _ hc) (Nat.lt_of_le_of_lt lkv (by decide)),?_⟩
  obtain ⟨ku,eC,aC,fJ⟩:=newB (H:=dC) (p:=p8) (.dT (putK kv (keyP q) KK));dsimp only;rw [eC];clear eC;rw [putK_snoc nd ks hq] at fJ;have kF:NoT [p8] dC:=NoT.dct eW NoT.nil;have kG:Buts [p8] dC ku:=Buts.one aC (by simp)
  refine ⟨_,_,rfl,kE.trans ((But.of ak).trans aC),fJ,?_,?_⟩
  ·rw [List.map_append,ks,zd hq,List.map_append];rfl
  ·rw [List.map_append,zd hq,List.map_append];exact Al2.snoc (yY (optb_same js ak) kG kF) (KL.buts kG kF)
 ·rintro σ' cM ⟨u3,kv,rfl,kE,bV,ks,js⟩;rw [hzp,List.take_length] at ks js;have fM:Buts [p8] bO cM:=Buts.one kE (by simp)
  have bM:PlG K cM (C 7) x R gs dx [("walls",.ref wl),("goings",.ref p4),("now",.ref N),("gone_through",.int 0),("joints",.ref p8)] wl p4 xs:=bL.buts fM dD (by simp [Ne.symm kB]) (by simp [oR]) (by simp [oS])
  have rm:PlJ K cM R gs [("walls",.ref wl),("goings",.ref p4),("now",.ref N),("gone_through",.int 0),("joints",.ref p8)] p8 kv:=⟨rfl,.inl bV,ks,js⟩;refine ⟨_,rfl,x,_,_,rfl,bM.ob,rfl,x,R,gs,dx,_,wl,p4,xs,p8,kv,N,0,rfl,bM,rm,bV,oR,rfl,zw (hN _),zr.mono (by decide),by show (5:Nat) < 900; decide,l6,λkj iO qZ dC ak dU cW hX rA rB=>?_⟩
  replace cW:dC x=some (.ins (C 7) dx (plF wl p4 N ((0:Nat):Int) p8 kj iO)):=cW;have ia:Buts [x] cM dC:=Buts.one ak (by simp)
  have dE:NoT [x] cM:=NoT.ins bM.ob NoT.nil;have eW:=ak _ _ kB bV;have n4:=ym s2 (ZY s3 n4 oP);have n8:=ym s2 (ZY (rh.trans oQ) n8 kB);refine k wl p4 p8 dC (λa o na ha=>?_) n4 n8 ⟨dx,N,kj,iO,xs,kv,qZ,⟨cW,rfl,rfl,bM.ws.buts ia dE (by simp [nwx]),ak _ _ oP bM.hg,yg bM.al ia dE,plF_nm⟩,⟨rfl,.inl eW,ks,yY js ia dE⟩,eW,oR,zw (hN _),zr.mono (by decide),hX,rA,rB,λz=>by rw [z,bM.hg] at dU; cases dU⟩
  have KM:a≠p8:=λz=>by rw [z,n8] at ha; cases ha
  exact ak _ _ na (kE _ _ KM (aI _ _ (rj _ _ na (s2 _ _ ha))))
noncomputable def JB (K:PySem.W.Frag) (C:Addr):Sp:=λvs H Q _=>∃ (p:Addr) (R:Rat × Rat) (gs:List Bq) (now:Rat) (n:Nat) (wl g j:Addr) (m:Nat),vs=[.ref p,.int (m:Int)]/\ZP K H C p R gs now n wl g j/\gs.length<=6/\n<=m/\∀ (v:V) (H1:Hp),Same H H1->((v=.non/\n < m/\(∃ t,comP R gs now=some t)/\crwP R gs now=false)\/∃ wd:String,v=.str wd/\RunP R gs now (m - n) wd [] gs now)->Q v H1
theorem sc_end_word:FnScope ["course","most"] ["course","most"] (zD (top 58)):={}
theorem ok_end_word (D:Df K mg "end_word" (top 58) ["course","most"]) (T:Tx K mg CK C) (ba:FnM P w K mg base 7 (C 7) "is_crowded" ["self"] (Zq K (C 7))):Fn P w K mg base 8 "end_word" ["course","most"] (JB K (C 7)):=by
 refine D.ok0 sc_end_word (λvs H Q E h=>?_) (λf cdv A outer s H vs Q E hr h=>?_)
 ·obtain ⟨p,R,gs,now,n,wl,g,j,m,rfl,_⟩:=h;rfl
 obtain ⟨p,R,gs,now,n,wl,g,j,m,rfl,cr,l6,nm,k⟩:=h
 refine ⟨_,(zE (ze (zR J4 (zW T.cl_Plane T.n_Plane_coming (pv 0)) yf (zU _)) (zF (zM zx)) zT)
   (zE (ze (zR ji (zW T.cl_Plane T.n_Plane_gone_through (pv 0)) (pv 1) (zU _)) (zF (zM zx)) zT)
   (zE (ze (zh (Zg T.cl_Plane ba (by decide) hr zG (pv 0)) (λ_=>rfl)) (zF (zM zx)) zT)
   (zF (zM yf))))),?_⟩
 try dsimp only [cxK,cxK0]
 obtain ⟨dx,nw,co,du,xs,kvs,ds,pg,pj,hj,njw,gn,dn,oc,hd,al,ndg⟩:=id cr;refine ⟨_,rfl,p,_,_,_,rfl,pg.ob,rfl,rfl,_,rfl,?_⟩;refine zc (λc=>?_) (λc=>?_)
 ·exact k _ H (Same.refl _) (.inr ⟨"still",rfl,.still (oc.non.mp c)⟩)
 obtain ⟨t,pc,et,rfl,gt,dt⟩:∃ (t:Rat) (pc:Addr),comP R gs now=some t/\co=.ref pc/\FQ K H pc t/\FB 2000 t:=by
  rcases oc with ⟨_,e⟩|⟨t,pc,e,e',g',d'⟩
  ·exact absurd e c
  ·exact ⟨t,pc,e,e',g',d'⟩
 refine ⟨_,rfl,p,_,_,_,rfl,pg.ob,rfl,_,rfl,rfl,_,rfl,?_⟩;refine yh (λc1=>?_) (λc1=>?_)
 ·have e:m - n=0:=by omega
  refine k _ H (Same.refl _) (.inr ⟨"more",rfl,?_⟩);rw [e];exact .more et
 obtain ⟨d,ed⟩:∃ d,m - n=d+1:=⟨m - n - 1,by omega⟩
 refine ⟨_,rfl,p,_,_,rfl,pg.ob,rfl,p,R,gs,dx,_,wl,g,xs,j,kvs,du,ds,dueP R gs now,now,t,pc,rfl,pg,pj,hj,njw,rfl,hd,al,due_few l6,l6,rfl,et,rfl,gt,dt,λH1 s1=>⟨_,rfl,?_⟩⟩
 cases b:crwP R gs now with
 |true=>
  refine iteT ?_;refine k _ H1 s1 (.inr ⟨"crowd",rfl,?_⟩);rw [ed];exact .crowd et b
 |false=>
  refine iteF ?_;exact k _ H1 s1 (.inl ⟨rfl,by omega,⟨t,et⟩,b⟩)
noncomputable def ToldP (K:PySem.W.Frag) (H:Hp) (r:Addr) (wd:String) (ms:List (Rat × Pr)) (es:List Bq) (last:Rat):Prop:=∃ (rr rb rn:Addr) (zs ws:List V),SqT K H r [.str wd,.ref rr,.ref rb,.ref rn]/\H rr=some (.lst zs)/\Al2 (MtP K H) zs ms/\H rb=some (.lst ws)/\Al2 (BqH K 5990 H) ws (es.map (atB last))/\FQ K H rn last/\FB 2000 last
theorem plnat_but {K:PySem.W.Frag} {H H':Hp} {C p:Addr} {R:Rat × Rat} {gs:List Bq} {now:Rat} {n:Nat} {wl g j z:Addr} (h:ZP K H C p R gs now n wl g j) (s:But z H H') (nt:NoT [z] H) (f:∀ a,a=p\/a=wl\/a=g\/a=j->a≠z) (fd:∀ a xs,H a=some (.lst xs)->a=z->False\/True) (nd:∀ dx fs,H p=some (.ins C dx fs)->∀ du,fs.lookup ("due" : Str)=some (.ref du)->du≠z):ZP K H' C p R gs now n wl g j:=by
 obtain ⟨dx,nw,co,du,xs,kvs,ds,pg,pj,hj,njw,gn,dn,oc,hd,al,ndg⟩:=h;have bs:Buts [z] H H':=Buts.one s (by simp)
 have dz:=nd _ _ pg.ob du rfl;have hj':=s _ _ (f j (by simp)) hj
 exact ⟨dx,nw,co,du,xs,kvs,ds,pg.buts bs nt (by simp [f p]) (by simp [f wl]) (by simp [f g]),pj.buts bs nt (.inl hj'),hj',njw,bs.tup nt gn,dn,oc.buts bs nt,s _ _ dz hd,yt al bs nt,ndg⟩
noncomputable def YW (K:PySem.W.Frag) (C:Addr):Sp:=λvs H Q _=>∃ (p:Addr) (R:Rat × Rat) (gs:List Bq) (wl g j:Addr) (m B:Nat),vs=[.ref p,.int (m:Int)]/\ZP K H C p R gs 0 0 wl g j/\gs.length<=6/\WtB gs/\CmP B R gs/\B+90 * m<=1900/\m<=40/\∀ (r:Addr) (wd:String) (ms:List (Rat × Pr)) (es:List Bq) (last:Rat) (H1:Hp),Buts [p,g,j] H H1->RunP R gs 0 m wd ms es last->ToldP K H1 r wd ms es last->Q (.ref r) H1
theorem jM:FnScope ["course","most","run","word"] ["course","most"] (zD (top 59)):={}
theorem ok_run_along (D:Df K mg "run_along" (top 59) ["course","most"]) (T:Tx K mg CK C) (bW:Fn P w K mg base 8 "end_word" ["course","most"] (JB K (C 7))) (bC:FnM P w K mg base 1 (C 7) "meetings" ["self"] (Yq K (C 7))) (cw:FnM P w K mg base 7 (C 7) "go_on" ["self"] (spP_go_on K (C 7))) (aA:FnM P w K mg base 5 (C 7) "bodies_at" ["self","moment"] (jn K (C 7))):Fn P w K mg base 9 "run_along" ["course","most"] (YW K (C 7)):=by
 refine D.ok0 jM (λvs H Q E h=>?_) (λf cdv A outer s H vs Q E hr h=>?_)
 ·obtain ⟨p,R,gs,wl,g,j,m,B,rfl,_⟩:=h;rfl
 obtain ⟨p,R,gs,wl,g,j,m,B,rfl,cr,l6,hw,cm,hB,m40,k⟩:=h
 refine ⟨_,(zE (zO (i:=2) jM.nd rfl (Or.inl rfl) (zv zB))
   (zE (zO (i:=3) jM.nd rfl (Or.inl rfl) (zJ bW (by decide) hr (by rfl) zG (zA (pv 0) (zA (pv 1) zB))))
   (zE (YR PassesOwn.never (zR J4 (pv 3) yf (zU _)) (zE (yI (pe_bm PySem.F.plainAttrs_list PySem.F.slot_list_extend PySem.F.type_list_extend mt_extend (pv 2) (zA (Zg T.cl_Plane bC (by decide) hr zG (pv 0)) zB)))
   (zE (yI (Zg T.cl_Plane cw (by decide) hr zG (pv 0)))
   (zF (zO (i:=3) jM.nd rfl (Or.inl rfl) (zJ bW (by decide) hr (by rfl) zG (zA (pv 0) (zA (pv 1) zB))))))))
   (zF (zM (zP (zA (pv 3) (zA (pv 2) (zA (ya T.cl_Plane aA (by decide) hr zG (pv 0) (zA (zW T.cl_Plane T.n_Plane_now (pv 0)) zB)) (zA (zW T.cl_Plane T.n_Plane_now (pv 0)) zB)))))))))),?_⟩
 try dsimp only [cxK,cxK0]
 refine ⟨by show 0<=sizeLine; decide,?_⟩
 intro p2 n2;obtain ⟨H2,q2,s2,e2⟩:=newO n2 (.lst []);rw [q2];clear q2;have rC:=cr.same s2;have apart:∀ a,a=p\/a=wl\/a=g\/a=j->a≠p2:=λa ha=>by
  obtain ⟨dx,nw,co,du,xs,kvs,ds,pg,pj,hj,_⟩:=id cr;obtain ⟨_,_,_,_,hwl,_⟩:=pg.ws;rcases ha with rfl|rfl|rfl|rfl
  ·exact zL pg.ob n2
  ·exact zL hwl n2
  ·exact zL pg.hg n2
  ·exact zL hj n2
 have apd:∀ dx fs,H2 p=some (.ins (C 7) dx fs)->∀ du,fs.lookup ("due" : Str)=some (.ref du)->du≠p2:=λdx' fs' hp' du' hdu'=>by
  obtain ⟨dx,nw,co,du,xs,kvs,ds,pg,pj,hj,njw,gn,dn,oc,hd,_⟩:=id cr;rw [s2 _ _ pg.ob] at hp';cases hp'
  cases (show some (V.ref du)=some (.ref du') from hdu')
  exact zL hd n2
 refine ⟨_,rfl,_,rfl,p,R,gs,0,0,wl,g,j,m,rfl,rC,l6,Nat.zero_le _,λw3 H3 s3 rD=>?_⟩
 refine ⟨λd σ' H'=>∃ (w4:V) (gk:List Bq) (now:Rat) (n:Nat) (zs:List V) (ms:List (Rat × Pr)),σ'=[some (.ref p),some (.int (m:Int)),some (.ref p2),some w4]/\d=m - n/\n<=m/\Buts [p,g,j,p2] H2 H'/\ZP K H' (C 7) p R gk now n wl g j/\gk.length=gs.length/\WtB gk/\CmP (B+90 * n) R gk/\(∀ dx fs,H' p=some (.ins (C 7) dx fs)->∀ du,fs.lookup ("due" : Str)=some (.ref du)->du≠p2)/\H' p2=some (.lst zs)/\Al2 (MtP K H') zs ms/\ms.length<=6 * n/\(∀ wd ms' es last,RunP R gk now (m - n) wd ms' es last->RunP R gs 0 m wd (ms++ms') es last)/\((w4=.non/\n < m/\(∃ t,comP R gk now=some t)/\crwP R gk now=false)\/∃ wd:String,w4=.str wd/\RunP R gk now (m - n) wd [] gk now),⟨_,w3,gs,0,0,[],[],rfl,rfl,Nat.zero_le _,Buts.of s3,rC.same s3,rfl,hw,cm,?_,s3 _ _ e2,trivial,Nat.zero_le _,λ_ _ _ _ r=>r,rD⟩,?_⟩
 ·intro dx' fs' hp' du' hdu';obtain ⟨dx,nw,co,du,xs,kvs,ds,pg,_⟩:=id rC;have z:=s3 _ _ pg.ob;rw [hp'] at z;cases z
  exact apd _ _ pg.ob du' hdu'
 rintro d σ' H4 ⟨w4,gk,now,n,zs,ms,rfl,rfl,nm,s4,Hf,ln,oJ,oI,du4,e4,az,lm,go,alt⟩;obtain ⟨dx,nw,co,du,xs,kvs,ds,pg,pj,hj,njw,gn,dn,oc,hd,al,ndg⟩:=id Hf;refine ⟨_,rfl,rfl,_,rfl,?_⟩;rcases alt with ⟨rfl,nlt,⟨t,et⟩,ncr⟩|⟨wd,rfl,rq⟩
 ·refine zc (λ_=>?_) (λc=>absurd rfl c)
  refine ⟨_,λ_ _ n=>n,?_⟩
  obtain ⟨pc,rfl,gt,dt⟩:∃ (pc:Addr),co=.ref pc/\FQ K H4 pc t/\FB 2000 t:=by
   rcases oc with ⟨e,_⟩|⟨t',pc,e,e',g',d'⟩
   ·rw [et] at e;cases e
   ·rw [et] at e;cases e
    exact ⟨pc,e',g',d'⟩
  have six:(dueP R gk now).length<=6:=due_six (by omega) (by
   have z:=ncr;unfold crwP at z
   exact (Bool.or_eq_false_iff.mp z).1)
  refine ⟨_,rfl,.inl ⟨rfl,_,SqL.of e4⟩,_,rfl,p,_,_,rfl,pg.ob,rfl,p,dx,_,du,ds,dueP R gk now,t,pc,rfl,pg.ob,rfl,hd,al,due_few (by omega),λq hq=>(Z9 q hq).1,rfl,gt,dt,λr5 ib H5 s5 n5 e5 bF=>?_⟩
  have em:(dueP R gk now).map (λq=>(t,q))=mtsP R gk now:=by
   unfold mtsP;rw [et];rfl
  rw [em] at bF;have T9:(mtsP R gk now).length<=6:=by rw [<- em,List.length_map]; exact six
  have lz:=Al2.len az;have Ua:=Al2.len bF;refine ⟨p2,r5,zs,ib,rfl,rfl,s5 _ _ e4,e5,Nat.le_trans (show zs.length+ib.length<=6 * 41+6 by omega) (by decide),?_⟩
  obtain ⟨H6,q6,s6,e6⟩:=newB (H:=H5) (p:=p2) (.lst (zs++ib));dsimp only;rw [q6];clear q6;have i5:=s5 _ _ e4;have KN:Buts [p2] H5 H6:=Buts.one s6 (List.mem_singleton.mpr rfl);have oy:NoT [p2] H5:=NoT.lst i5 NoT.nil;have dup:du≠p2:=du4 _ _ pg.ob du rfl
  have Hg:ZP K H6 (C 7) p R gk now n wl g j:=plnat_but (Hf.same s5) s6 oy apart (λ_ _ _ _=>.inr trivial) (λdx' fs' hp' du' hdu'=>by
   rw [s5 _ _ pg.ob] at hp';cases hp'
   cases (show some (V.ref du)=some (.ref du') from hdu')
   exact dup)
  obtain ⟨Ub,nw6,co6,du6,xs6,kvs6,ds6,fI,pj6,KO,_⟩:=id Hg;refine ⟨_,rfl,p,_,_,rfl,fI.ob,rfl,p,R,gk,now,n,wl,g,j,t,B+90 * n,rfl,Hg,by omega,oJ,et,oI,by omega,λH7 s7 rE KP=>?_⟩
  have oE:NoT [p,g,j] H6:=NoT.ins fI.ob (NoT.lst fI.hg (NoT.dct KO NoT.nil));have e7:=s7 _ _ (by simp [Ne.symm (apart p (by simp)),Ne.symm (apart g (by simp)),Ne.symm (apart j (by simp))]) e6
  have KQ:Al2 (MtP K H7) (zs++ib) (ms++mtsP R gk now):=mtp_buts (mtp_buts (al_app (ZX az s5) bF) KN oy) s7 oE;have on_ln:(onP R gk now).length=gk.length:=Z0 _ _;obtain ⟨KR,hw7⟩:=Jl (dueP R gk now) oI oJ (λq hq=>Z9 q hq)
  refine ⟨_,rfl,_,rfl,p,R,onP R gk now,t,n+1,wl,g,j,m,rfl,rE,by omega,by omega,λw8 H8 s8 rF=>?_⟩
  refine ⟨m - (n+1),by omega,w8,onP R gk now,t,n+1,zs++ib,ms++mtsP R gk now,rfl,rfl,by omega,?_,rE.same s8,by omega,hw7,KR.mono (by omega),?_,s8 _ _ e7,ZX KQ s8,by rw [List.length_append]; omega,λwd ms' es last r=>?_,rF⟩
  ·exact s4.trans ((Buts.of s5).trans ((Buts.one s6 (by simp)).trans ((s7.mono (by simp)).trans (Buts.of s8))))
  ·intro dx' fs' hp' du' hdu' z;obtain ⟨Uc,nw7,co7,du7,xs7,kvs7,ds7,pg7,pj7,hj7,njw7,gn7,dn7,Hh,hd7,fL,ndg7⟩:=id rE;have y:=s8 _ _ pg7.ob;rw [hp'] at y;cases y
   cases (show some (V.ref du7)=some (.ref du') from hdu')
   rcases KP _ _ pg7.ob _ rfl p2 _ e6 with y|y
   ·exact y z
   ·exact apart p2 (by rcases y with y|y|y<;>simp [y]) rfl
  ·have z:RunP R gk now (m - (n+1)+1) wd (mtsP R gk now++ms') es last:=.step et ncr r;rw [show m - (n+1)+1=m - n by omega] at z
   have z2:=go wd _ es last z;rw [<- List.append_assoc] at z2;exact z2
 ·refine zc (λc=>nomatch c) (λ_=>?_)
  refine ⟨_,rfl,_,rfl,_,rfl,p,_,_,rfl,pg.ob,rfl,_,rfl,p,_,_,_,rfl,pg.ob,rfl,p,nw,dx,g,_,xs,gk,now,rfl,pg.ob,rfl,pg.hg,pg.al,by omega,gn,dn,λr5 ib H5 s5 n5 e5 bF=>?_⟩
  refine ⟨_,rfl,p,_,_,_,rfl,s5 _ _ pg.ob,rfl,by show 4<=sizeLine; decide,?_⟩
  intro p6 n6;obtain ⟨H6,q6,s6,e6⟩:=newO n6 (.tup [.str wd,.ref p2,.ref r5,.ref nw]);rw [q6];clear q6;have cU:=s5.trans s6;have fin:=go wd [] gk now rq;rw [List.append_nil] at fin;refine k p6 wd ms gk now H6 ?_ fin ⟨p2,r5,nw,zs,ib,SqT.of e6,cU _ _ e4,ZX az cU,s6 _ _ e5,zY bF s6,Kw.Same.tup cU gn,dn⟩;intro a o na ho;have a2:a≠p2:=zL ho n2;refine cU a o (s4 a o ?_ (s2 a o ho));simp only [List.mem_cons,List.not_mem_nil,or_false,not_or] at na ⊢;exact ⟨na.1,na.2.1,na.2.2,a2⟩
noncomputable def jW (K:PySem.W.Frag):Sp:=λvs H Q _=>(∃ (p:Addr) (q:Rat),vs=[.ref p]/\FQ K H p q/\FB 4000 q/\Q (.bl true) H)\/∃ v,vs=[v]/\NoTup K H v/\Q (.bl false) H
theorem jZ:FnScope ["thing","top","bottom"] ["thing"] (zD (top 16)):={}
theorem ok_is_fraction (D:Df K mg "is_fraction" (top 16) ["thing"]) (T:Tx K mg CK C) (am:Fn P w K mg base 1 "is_whole" ["thing"] (Ya K)) (ad:Fn P w K mg base 1 "common_divisor" ["one","other"] J7):Fn P w K mg base 2 "is_fraction" ["thing"] (jW K):=by
 refine D.ok0 jZ (λvs H Q E h=>?_) (λf cdv A outer s H vs Q E hr h=>?_)
 ·rcases h with ⟨p,q,rfl,_⟩|⟨v,rfl,_⟩
  ·rfl
  ·rfl
 refine ⟨_,(zE (ze (y9 (yH (zh (zS (jF (K:=K) rfl) (by rfl) T.b_isinstance PyProof.Rows.Boot.«isinstance» (zA (pv 0) (zA (Zr (by rfl) T.b_tuple PyProof.Rows.Boot.«tuple») zB))) (λ_=>rfl))) (yO (zR Jt (zS zo (by rfl) T.b_len PyProof.Rows.Boot.«len» (zA (pv 0) zB)) zC (zU _)))).pt (zF (zM yW)) zT)
   (zE (zO (i:=1) jZ.nd rfl (Or.inl rfl) (zH ix_tup (pv 0) zC (λ_ _=>rfl)))
   (zE (zO (i:=2) jZ.nd rfl (Or.inl rfl) (zH ix_tup (pv 0) zC (λ_ _=>rfl)))
   (zE (ze (y9 (yH (zh (zJ am (by decide) hr (by rfl) zG (zA (pv 1) zB)) (λ_=>rfl))) (yO (yH (zh (zJ am (by decide) hr (by rfl) zG (zA (pv 2) zB)) (λ_=>rfl))))).pt (zF (zM yW)) zT)
   (zF (zM (yd (yy YM (pv 2) zC (zU _)) (yR (yy ji (zJ ad (by decide) hr (by rfl) zG (zA (pv 1) (zA (pv 2) zB))) zC (zU _)))))))))),?_⟩
 try dsimp only [cxK,cxK0]
 rcases h with ⟨p,q,rfl,hp,dq,k⟩|⟨v,rfl,nt,k⟩
 rotate_left
 ·exact ⟨_,rfl,_,_,false,rfl,.inl ⟨_,rfl⟩,.inl nt,_,rfl,iteT k⟩
 have hp':SqT K H p [.int q.num,.int ((q.den:Nat):Int)]:=hp;refine ⟨_,rfl,_,_,true,rfl,.inl ⟨_,rfl⟩,.inr ⟨_,_,rfl,hp',yG⟩,_,rfl,iteF ?_⟩;refine ⟨_,rfl,_,_,rfl,.inr ⟨_,hp',rfl⟩,rfl,_,rfl,iteF ?_⟩;refine ⟨_,rfl,p,_,_,_,rfl,rfl,hp',rfl,_,rfl,p,_,_,_,rfl,rfl,hp',rfl,?_⟩;refine ⟨_,rfl,_,_,true,false,rfl,.int _,yS,yJ,_,rfl,iteF ?_⟩;refine ⟨_,rfl,_,_,true,false,rfl,.int _,yS,yJ,_,rfl,iteF ?_⟩;refine ⟨_,rfl,_,_,rfl,rfl,_,rfl,?_⟩;have d1:(1:Int)<=((q.den:Nat):Int):=by have:=q.den_pos; omega
 refine zc (λ_=>?_) (λc=>absurd d1 c)
 refine ⟨_,rfl,_,rfl,q.num,((q.den:Nat):Int),rfl,dq.2,rfl,?_⟩;have g1:Int.gcd q.num ((q.den:Nat):Int)=1:=q.reduced;rw [g1];exact k
noncomputable def jo (K:PySem.W.Frag):Sp:=λvs H Q _=>(∃ (p:Addr) (q:Rat),vs=[.ref p]/\FQ K H p q/\FB 1990 q/\0 < q/\∀ (H1:Hp),Same H H1->Q (.bl true) H1)\/(∃ v,vs=[v]/\NoTup K H v/\Q (.bl false) H)\/∃ p,vs=[.ref p]/\FQ K H p 0/\∀ (H1:Hp),Same H H1->Q (.bl false) H1
theorem sc_is_breadth:FnScope ["thing"] ["thing"] (zD (top 40)):={}
theorem ok_is_breadth (D:Df K mg "is_breadth" (top 40) ["thing"]) (T:Tx K mg CK C) (aL:Fn P w K mg base 2 "is_fraction" ["thing"] (jW K)) (aE:Fn P w K mg base 1 "under" ["one","other"] (ZV K)):Fn P w K mg base 3 "is_breadth" ["thing"] (jo K):=by
 refine D.ok0 sc_is_breadth (λvs H Q E h=>?_) (λf cdv A outer s H vs Q E hr h=>?_)
 ·rcases h with ⟨p,q,rfl,_⟩|⟨v,rfl,_⟩|⟨p,rfl,_⟩
  ·rfl
  ·rfl
  ·rfl
 refine ⟨_,(zF (zM (yd (zJ aL (by decide) hr (by rfl) zG (zA (pv 0) zB)) (yR (zJ aE (by decide) hr (by rfl) zG (zA (zp (K:=K) rfl (by rfl) T.k_NOUGHT) (zA (pv 0) zB))))))),?_⟩
 try dsimp only [cxK,cxK0]
 rcases h with ⟨p,q,rfl,hp,dq,q0,k⟩|⟨v,rfl,nt,k⟩|⟨p,rfl,hp,k⟩
 ·refine ⟨_,rfl,.inl ⟨p,q,rfl,hp,dq.mono (by decide),_,rfl,iteT λN hN=>?_⟩⟩
  refine ⟨_,rfl,N,0,p,q,rfl,zw (hN _),zr.mono (by decide),hp,dq.mono (by decide),λH1 s1=>?_⟩
  have z:=k H1 s1;rw [<- decide_eq_true q0] at z;exact z
 ·exact ⟨_,rfl,.inr ⟨v,rfl,nt,_,rfl,iteF k⟩⟩
 ·refine ⟨_,rfl,.inl ⟨p,0,rfl,hp,zr.mono (by decide),_,rfl,iteT λN hN=>?_⟩⟩
  refine ⟨_,rfl,N,0,p,0,rfl,zw (hN _),zr.mono (by decide),hp,zr.mono (by decide),λH1 s1=>?_⟩
  have z:=k H1 s1;rw [<- decide_eq_false (Rat.lt_irrefl (a:=0))] at z;exact z
noncomputable def Ym (K:PySem.W.Frag):Sp:=λvs H Q _=>∃ (m:Int),vs=[.int m]/\1<=m/\m<=1000/\Q (.bl true) H
theorem sc_is_weight:FnScope ["thing"] ["thing"] (zD (top 34)):={}
theorem ok_is_weight (D:Df K mg "is_weight" (top 34) ["thing"]) (T:Tx K mg CK C) (am:Fn P w K mg base 1 "is_whole" ["thing"] (Ya K)):Fn P w K mg base 2 "is_weight" ["thing"] (Ym K):=by
 refine D.ok0 sc_is_weight (λvs H Q E h=>?_) (λf cdv A outer s H vs Q E hr h=>?_)
 ·obtain ⟨m,rfl,_⟩:=h;rfl
 obtain ⟨m,rfl,m1,m2,k⟩:=h;refine ⟨_,(zF (zM (yd (zJ am (by decide) hr (by rfl) zG (zA (pv 0) zB)) (yR (pe_chain Jj Jj zC (pv 0) (zX (by rfl) T.k_MOST_WEIGHT)))))),?_⟩
 try dsimp only [cxK,cxK0]
 refine ⟨_,rfl,_,_,true,false,rfl,.int m,yS,yJ,_,rfl,iteT ?_⟩;refine ⟨_,rfl,_,_,rfl,rfl,_,rfl,?_⟩;refine zc (λ_=>?_) (λc=>absurd m1 c)
 have z:=k;rw [<- decide_eq_true m2] at z;exact ⟨_,_,rfl,rfl,z⟩
noncomputable def sp_is_box (K:PySem.W.Frag):Sp:=λvs H Q _=>(∃ (z:V) (b:Bq),vs=[z]/\BqH K 1990 H z b/\0 < b.w/\0 < b.h/\(∃ m,b.m=some m)/\∀ (H1:Hp),Same H H1->Q (.bl true) H1)\/∃ v,vs=[v]/\BadB K H v/\Q (.bl false) H
theorem sc_is_box:FnScope ["thing"] ["thing"] (zD (top 41)):={}
theorem ok_is_box (D:Df K mg "is_box" (top 41) ["thing"]) (T:Tx K mg CK C) (aL:Fn P w K mg base 2 "is_fraction" ["thing"] (jW K)) (aB:Fn P w K mg base 3 "is_breadth" ["thing"] (jo K)) (c8:Fn P w K mg base 2 "is_weight" ["thing"] (Ym K)):Fn P w K mg base 4 "is_box" ["thing"] (sp_is_box K):=by
 refine D.ok0 sc_is_box (λvs H Q E h=>?_) (λf cdv A outer s H vs Q E hr h=>?_)
 ·rcases h with ⟨z,b,rfl,_⟩|⟨v,rfl,_⟩
  ·rfl
  ·rfl
 refine ⟨_,(zE (ze (y9 (yH (zh (zS (jF (K:=K) rfl) (by rfl) T.b_isinstance PyProof.Rows.Boot.«isinstance» (zA (pv 0) (zA (Zr (by rfl) T.b_tuple PyProof.Rows.Boot.«tuple») zB))) (λ_=>rfl))) (yO (zR Jt (zS zo (by rfl) T.b_len PyProof.Rows.Boot.«len» (zA (pv 0) zB)) zC (zU _)))).pt (zF (zM yW)) zT)
   (zE (ze (yH (zh (zS (call_all (K:=K) rfl rfl) (by rfl) T.b_all PyProof.Rows.Boot.«all» (zA (@JD _ _ _ _ _ _ _ _ _ _ ["thing"] [0] rfl (pi_tup (zP (zA zC (zA zC (zA zC (zA zC zB)))))) rfl (by decide) rfl (by decide) rfl (by decide) (ZE (j:=0) rfl rfl rfl rfl (.inl rfl)) (λy c h=>h) (YF rfl) (λC z Hc fp=>(zJ aL (by decide) hr (by rfl) zG (zA (zH (ixT (K:=K) rfl) (pv 1) (pv 0) (λ_ _=>rfl)) zB))) (λ_=>rfl)) zB)) (λ_=>rfl))) (zF (zM yW)) zT)
   (zF (zM (yd (zJ aB (by decide) hr (by rfl) zG (zA (zH ix_tup (pv 0) zC (λ_ _=>rfl)) zB)) (yd (zJ aB (by decide) hr (by rfl) zG (zA (zH ix_tup (pv 0) zC (λ_ _=>rfl)) zB)) (yR (zJ c8 (by decide) hr (by rfl) zG (zA (zH ix_tup (pv 0) zC (λ_ _=>rfl)) zB))))))))),?_⟩
 try dsimp only [cxK,cxK0]
 rcases h with h|⟨v,rfl,nt|⟨p,rfl,e⟩|⟨p,rfl,e⟩,k⟩
 rotate_left
 ·exact ⟨_,rfl,_,_,false,rfl,.inl ⟨_,rfl⟩,.inl nt,_,rfl,iteT k⟩
 ·exact ⟨_,rfl,_,_,true,rfl,.inl ⟨_,rfl⟩,.inr ⟨_,_,rfl,SqT.of e,yG⟩,_,rfl,iteF ⟨_,rfl,_,_,rfl,.inr ⟨_,SqT.of e,rfl⟩,rfl,_,rfl,iteT k⟩⟩
 ·exact ⟨_,rfl,_,_,true,rfl,.inl ⟨_,rfl⟩,.inr ⟨_,_,rfl,SqT.of e,yG⟩,_,rfl,iteF ⟨_,rfl,_,_,rfl,.inr ⟨_,SqT.of e,rfl⟩,rfl,_,rfl,iteT k⟩⟩
 obtain ⟨z,b,rfl,⟨p,a0,a1,a2,a3,a4,a5,rfl,hp,⟨g0,g1,g2,g3,g4,g5⟩,⟨d0,d1,d2,d3,d4,d5⟩,wt⟩,w0,h0,⟨m,em⟩,k⟩:=h;obtain ⟨m1,m2⟩:=wt m em;rw [em] at hp;refine ⟨_,rfl,_,_,true,rfl,.inl ⟨_,rfl⟩,.inr ⟨_,_,rfl,hp,yG⟩,_,rfl,iteF ?_⟩;refine ⟨_,rfl,_,_,rfl,.inr ⟨_,hp,rfl⟩,rfl,_,rfl,iteF ?_⟩;refine ⟨by show 4<=sizeLine; decide,?_⟩
 intro p1 n1;obtain ⟨H1,q1,s1,e1⟩:=newO n1 (.tup [.int 0,.int 1,.int 4,.int 5]);rw [q1];clear q1;have cH:=Kw.Same.tup s1 hp;refine ⟨p1,rfl,⟨_,SqT.of e1⟩,lc_tup (K:=K) (xs:=[.int 0,.int 1,.int 4,.int 5]) (λi ys H'=>H1=H'/\ys=([true,true,true,true].take i).map V.bl/\i<=4) ⟨rfl,rfl,by omega⟩ (by rw [sizeLine_eq]; simp) (λi ys H' ⟨_,e,l⟩=>by rw [e]; simp; omega) (λi ys H' ⟨e,_⟩=>by rw [<- e]; exact SqT.of e1) ?_ ?_⟩
 ·rintro i y ys H' Q' hy ⟨rfl,rfl,li⟩ k
  match i,hy with
  |0,hy=>cases hy; exact ⟨_,rfl,_,rfl,p,_,_,_,rfl,rfl,cH,rfl,.inl ⟨_,_,rfl,Kw.Same.tup s1 g0,d0.mono (by decide),k _ _ ⟨rfl,rfl,by omega⟩⟩⟩
  |1,hy=>cases hy; exact ⟨_,rfl,_,rfl,p,_,_,_,rfl,rfl,cH,rfl,.inl ⟨_,_,rfl,Kw.Same.tup s1 g1,d1.mono (by decide),k _ _ ⟨rfl,rfl,by omega⟩⟩⟩
  |2,hy=>cases hy; exact ⟨_,rfl,_,rfl,p,_,_,_,rfl,rfl,cH,rfl,.inl ⟨_,_,rfl,Kw.Same.tup s1 g4,d4.mono (by decide),k _ _ ⟨rfl,rfl,by omega⟩⟩⟩
  |3,hy=>cases hy; exact ⟨_,rfl,_,rfl,p,_,_,_,rfl,rfl,cH,rfl,.inl ⟨_,_,rfl,Kw.Same.tup s1 g5,d5.mono (by decide),k _ _ ⟨rfl,rfl,by omega⟩⟩⟩
 ·rintro ys H' ⟨rfl,ey,_⟩;replace ey:ys=[true,true,true,true].map V.bl:=ey;subst ey;intro p5 n5;obtain ⟨H5,q5,s5,e5⟩:=newO n5 (.lst ([true,true,true,true].map V.bl));rw [q5];clear q5;have aS:=s1.trans s5;refine ⟨p5,[true,true,true,true],rfl,SqL.of e5,_,rfl,iteF ?_⟩;have i5:=Kw.Same.tup aS hp;refine ⟨_,rfl,p,_,_,_,rfl,rfl,i5,rfl,.inl ⟨_,_,rfl,Kw.Same.tup aS g2,d2,w0,λH6 s6=>⟨_,rfl,iteT ?_⟩⟩⟩
  have bD:=aS.trans s6;have hU:=Kw.Same.tup bD hp;refine ⟨_,rfl,p,_,_,_,rfl,rfl,hU,rfl,.inl ⟨_,_,rfl,Kw.Same.tup bD g3,d3,h0,λH7 s7=>⟨_,rfl,iteT ?_⟩⟩⟩
  have bc:=bD.trans s7;have dW:=Kw.Same.tup bc hp;exact ⟨_,rfl,p,_,_,_,rfl,rfl,dW,rfl,m,rfl,m1,m2,k _ bc⟩
noncomputable def Jm (K:PySem.W.Frag):Sp:=λvs H Q _=>(∃ (r x y:Addr) (R:Rat × Rat),vs=[.ref r]/\SqT K H r [.ref x,.ref y]/\FQ K H x R.1/\FQ K H y R.2/\FB 1990 R.1/\FB 1990 R.2/\0 < R.1/\0 < R.2/\∀ (H1:Hp),Same H H1->Q (.bl true) H1)\/∃ v,vs=[v]/\BadR K H v/\∀ (H1:Hp),Same H H1->Q (.bl false) H1
theorem sc_is_room:FnScope ["thing"] ["thing"] (zD (top 42)):={}
theorem ok_is_room (D:Df K mg "is_room" (top 42) ["thing"]) (T:Tx K mg CK C) (aB:Fn P w K mg base 3 "is_breadth" ["thing"] (jo K)):Fn P w K mg base 4 "is_room" ["thing"] (Jm K):=by
 refine D.ok0 sc_is_room (λvs H Q E h=>?_) (λf cdv A outer s H vs Q E hr h=>?_)
 ·rcases h with ⟨r,x,y,R,rfl,_⟩|⟨v,rfl,_⟩
  ·rfl
  ·rfl
 refine ⟨_,(zF (zM (yd (zS (jF (K:=K) rfl) (by rfl) T.b_isinstance PyProof.Rows.Boot.«isinstance» (zA (pv 0) (zA (Zr (by rfl) T.b_tuple PyProof.Rows.Boot.«tuple») zB))) (yd (yy ji (zS zo (by rfl) T.b_len PyProof.Rows.Boot.«len» (zA (pv 0) zB)) zC (zU _)) (yd (zJ aB (by decide) hr (by rfl) zG (zA (zH ix_tup (pv 0) zC (λ_ _=>rfl)) zB)) (yR (zJ aB (by decide) hr (by rfl) zG (zA (zH ix_tup (pv 0) zC (λ_ _=>rfl)) zB)))))))),?_⟩
 try dsimp only [cxK,cxK0]
 rcases h with ⟨r,x,y,R,rfl,hr0,gx,gy,fx,fy,x0,y0,k⟩|⟨v,rfl,(nt|⟨p,rfl,e⟩|⟨p,rfl,e⟩)|⟨p,x,y,q,rfl,hp,gx,fx,x0,gy⟩,k⟩
 ·refine ⟨_,rfl,_,_,true,rfl,.inl ⟨_,rfl⟩,.inr ⟨_,_,rfl,hr0,yG⟩,_,rfl,iteT ?_⟩;refine ⟨_,rfl,_,_,rfl,.inr ⟨_,hr0,rfl⟩,rfl,_,rfl,iteT ?_⟩;refine ⟨_,rfl,r,_,_,_,rfl,rfl,hr0,rfl,.inl ⟨x,R.1,rfl,gx,fx,x0,λH1 s1=>⟨_,rfl,iteT ?_⟩⟩⟩
  have ej:=Kw.Same.tup s1 hr0;exact ⟨_,rfl,r,_,_,_,rfl,rfl,ej,rfl,.inl ⟨y,R.2,rfl,Kw.Same.tup s1 gy,fy,y0,λH2 s2=>k H2 (s1.trans s2)⟩⟩
 ·exact ⟨_,rfl,_,_,false,rfl,.inl ⟨_,rfl⟩,.inl nt,_,rfl,iteF (k H (Same.refl _))⟩
 ·exact ⟨_,rfl,_,_,true,rfl,.inl ⟨_,rfl⟩,.inr ⟨_,_,rfl,SqT.of e,yG⟩,_,rfl,iteT ⟨_,rfl,_,_,rfl,.inr ⟨_,SqT.of e,rfl⟩,rfl,_,rfl,iteF (k H (Same.refl _))⟩⟩
 ·have hs:SqT K H p [.int 1,.int 1]:=SqT.of e;refine ⟨_,rfl,_,_,true,rfl,.inl ⟨_,rfl⟩,.inr ⟨_,_,rfl,hs,yG⟩,_,rfl,iteT ?_⟩;refine ⟨_,rfl,_,_,rfl,.inr ⟨_,hs,rfl⟩,rfl,_,rfl,iteT ?_⟩;exact ⟨_,rfl,p,_,_,_,rfl,rfl,hs,rfl,.inr (.inl ⟨.int 1,rfl,⟨_,.int 1,JG⟩,_,rfl,iteF (k H (Same.refl _))⟩)⟩
 ·refine ⟨_,rfl,_,_,true,rfl,.inl ⟨_,rfl⟩,.inr ⟨_,_,rfl,hp,yG⟩,_,rfl,iteT ?_⟩;refine ⟨_,rfl,_,_,rfl,.inr ⟨_,hp,rfl⟩,rfl,_,rfl,iteT ?_⟩;refine ⟨_,rfl,p,_,_,_,rfl,rfl,hp,rfl,.inl ⟨x,q,rfl,gx,fx,x0,λH1 s1=>⟨_,rfl,iteT ?_⟩⟩⟩
  have cH:=Kw.Same.tup s1 hp;exact ⟨_,rfl,p,_,_,_,rfl,rfl,cH,rfl,.inr (.inr ⟨y,rfl,Kw.Same.tup s1 gy,λH2 s2=>k H2 (s1.trans s2)⟩)⟩
noncomputable def Yd (K:PySem.W.Frag):Sp:=λvs H Q _=>∃ (z:V) (b:Bq) (r x y:Addr) (R:Rat × Rat),vs=[z,.ref r]/\BqH K 1990 H z b/\SqT K H r [.ref x,.ref y]/\FQ K H x R.1/\FQ K H y R.2/\FB 1990 R.1/\FB 1990 R.2/\∀ (H1:Hp),Same H H1->Q (.bl (inwB R b)) H1
theorem Yf:FnScope ["box","room","way"] ["box","room"] (zD (top 44)):={}
theorem ok_is_within (D:Df K mg "is_within" (top 44) ["box","room"]) (T:Tx K mg CK C) (aE:Fn P w K mg base 1 "under" ["one","other"] (ZV K)) (ao:Fn P w K mg base 3 "far_side" ["box","way"] (jG K)):Fn P w K mg base 4 "is_within" ["box","room"] (Yd K):=by
 refine D.ok0 Yf (λvs H Q E h=>?_) (λf cdv A outer s H vs Q E hr h=>?_)
 ·obtain ⟨z,b,r,x,y,R,rfl,_⟩:=h;rfl
 obtain ⟨z,b,r,x,y,R,rfl,hz,hr0,gx,gy,fx,fy,k⟩:=h
 refine ⟨_,(zE (yA PassesOwn.never rfl (pi_tup (zP (zA (zX (by rfl) T.k_ACROSS) (zA (zX (by rfl) T.k_ALONG) zB)))) (zj (i:=2) Yf.nd rfl (Or.inl rfl)) (zF (ze (y9 (zh (zJ aE (by decide) hr (by rfl) zG (zA (zH ix_tup (pv 0) (pv 2) (λ_ _=>rfl)) (zA (zp (K:=K) rfl (by rfl) T.k_NOUGHT) zB))) (λ_=>rfl)) (yO (zh (zJ aE (by decide) hr (by rfl) zG (zA (zH ix_tup (pv 1) (pv 2) (λ_ _=>rfl)) (zA (zJ ao (by decide) hr (by rfl) zG (zA (pv 0) (zA (pv 2) zB))) zB))) (λ_=>rfl)))).pt (zF (zM yW)) zT)))
   (zF (zM yW))),?_⟩
 try dsimp only [cxK,cxK0]
 obtain ⟨p,a0,a1,a2,a3,a4,a5,rfl,hp,⟨g0,g1,g2,g3,g4,g5⟩,⟨d0,d1,d2,d3,d4,d5⟩,wt⟩:=id hz;refine ⟨by show 2<=sizeLine; decide,?_⟩
 intro p1 n1;obtain ⟨H1,q1,s1,e1⟩:=newO n1 (.tup [.int 0,.int 1]);rw [q1];clear q1;refine ⟨p1,rfl,⟨_,SqT.of e1⟩,for_tup (K:=K) (xs:=[.int 0,.int 1]) (λd σ' H'=>∃ (u2:Option V),σ'=[some (.ref p),some (.ref r),u2]/\Same H1 H'/\(1<=d->inw0 R b=true)/\(2<=d->inw1 R b=true)) ⟨_,rfl,Same.refl _,λz=>absurd z (by omega),λz=>absurd z (by omega)⟩ ?_ ?_ ?_⟩
 ·rintro d σ' H2 _ ⟨u2,rfl,s2,_⟩;exact Kw.Same.tup s2 (SqT.of e1)
 ·rintro d y0 σ' H2 hx ⟨u2,rfl,s2,i1,i2⟩;have bad:inwB R b=false->∀ H',Same H H'->Q (.bl false) H':=λe H' s'=>by
   have z:=k H' s';rw [e] at z;exact z
  have dX:=s1.trans s2;have cV:=Kw.Same.tup dX hp;have Ud:=Kw.Same.tup dX hr0
  match d,hx with
  |0,hx=>
   cases hx
   refine ⟨_,rfl,_,rfl,p,_,_,_,rfl,rfl,cV,rfl,λN hN=>?_⟩
   refine ⟨_,b.x,N,0,rfl,Kw.Same.tup dX g0,d0.mono (by decide),zw (hN _),zr.mono (by decide),λH3 s3=>⟨_,rfl,?_⟩⟩
   refine zc (λc=>bad (inw_x c) _ (dX.trans s3)) (λc1=>?_)
   have bX:=dX.trans s3;have gj:=Kw.Same.tup bX hr0;refine ⟨_,rfl,_,rfl,r,_,_,_,rfl,rfl,gj,rfl,_,rfl,_,rfl,_,b,0,rfl,(hz.same bX).mono (by decide),by decide,λr4 H4 s4 rG f4=>?_⟩
   refine ⟨_,R.1,r4,_,rfl,Kw.Same.tup (bX.trans s4) gx,fx.mono (by decide),rG,f4.mono (by decide),λH5 s5=>⟨_,rfl,?_⟩⟩
   refine zc (λc=>bad (inw_fx c) _ (bX.trans (s4.trans s5))) (λc2=>?_)
   have hh:inw0 R b=true:=by
    unfold inw0;rw [decide_eq_true (Rat.not_lt.mp c1),decide_eq_true (Rat.not_lt.mp c2)];rfl
   exact ⟨_,rfl,s2.trans (s3.trans (s4.trans s5)),λ_=>hh,λz=>absurd z (by omega)⟩
  |1,hx=>
   cases hx
   refine ⟨_,rfl,_,rfl,p,_,_,_,rfl,rfl,cV,rfl,λN hN=>?_⟩
   refine ⟨_,b.y,N,0,rfl,Kw.Same.tup dX g1,d1.mono (by decide),zw (hN _),zr.mono (by decide),λH3 s3=>⟨_,rfl,?_⟩⟩
   refine zc (λc=>bad (inw_y c) _ (dX.trans s3)) (λc1=>?_)
   have bX:=dX.trans s3;have gj:=Kw.Same.tup bX hr0;refine ⟨_,rfl,_,rfl,r,_,_,_,rfl,rfl,gj,rfl,_,rfl,_,rfl,_,b,1,rfl,(hz.same bX).mono (by decide),by decide,λr4 H4 s4 rG f4=>?_⟩
   refine ⟨_,R.2,r4,_,rfl,Kw.Same.tup (bX.trans s4) gy,fy.mono (by decide),rG,f4.mono (by decide),λH5 s5=>⟨_,rfl,?_⟩⟩
   refine zc (λc=>bad (inw_fy c) _ (bX.trans (s4.trans s5))) (λc2=>?_)
   have hh:inw1 R b=true:=by
    unfold inw1;rw [decide_eq_true (Rat.not_lt.mp c1),decide_eq_true (Rat.not_lt.mp c2)];rfl
   exact ⟨_,rfl,s2.trans (s3.trans (s4.trans s5)),λ_=>i1 (by omega),λ_=>hh⟩
 ·rintro σ' H2 ⟨u2,rfl,s2,i1,i2⟩;have z:=k H2 (s1.trans s2);unfold inwB at z;rw [i1 (by show 1<=2; decide),i2 (by show 2<=2; decide)] at z
  exact z
noncomputable def J0 (K:PySem.W.Frag):Sp:=λvs H Q _=>∃ (z y:V) (a b:Bq),vs=[z,y]/\BqH K 5990 H z a/\BqH K 5990 H y b/\∀ (H1:Hp),Same H H1->Q (.bl (hicB a b 0 && hicB a b 1)) H1
theorem sc_overlap:FnScope ["one","other"] ["one","other"] (zD (top 46)):={}
theorem ok_overlap (D:Df K mg "overlap" (top 46) ["one","other"]) (T:Tx K mg CK C) (ah:Fn P w K mg base 4 "have_in_common" ["one","other","way"] (yQ K)):Fn P w K mg base 5 "overlap" ["one","other"] (J0 K):=by
 refine D.ok0 sc_overlap (λvs H Q E h=>?_) (λf cdv A outer s H vs Q E hr h=>?_)
 ·obtain ⟨z,y,a,b,rfl,_⟩:=h;rfl
 obtain ⟨z,y,a,b,rfl,hz,hy,k⟩:=h;refine ⟨_,(zF (zM (yd (zJ ah (by decide) hr (by rfl) zG (zA (pv 0) (zA (pv 1) (zA (zX (by rfl) T.k_ACROSS) zB)))) (yR (zJ ah (by decide) hr (by rfl) zG (zA (pv 0) (zA (pv 1) (zA (zX (by rfl) T.k_ALONG) zB)))))))),?_⟩
 try dsimp only [cxK,cxK0]
 refine ⟨_,rfl,_,rfl,_,_,a,b,0,rfl,hz,hy,by decide,λH1 s1=>⟨_,rfl,?_⟩⟩
 cases c:hicB a b 0 with
 |true=>
  refine iteT ⟨_,rfl,_,rfl,_,_,a,b,1,rfl,hz.same s1,hy.same s1,by decide,λH2 s2=>?_⟩
  have w:=k H2 (s1.trans s2);rw [c,Bool.true_and] at w;exact w
 |false=>
  have w:=k H1 s1;rw [c,Bool.false_and] at w;exact iteF w
theorem same_del {H H':Hp} {x:Addr} (n:H x=none) (s:Same H H'):Same H (del H' x):=λa u e=>by
 rw [Zc (zL e n)];exact s a u e
noncomputable def OverE (K:PySem.W.Frag) (C:Nat->Addr) (i j:Nat) (H:Hp) (E:XK):Prop:=∀ (d:Addr) (H1:Hp),Same H H1->H1 d=some (Xd d [("one",.int (i:Int)),("other",.int (j:Int))])->E (.ref (C 4)) (some d) H1
noncomputable def jv (K:PySem.W.Frag) (C:Nat->Addr):Sp:=λvs H Q E=>(∃ (r x y l:Addr) (R:Rat × Rat) (xs:List V) (gs:List Bq),vs=[.ref r,.ref l]/\SqT K H r [.ref x,.ref y]/\FQ K H x R.1/\FQ K H y R.2/\FB 1990 R.1/\FB 1990 R.2/\0 < R.1/\0 < R.2/\H l=some (.lst xs)/\Al2 (BqH K 1990 H) xs gs/\1<=gs.length/\gs.length<=6/\WtB gs/\(∀ b∈gs,InR R b)/\((App gs/\∀ (H1:Hp),Same H H1->Q .non H1)\/∃ i j,ZJ gs i j/\OverE K C i j H E))\/∃ vr vl,vs=[vr,vl]/\NoB K H vr vl/\∀ (H1:Hp),Same H H1->E (.ref (C 0)) none H1
theorem jH:FnScope ["room","boxes","one","other"] ["room","boxes"] (zD (top 65)):={}
theorem ok_refuse_boxes (D:Df K mg "refuse_boxes" (top 65) ["room","boxes"]) (T:Tx K mg CK C) (eD:Fn P w K mg base 4 "is_room" ["thing"] (Jm K)) (eX:Fn P w K mg base 4 "is_box" ["thing"] (sp_is_box K)) (c9:Fn P w K mg base 4 "is_within" ["box","room"] (Yd K)) (eE:Fn P w K mg base 5 "overlap" ["one","other"] (J0 K)) (bb:FnI P w K mg base 1 (C 4) ["self","one","other"] (JU (C 4) ["one","other"])):Fn P w K mg base 6 "refuse_boxes" ["room","boxes"] (jv K C):=by
 refine D.okX jH (λvs H Q E h=>?_) (λf cdv A outer s H vs Q E hr h=>?_)
 ·rcases h with ⟨r,x,y,l,R,xs,gs,rfl,_⟩|⟨vr,vl,rfl,_⟩
  ·rfl
  ·rfl
 refine ⟨_,(zE (ze (yH (zh (zJ eD (by decide) hr (by rfl) (passL zu zn) (zA (pv 0) zB)) (λ_=>rfl))) (zF (Yr zu zn rfl rfl T.c_NoBox T.x_NoBox (zA zx zB))) zT)
   (zE (ze (y9 (yH (zh (zS (jF (K:=K) rfl) (by rfl) T.b_isinstance PyProof.Rows.Boot.«isinstance» (zA (pv 1) (zA (Zr (by rfl) T.b_list PyProof.Rows.Boot.«list») zB))) (λ_=>rfl))) (yO (yH (pt_chain Jj Jj zC (zS zo (by rfl) T.b_len PyProof.Rows.Boot.«len» (zA (pv 1) zB)) (zX (by rfl) T.k_MOST_BOXES))))).pt (zF (Yr zu zn rfl rfl T.c_NoBox T.x_NoBox (zA zx zB))) zT)
   (zE (ze (yH (zh (zS (call_all (K:=K) rfl rfl) (by rfl) T.b_all PyProof.Rows.Boot.«all» (zA (@JD _ _ _ _ _ _ _ _ _ _ ["room"] [0] rfl (yP (pv 1)) rfl (by decide) rfl (by decide) rfl (by decide) (ZE (j:=0) rfl rfl rfl rfl (.inl rfl)) (λy c h=>h) (YF rfl) (λC z Hc fp=>(yd (zJ eX (by decide) hr (by rfl) zG (zA (pv 0) zB)) (yR (zJ c9 (by decide) hr (by rfl) zG (zA (pv 0) (zA (pv 1) zB)))))) (λ_=>rfl)) zB)) (λ_=>rfl))) (zF (Yr zu zn rfl rfl T.c_NoBox T.x_NoBox (zA zx zB))) zT)
   (zF (yA PassesOwn.leaving rfl (yn (by rfl) T.b_range (zA (zS zo (by rfl) T.b_len PyProof.Rows.Boot.«len» (zA (pv 1) zB)) zB)) (zj (i:=2) jH.nd rfl (Or.inl rfl)) (zF (yA PassesOwn.leaving rfl (Yy (by rfl) T.b_range (zA (zN zm (pv 2) zC) (zA (zS zo (by rfl) T.b_len PyProof.Rows.Boot.«len» (zA (pv 1) zB)) zB))) (zj (i:=3) jH.nd rfl (Or.inl rfl)) (zF (ze (zh (zJ eE (by decide) hr (by rfl) (passL zu zn) (zA (zH ix_list (pv 1) (pv 2) (λ_ _=>rfl)) (zA (zH ix_list (pv 1) (pv 3) (λ_ _=>rfl)) zB))) (λ_=>rfl)) (zF (ps_raiseX zu zn rfl (pe_mkx bb (by decide) hr (by rfl) T.c_Overlap (passL zu zn) (zA (pv 2) (zA (pv 3) zB))))) zT))))))))),?_⟩
 try dsimp only [cxK,cxK0]
 have sz:1<=sizeLine:=by decide
 rcases h with ⟨r,x,y,l,R,xs,gs,rfl,hr0,gx,gy,fx,fy,x0,y0,hl,al,l1,l6,wt,inr,out⟩|⟨vr,vl,rfl,nb,kx⟩
 ·have hz:=Al2.len al;refine ⟨_,rfl,.inl ⟨r,x,y,R,rfl,hr0,gx,gy,fx,fy,x0,y0,λH1 s1=>⟨_,rfl,iteF ?_⟩⟩⟩
  have eP:=s1 _ _ hl;refine ⟨_,rfl,_,_,true,rfl,.inl ⟨_,rfl⟩,.inl ⟨_,.lst eP,Zi⟩,_,rfl,iteF ?_⟩;refine ⟨_,rfl,_,_,rfl,.inl ⟨_,SqL.of eP,rfl⟩,_,_,rfl,rfl,?_⟩;refine ⟨_,rfl,?_⟩;refine zc (λ_=>?_) (λc=>absurd (show (1:Int)<=((xs.length:Nat):Int) by omega) c)
  refine ⟨_,_,rfl,rfl,_,rfl,?_⟩;refine yj (λc=>absurd (show ((xs.length:Nat):Int)<=6 by omega) c) (λ_=>?_)
  refine ⟨_,rfl,l,rfl,⟨_,SqL.of eP⟩,ZL (K:=K) (xs:=xs) (λi ys H'=>i<=xs.length/\Same H1 H'/\ys=(List.replicate i true).map V.bl) ⟨Nat.zero_le _,Same.refl _,rfl⟩ (by rw [hz]; exact Nat.le_trans l6 (by decide)) (λi ys H2 z=>by obtain ⟨_,_,e⟩:=z; rw [e]; simp) (λi ys H2 z=>by obtain ⟨_,g,_⟩:=z; exact SqL.of (g _ _ eP)) ?_ ?_⟩
  ·rintro i vb ys H2 Q1 hx ⟨hi,s2,rfl⟩ kq;have hi:i < xs.length:=(List.getElem?_eq_some_iff.mp hx).1;have dX:=s1.trans s2;obtain ⟨b,hb,hq⟩:=Al2.get (zY al dX) hx;have hm:=List.mem_of_getElem? hb;have ir:=inr b hm;obtain ⟨m,em,_⟩:=wt b hm;refine ⟨_,rfl,.inl ⟨vb,b,rfl,hq,ir.1,ir.2.1,⟨m,em⟩,λH3 s3=>⟨_,rfl,iteT ?_⟩⟩⟩
   have bX:=dX.trans s3;refine ⟨_,rfl,_,rfl,vb,b,r,x,y,R,rfl,hq.same s3,Kw.Same.tup bX hr0,Kw.Same.tup bX gx,Kw.Same.tup bX gy,fx,fy,λH4 s4=>?_⟩
   refine kq _ _ ⟨hi,s2.trans (s3.trans s4),?_⟩;rw [inr_w ir,List.replicate_succ',List.map_append];rfl
  rintro ys H2 ⟨_,s2,rfl⟩ p5 n5;obtain ⟨H3,q3,s3,e3⟩:=newO n5 (.lst ((List.replicate xs.length true).map V.bl));rw [q3];clear q3;have ea:(List.replicate xs.length true).all id=true:=by simp
  refine ⟨p5,List.replicate xs.length true,rfl,SqL.of e3,_,rfl,?_⟩;rw [ea];refine iteF ?_;have bX:=s1.trans (s2.trans s3);have gr:=bX _ _ hl;rcases out with ⟨app,k⟩|⟨fi,fj,fo,kx⟩
  ·refine ⟨_,rfl,_,_,rfl,.inl ⟨_,SqL.of gr,rfl⟩,_,rfl,by omega,by omega,z7 (n:=((xs.length:Nat):Int).toNat) (λi σ1 H'=>∃ (u2 u3:Option V),σ1=[some (.ref r),some (.ref l),u2,u3]/\Same H3 H') ⟨_,_,rfl,Same.refl _⟩ ?_ ?_⟩
   ·rintro i σ1 H4 hi ⟨u2,u3,rfl,s4⟩;have kH:=s4 _ _ gr;obtain ⟨vi,hvi⟩:∃ y,xs[i]?=some y:=⟨_,List.getElem?_eq_getElem (by omega)⟩
    refine ⟨_,rfl,_,_,rfl,rfl,_,rfl,_,_,rfl,.inl ⟨_,SqL.of kH,rfl⟩,_,_,rfl,⟨by omega,by omega,by omega,by omega⟩,z7 (lo:=0+(i:Int)+1) (n:=(((xs.length:Nat):Int) - (0+(i:Int)+1)).toNat) (λj σ1 H'=>∃ (u3:Option V),σ1=[some (.ref r),some (.ref l),some (.int (0+(i:Int))),u3]/\Same H3 H') ⟨_,rfl,s4⟩ ?_ ?_⟩
    ·rintro j σ1 H5 hj ⟨u3,rfl,s5⟩;have hij:i+1+j < xs.length:=by omega
     obtain ⟨vj,hvj⟩:∃ y,xs[i+1+j]?=some y:=⟨_,List.getElem?_eq_getElem hij⟩;have gu:=s5 _ _ gr;have bF:=zY al (bX.trans s5);obtain ⟨bi,hbi,qi⟩:=Al2.get bF hvi;obtain ⟨bj,hbj,qj⟩:=Al2.get bF hvj;have atj:atI xs (0+(i:Int)+1+(j:Int))=some vj:=by
      have z:=zi hvj;rwa [show ((i+1+j:Nat):Int)=0+(i:Int)+1+(j:Int) by omega] at z
     refine ⟨_,rfl,_,rfl,l,_,_,_,rfl,rfl,SqL.of gu,atI_z hvi,_,rfl,_,rfl,l,_,_,_,rfl,rfl,SqL.of gu,atj,vi,vj,bi,bj,rfl,qi.mono (by decide),qj.mono (by decide),λH6 s6=>⟨_,rfl,?_⟩⟩
     have no:=app i (i+1+j) (by omega) (by omega)
     rw [ye hbi,ye hbj] at no;rw [no];exact iteF ⟨_,rfl,s5.trans s6⟩
    ·rintro σ1 H5 ⟨u3,rfl,s5⟩;exact ⟨_,_,rfl,s5⟩
   ·rintro σ1 H4 ⟨u2,u3,rfl,s4⟩;exact k H4 (bX.trans s4)
  ·obtain ⟨o1,o2,o3,o4⟩:=fo;refine ⟨_,rfl,_,_,rfl,.inl ⟨_,SqL.of gr,rfl⟩,_,rfl,by omega,by omega,z7 (n:=((xs.length:Nat):Int).toNat) (λi σ1 H'=>∃ (u2 u3:Option V),σ1=[some (.ref r),some (.ref l),u2,u3]/\Same H3 H'/\i<=fi) ⟨_,_,rfl,Same.refl _,Nat.zero_le _⟩ ?_ ?_⟩
   ·rintro i σ1 H4 hi ⟨u2,u3,rfl,s4,ilf⟩;have kH:=s4 _ _ gr;obtain ⟨vi,hvi⟩:∃ y,xs[i]?=some y:=⟨_,List.getElem?_eq_getElem (by omega)⟩
    refine ⟨_,rfl,_,_,rfl,rfl,_,rfl,_,_,rfl,.inl ⟨_,SqL.of kH,rfl⟩,_,_,rfl,⟨by omega,by omega,by omega,by omega⟩,z7 (lo:=0+(i:Int)+1) (n:=(((xs.length:Nat):Int) - (0+(i:Int)+1)).toNat) (λj σ1 H'=>∃ (u3:Option V),σ1=[some (.ref r),some (.ref l),some (.int (0+(i:Int))),u3]/\Same H3 H'/\(i=fi->i+1+j<=fj)) ⟨_,rfl,s4,λz=>by omega⟩ ?_ ?_⟩
    ·rintro j σ1 H5 hj ⟨u3,rfl,s5,jlf⟩;have hij:i+1+j < xs.length:=by omega
     obtain ⟨vj,hvj⟩:∃ y,xs[i+1+j]?=some y:=⟨_,List.getElem?_eq_getElem hij⟩;have gu:=s5 _ _ gr;have bF:=zY al (bX.trans s5);obtain ⟨bi,hbi,qi⟩:=Al2.get bF hvi;obtain ⟨bj,hbj,qj⟩:=Al2.get bF hvj;have atj:atI xs (0+(i:Int)+1+(j:Int))=some vj:=by
      have z:=zi hvj;rwa [show ((i+1+j:Nat):Int)=0+(i:Int)+1+(j:Int) by omega] at z
     refine ⟨_,rfl,_,rfl,l,_,_,_,rfl,rfl,SqL.of gu,atI_z hvi,_,rfl,_,rfl,l,_,_,_,rfl,rfl,SqL.of gu,atj,vi,vj,bi,bj,rfl,qi.mono (by decide),qj.mono (by decide),λH6 s6=>⟨_,rfl,?_⟩⟩
     by_cases c:i=fi/\i+1+j=fj
     ·obtain ⟨c1,c2⟩:=c;have yes:=o3;rw [<- c1,<- c2,ye hbi,ye hbj] at yes;rw [yes];refine iteT ?_;refine ⟨_,rfl,_,rfl,by show 2<=sizeLine; decide,λz nz=>⟨z,[.int (0+(i:Int)),.int (0+(i:Int)+1+(j:Int))],rfl,rfl,zb,λd H7 nd b7 e7 f7=>⟨rfl,?_⟩⟩⟩
      have s7:=same_of_but nz b7;have sd:=same_del nz s7;have Hi:=bX.trans (s5.trans s6);refine ⟨z,C 4,some d,rfl,e7,ym Hi nz,clsx_o T.o_Overlap,?_⟩;refine kx d _ (Hi.trans sd) ?_;rw [Zc nd,show ((fi:Nat):Int)=0+(i:Int) by omega,show ((fj:Nat):Int)=0+(i:Int)+1+(j:Int) by omega]
      exact f7
     ·have no:=o4 i (i+1+j) (by omega) (by omega) (by
       rcases Nat.lt_or_ge i fi with z|z
       ·exact .inl z
       ·have e:i=fi:=by omega
        have:=jlf e
        exact .inr ⟨e,by omega⟩)
      rw [ye hbi,ye hbj] at no;rw [no];exact iteF ⟨_,rfl,s5.trans s6,λe=>by have:=jlf e; omega⟩
    ·rintro σ1 H5 ⟨u3,rfl,s5,jlf⟩;refine ⟨_,_,rfl,s5,?_⟩;rcases Nat.lt_or_ge i fi with z|z
     ·exact z
     ·have e:i=fi:=by omega
      have:=jlf e;omega
   ·rintro σ1 H4 ⟨u2,u3,rfl,s4,ilf⟩;omega
 ·cases nb with
  |room h=>exact ⟨_,rfl,.inr ⟨vr,rfl,h,λH1 s1=>⟨_,rfl,iteT ⟨sz,kx H1 s1⟩⟩⟩⟩
  |@list r x y R _ h1 h2 h3 d1 d2 p1 p2 h=>
   refine ⟨_,rfl,.inl ⟨r,x,y,R,rfl,h1,h2,h3,d1,d2,p1,p2,λH1 s1=>⟨_,rfl,iteF ?_⟩⟩⟩
   rcases h.same s1 with hh|⟨p,us,rfl,hh⟩
   ·exact ⟨_,rfl,_,_,false,rfl,.inl ⟨_,rfl⟩,.inl hh,_,rfl,iteT ⟨sz,kx H1 s1⟩⟩
   ·exact ⟨_,rfl,_,_,false,rfl,.inl ⟨_,rfl⟩,.inr ⟨p,us,rfl,hh,Zm⟩,_,rfl,iteT ⟨sz,kx H1 s1⟩⟩
  |@few r x y l R xs h1 h2 h3 d1 d2 p1 p2 hl h=>
   refine ⟨_,rfl,.inl ⟨r,x,y,R,rfl,h1,h2,h3,d1,d2,p1,p2,λH1 s1=>⟨_,rfl,iteF ?_⟩⟩⟩
   have eP:=s1 _ _ hl;refine ⟨_,rfl,_,_,true,rfl,.inl ⟨_,rfl⟩,.inl ⟨_,.lst eP,Zi⟩,_,rfl,iteF ?_⟩;refine ⟨_,rfl,_,_,rfl,.inl ⟨_,SqL.of eP,rfl⟩,_,_,rfl,rfl,?_⟩;refine ⟨_,rfl,?_⟩;refine zc (λc=>?_) (λc=>⟨_,rfl,iteT ⟨sz,kx H1 s1⟩⟩)
   refine ⟨_,_,rfl,rfl,_,rfl,?_⟩;exact yj (λ_=>⟨sz,kx H1 s1⟩) (λc2=>by omega)
  |@some r x y l R xs os h1 h2 h3 d1 d2 p1 p2 hl l1 l6 al h=>
   have hz:=Al2.len al;refine ⟨_,rfl,.inl ⟨r,x,y,R,rfl,h1,h2,h3,d1,d2,p1,p2,λH1 s1=>⟨_,rfl,iteF ?_⟩⟩⟩
   have eP:=s1 _ _ hl;refine ⟨_,rfl,_,_,true,rfl,.inl ⟨_,rfl⟩,.inl ⟨_,.lst eP,Zi⟩,_,rfl,iteF ?_⟩;refine ⟨_,rfl,_,_,rfl,.inl ⟨_,SqL.of eP,rfl⟩,_,_,rfl,rfl,?_⟩;refine ⟨_,rfl,?_⟩;refine zc (λ_=>?_) (λc=>absurd (show (1:Int)<=((xs.length:Nat):Int) by omega) c)
   refine ⟨_,_,rfl,rfl,_,rfl,?_⟩;refine yj (λc=>absurd (show ((xs.length:Nat):Int)<=6 by omega) c) (λ_=>?_)
   refine ⟨_,rfl,l,rfl,⟨_,SqL.of eP⟩,ZL (K:=K) (xs:=xs) (λi ys H'=>i<=xs.length/\Same H1 H'/\ys=((os.take i).map (okE R)).map V.bl) ⟨Nat.zero_le _,Same.refl _,rfl⟩ (by exact Nat.le_trans l6 (by decide)) (λi ys H2 z=>by obtain ⟨_,_,e⟩:=z; rw [e]; simp; omega) (λi ys H2 z=>by obtain ⟨_,g,_⟩:=z; exact SqL.of (g _ _ eP)) ?_ ?_⟩
   ·rintro i vb ys H2 Q1 hx ⟨hi,s2,rfl⟩ kq;have hi:i < xs.length:=(List.getElem?_eq_some_iff.mp hx).1;have dX:=s1.trans s2;obtain ⟨o,ho,hq⟩:=Al2.get (bxe_same al dX) hx;have nxt:∀ (c:Bool) (H4:Hp),Same H2 H4->c=okE R o->Q1 (.bl c) H4:=λc H4 s4 e=>by
     refine kq _ _ ⟨hi,s2.trans s4,?_⟩;rw [zd ho,List.map_append,List.map_append,e];rfl
    rcases hq with ⟨b,rfl,hq,w0,h0,hm⟩|⟨rfl,hq⟩
    ·refine ⟨_,rfl,.inl ⟨vb,b,rfl,hq,w0,h0,hm,λH3 s3=>⟨_,rfl,iteT ?_⟩⟩⟩
     have bX:=dX.trans s3;exact ⟨_,rfl,_,rfl,vb,b,r,x,y,R,rfl,hq.same s3,Kw.Same.tup bX h1,Kw.Same.tup bX h2,Kw.Same.tup bX h3,d1,d2,λH4 s4=>nxt _ _ (s3.trans s4) rfl⟩
    ·exact ⟨_,rfl,.inr ⟨vb,rfl,hq,_,rfl,iteF (nxt _ _ (Same.refl _) rfl)⟩⟩
   rintro ys H2 ⟨_,s2,rfl⟩ p5 n5;obtain ⟨H3,q3,s3,e3⟩:=newO n5 (.lst (((os.take xs.length).map (okE R)).map V.bl));rw [q3];clear q3;have ea:((os.take xs.length).map (okE R)).all id=false:=by
    rw [hz,List.take_length];obtain ⟨o,ho,e⟩:=h;rw [Bool.eq_false_iff];intro z;have:=List.all_eq_true.mp z _ (List.mem_map.mpr ⟨o,ho,rfl⟩);rw [e] at this;cases this
   refine ⟨p5,_,rfl,SqL.of e3,_,rfl,?_⟩;rw [ea];exact iteT ⟨sz,kx H3 (s1.trans (s2.trans s3))⟩
noncomputable def Yt (K:PySem.W.Frag) (H:Hp) (v:V):Prop:=WhN K H v\/∃ i:Int,v=.int i/\¬ (0<=i/\i<=40)
noncomputable def yK (K:PySem.W.Frag) (C:Nat->Addr):Sp:=λvs H Q E=>(∃ m:Nat,vs=[.int (m:Int)]/\m<=40/\Q .non H)\/∃ v,vs=[v]/\Yt K H v/\E (.ref (C 1)) none H
theorem sc_refuse_number_of_moments:FnScope ["most"] ["most"] (zD (top 27)):={}
theorem ok_refuse_number_of_moments (D:Df K mg "refuse_number_of_moments" (top 27) ["most"]) (T:Tx K mg CK C) (am:Fn P w K mg base 1 "is_whole" ["thing"] (Ya K)):Fn P w K mg base 2 "refuse_number_of_moments" ["most"] (yK K C):=by
 refine D.okX sc_refuse_number_of_moments (λvs H Q E h=>?_) (λf cdv A outer s H vs Q E hr h=>?_)
 ·rcases h with ⟨m,rfl,_⟩|⟨v,rfl,_⟩
  ·rfl
  ·rfl
 refine ⟨_,(zF (ze (y9 (yH (zh (zJ am (by decide) hr (by rfl) zG (zA (pv 0) zB)) (λ_=>rfl))) (yO (yH (pt_chain Jj Jj zC (pv 0) (zX (by rfl) T.k_MOST_MOMENTS))))).pt (zF (Yr zu zn rfl rfl T.c_TooMany T.x_TooMany (zA zx zB))) zT)),?_⟩
 try dsimp only [cxK,cxK0]
 have sz:1<=sizeLine:=by decide
 rcases h with ⟨m,rfl,h40,k⟩|⟨v,rfl,⟨t,b1,b2,ty,k1,k2,k3⟩|⟨i,rfl,no⟩,kx⟩
 ·refine ⟨_,rfl,_,_,true,false,rfl,.int _,yS,yJ,_,rfl,?_⟩;refine iteF ?_;refine ⟨_,rfl,_,_,rfl,rfl,?_⟩;refine ⟨_,rfl,?_⟩;refine zc (λ_=>?_) (λc=>absurd (show (0:Int)<=(m:Int) by omega) c)
  refine ⟨_,_,rfl,rfl,_,rfl,?_⟩;exact yj (λc=>absurd (show (m:Int)<=40 by omega) c) (λ_=>k)
 ·refine ⟨_,rfl,_,_,b1,b2,rfl,ty,k1,k2,_,rfl,?_⟩;rw [k3];exact iteT ⟨sz,kx⟩
 ·refine ⟨_,rfl,_,_,true,false,rfl,.int i,yS,yJ,_,rfl,?_⟩;refine iteF ?_;refine ⟨_,rfl,_,_,rfl,rfl,?_⟩;refine ⟨_,rfl,?_⟩;refine zc (λc1=>?_) (λc1=>⟨_,rfl,iteT ⟨sz,kx⟩⟩)
  refine ⟨_,_,rfl,rfl,_,rfl,?_⟩;exact yj (λc2=>⟨sz,kx⟩) (λc2=>absurd ⟨c1,c2⟩ no)
noncomputable def J2 (K:PySem.W.Frag) (C:Nat->Addr):Sp:=λvs H Q E=>(∃ (r x y l:Addr) (R:Rat × Rat) (xs:List V) (gs:List Bq) (m B:Nat),vs=[.ref r,.ref l,.int (m:Int)]/\SqT K H r [.ref x,.ref y]/\FQ K H x R.1/\FQ K H y R.2/\FB 1990 R.1/\FB 1990 R.2/\H l=some (.lst xs)/\Al2 (BqH K 1990 H) xs gs/\GdP R gs/\CmP B R gs/\B+90 * m<=1900/\m<=40/\∀ (t:Addr) (wd:String) (ms:List (Rat × Pr)) (es:List Bq) (last:Rat) (H1:Hp),Same H H1->RunP R gs 0 m wd ms es last->ToldP K H1 t wd ms es last->Q (.ref t) H1)\/(∃ (r x y l:Addr) (R:Rat × Rat) (xs:List V) (gs:List Bq) (vm:V),vs=[.ref r,.ref l,vm]/\SqT K H r [.ref x,.ref y]/\FQ K H x R.1/\FQ K H y R.2/\FB 1990 R.1/\FB 1990 R.2/\H l=some (.lst xs)/\Al2 (BqH K 1990 H) xs gs/\1<=gs.length/\gs.length<=6/\WtB gs/\(∀ b∈gs,InR R b)/\0 < R.1/\0 < R.2/\((App gs/\Yt K H vm/\∀ (H1:Hp),Same H H1->E (.ref (C 1)) none H1)\/∃ i j,ZJ gs i j/\OverE K C i j H E))\/∃ vr vl vm,vs=[vr,vl,vm]/\NoB K H vr vl/\∀ (H1:Hp),Same H H1->E (.ref (C 0)) none H1
theorem nomost_same {K:PySem.W.Frag} {H H':Hp} {v:V} (h:Yt K H v) (s:Same H H'):Yt K H' v:=by
 rcases h with h|h
 ·exact .inl (h.same s)
 ·exact .inr h
theorem sc_run_in:FnScope ["room","boxes","most"] ["room","boxes","most"] (zD (top 70)):={}
theorem ok_run_in (D:Df K mg "run_in" (top 70) ["room","boxes","most"]) (T:Tx K mg CK C) (bY:Fn P w K mg base 6 "refuse_boxes" ["room","boxes"] (jv K C)) (aG:Fn P w K mg base 2 "refuse_number_of_moments" ["most"] (yK K C)) (bE:FnM P w K mg base 7 (C 7) "__init__" ["self","room","boxes"] (spP_init K (C 7))) (de:Fn P w K mg base 9 "run_along" ["course","most"] (YW K (C 7))):Fn P w K mg base 10 "run_in" ["room","boxes","most"] (J2 K C):=by
 refine D.okX sc_run_in (λvs H Q E h=>?_) (λf cdv A outer s H vs Q E hr h=>?_)
 ·rcases h with ⟨r,x,y,l,R,xs,gs,m,B,rfl,_⟩|⟨r,x,y,l,R,xs,gs,vm,rfl,_⟩|⟨vr,vl,vm,rfl,_⟩
  ·rfl
  ·rfl
  ·rfl
 refine ⟨_,(zE (yI (zJ bY (by decide) hr (by rfl) (passL zu zn) (zA (pv 0) (zA (pv 1) zB))))
   (zE (yI (zJ aG (by decide) hr (by rfl) (passL zu zn) (zA (pv 2) zB)))
   (zF (zM (zJ de (by decide) hr (by rfl) (passL zu zn) (zA (pe_mko T.mk_Plane T.kp_Plane bE (by decide) hr (by rfl) T.c_Plane (passL zu zn) (zA (pv 0) (zA (pv 1) zB))) (zA (pv 2) zB))))))),?_⟩
 try dsimp only [cxK,cxK0]
 obtain ⟨r,rx,ry,l,R,xs,gs,m,B,rfl,hr0,gx,gy,fx,fy,hl,al,gd,cm,hB,m40,k⟩|⟨r,x,y,l,R,xs,gs,vm,rfl,hr0,gx,gy,fx,fy,hl,al,l1,l6,wt,inr,r1,r2,⟨app,nm,kx⟩|ov⟩|⟨vr,vl,vm,rfl,nb,kx⟩:=h;rotate_left
 ·exact ⟨_,rfl,_,rfl,.inl ⟨r,x,y,l,R,xs,gs,rfl,hr0,gx,gy,fx,fy,r1,r2,hl,al,l1,l6,wt,inr,.inl ⟨app,λH0 s0=>⟨_,rfl,.inr ⟨vm,rfl,nomost_same nm s0,kx H0 s0⟩⟩⟩⟩⟩
 ·exact ⟨_,rfl,_,rfl,.inl ⟨r,x,y,l,R,xs,gs,rfl,hr0,gx,gy,fx,fy,r1,r2,hl,al,l1,l6,wt,inr,.inr ov⟩⟩
 ·exact ⟨_,rfl,_,rfl,.inr ⟨vr,vl,rfl,nb,kx⟩⟩
 refine ⟨_,rfl,_,rfl,.inl ⟨r,rx,ry,l,R,xs,gs,rfl,hr0,gx,gy,fx,fy,gd.r1,gd.r2,hl,al,gd.l1,gd.l6,gd.wt,gd.al,.inl ⟨gd.ap,λH0 s0=>?_⟩⟩⟩
 refine ⟨_,rfl,.inl ⟨m,rfl,m40,?_⟩⟩;refine ⟨_,rfl,_,rfl,?_⟩;intro x dx nx ndx nex;obtain ⟨H1,q1⟩:∃ H1,upd (upd H0 dx (.own x)) x (.ins (C 7) dx [])=H1:=⟨_,rfl⟩;have s1:Same H0 H1:=by
  rw [<- q1];intro a o ha;rw [zV (zL ha nx),zV (zL ha ndx)];exact ha
 have e1:H1 x=some (.ins (C 7) dx []):=by rw [<- q1]; exact zb
 dsimp only;rw [q1];clear q1;have kI:=s0.trans s1;refine ⟨x,dx,r,rx,ry,l,R,xs,gs,B,rfl,e1,Kw.Same.tup kI hr0,Kw.Same.tup kI gx,Kw.Same.tup kI gy,fx,fy,kI _ _ hl,zY al kI,gd.l6,cm,by omega,λwl g j H2 s2 ng nj cr=>⟨rfl,?_⟩⟩
 refine ⟨_,rfl,x,R,gs,wl,g,j,m,B,rfl,cr,gd.l6,gd.wt,cm,hB,m40,λt wd ms es last H3 s3 rq told=>?_⟩
 refine k t wd ms es last H3 ?_ rq told;have n1:∀ {a:Addr},H1 a=none->H0 a=none:=λh=>ym s1 h
 intro a o ha;have ha:=s0 a o ha;refine s3 a o ?_ (s2 a o (zL ha nx) (s1 a o ha));simp only [List.mem_cons,List.not_mem_nil,or_false,not_or];exact ⟨zL ha nx,zL ha (n1 ng),zL ha (n1 nj)⟩
theorem Tx.g_KnockError (T:Tx K mg CK C):ClsX K CK:=clsx_c T.x_KnockError
theorem sc_law_cell:FnScope ["script","k"] ["script","k"] (zD (top 72)):={}
theorem ok_law_cell (D:Df K mg "_law_cell" (top 72) ["script","k"]) (T:Tx K mg CK C):Fn P w K mg base 1 "_law_cell" ["script","k"] (spCell K):=by
 refine D.ok0 sc_law_cell (λvs H Q E h=>?_) (λf cdv A outer s H vs Q E hr h=>?_)
 ·obtain ⟨a,k,rfl,_⟩:=h;rfl
 obtain ⟨a,k,rfl,⟨ns,hS,h63,hbd⟩,k0,k1,q⟩:=h
 refine ⟨_,(zE (ze (zR Z5 (pv 1) (zS zo (by rfl) T.b_len PyProof.Rows.Boot.«len» (zA (pv 0) zB)) (zU _)) (zF (zM (zH ix_list (pv 0) (pv 1) (λ_ _=>rfl)))) zT)
   (zF (zM (zN zm (zN zf zC (pv 1)) zC)))),?_⟩
 try dsimp only [cxK,cxK0]
 refine ⟨_,rfl,_,rfl,_,_,rfl,.inl ⟨_,hS,rfl⟩,_,_,rfl,rfl,_,rfl,?_⟩;refine zc (λc=>?_) (λc=>?_)
 ·rw [List.length_map] at c;have hk:k.toNat < ns.length:=by omega
  have ek:k=((k.toNat:Nat):Int):=by omega
  have z:atI (ns.map V.int) ((k.toNat:Nat):Int)=some (.int ns[k.toNat]):=zi (by rw [List.getElem?_map,List.getElem?_eq_getElem hk]<;>rfl)
  rw [<- ek] at z;exact ⟨_,rfl,_,rfl,a,_,_,_,rfl,rfl,hS,z,q _ (hbd _ (List.getElem_mem hk))⟩
 ·refine ⟨_,rfl,_,_,rfl,rfl,j8 (by decide) (by decide),_,_,rfl,rfl,q _ ?_⟩
  exact (Bd.small (by omega) (by omega)).mono (by decide)
theorem YI:FnScope ["cell","k","number"] ["cell","k"] (zD (top 73)):={}
theorem ok_law_mix (D:Df K mg "_law_mix" (top 73) ["cell","k"]) (T:Tx K mg CK C):Fn P w K mg base 1 "_law_mix" ["cell","k"] spMix:=by
 refine D.ok0 YI (λvs H Q E h=>?_) (λf cdv A outer s H vs Q E hr h=>?_)
 ·obtain ⟨c,k,rfl,_⟩:=h;rfl
 obtain ⟨c,k,rfl,hc,k0,k1,q⟩:=h
 refine ⟨_,(zE (zO (i:=2) YI.nd rfl (Or.inl rfl) (zN zm (zN zf (zN zm (pv 0) zC) zC) (zN zf zC (pv 1))))
   (zE (zO (i:=2) YI.nd rfl (Or.inl rfl) (zN zm (zN Ju (zN zf (pv 2) (pv 2)) zC) (pv 1)))
   (zF (zM (zN Ju (zN zf (pv 2) (zN zm (pv 2) zC)) zC))))),?_⟩
 try dsimp only [cxK,cxK0]
 have s1:∀ i:Int,-(2 ^ 64) < i->i < 2 ^ 64->Bd 1048576 i:=λi h1 h2=>(Bd.small h1 h2).mono (by decide)
 have b1:Bd 1048641 ((c+1) * 40692):=((hc.add (s1 1 (by decide) (by decide))).mul (Bd.small (i:=40692) (by decide) (by decide))).mono (by decide)
 have b2:Bd 1048642 ((c+1) * 40692+104729 * k):=(b1.add ((Bd.small (by omega) (by omega)).mono (by decide))).mono (by decide)
 refine ⟨_,rfl,_,_,rfl,rfl,_,_,rfl,rfl,JO (by decide) (by decide),_,rfl,_,_,rfl,rfl,j8 (by decide) (by decide),_,_,rfl,rfl,?_⟩
 refine ⟨_,rfl,_,rfl,_,_,rfl,rfl,b2.ok b2 (by decide),_,_,rfl,rfl,(by show (0:Int) < 2147483399; decide),_,rfl,_,_,rfl,rfl,?_⟩
 have e0:=Int.emod_nonneg (((c+1) * 40692+104729 * k) * ((c+1) * 40692+104729 * k)) (show (2147483399:Int)≠0 by decide)
 have e1:=Int.emod_lt_of_pos (((c+1) * 40692+104729 * k) * ((c+1) * 40692+104729 * k)) (show (0:Int) < 2147483399 by decide)
 exact ⟨_,rfl,_,rfl,_,_,rfl,rfl,_,_,rfl,rfl,j8 (by omega) (by omega),_,_,rfl,rfl,(by show (0:Int) < 2147483563; decide),q _⟩
theorem jV:FnScope ["script","k","here","number","j"] ["script","k"] (zD (top 74)):={}
theorem ok_law_box (D:Df K mg "_law_box" (top 74) ["script","k"]) (T:Tx K mg CK C) (dG:Fn P w K mg base 1 "_law_cell" ["script","k"] (spCell K)) (eF:Fn P w K mg base 1 "_law_mix" ["cell","k"] spMix) :
  Fn P w K mg base 2 "_law_box" ["script","k"] (spBox K):=by
 refine D.ok0 jV (λvs H Q E h=>?_) (λf cdv A outer s H vs Q E hr h=>?_)
 ·obtain ⟨a,k,rfl,_⟩:=h;rfl
 obtain ⟨a,k,rfl,hS,k0,k1,q⟩:=h
 refine ⟨_,(zE (zO (i:=2) jV.nd rfl (Or.inl rfl) (zJ dG (by decide) hr (by rfl) zG (zA (pv 0) (zA (pv 1) zB))))
   (zE (ze (zR ji (zN Ju (pv 2) zC) zC (zU _)) (zF (zM (zv (zA (zN yC (pv 2) zC) zB)))) zT)
   (zE (zO (i:=3) jV.nd rfl (Or.inl rfl) zC)
   (zE (yA PassesOwn.never rfl (yn (by rfl) T.b_range (zA zC zB)) (zj (i:=4) jV.nd rfl (Or.inl rfl)) (zF (zO (i:=3) jV.nd rfl (Or.inl rfl) (zN zm (zN zf (pv 3) zC) (zJ eF (by decide) hr (by rfl) zG (zA (pv 2) (zA (pv 4) zB)))))))
   (zF (zM (zv (zA (pv 3) zB)))))))),?_⟩
 try dsimp only [cxK,cxK0]
 refine ⟨_,rfl,_,rfl,a,k,rfl,hS,k0,k1,λc hc=>?_⟩
 refine ⟨_,rfl,_,_,rfl,rfl,(by show (0:Int) < 2; decide),rfl,_,rfl,?_⟩
 refine yh (λz=>?_) (λz=>?_)
 ·refine ⟨_,rfl,_,_,rfl,rfl,⟨by decide,by decide+kernel⟩,(by show 1<=sizeLine; decide),λp hp=>?_⟩
  exact q p _ _ hp (Zu hp _) zb
 refine ⟨_,rfl,by decide,by decide,z7 (n:=16) (λi σ' H'=>∃ (n:Int) (r:Option V),σ'=[some (.ref a),some (.int k),some (.int c),some (.int n),r]/\H'=H) ⟨_,_,rfl,rfl⟩ ?_ ?_⟩
 ·rintro i σ' H' hi ⟨n,r,rfl,rfl⟩;refine ⟨_,rfl,_,_,rfl,rfl,JO (by decide) (by decide),_,rfl,_,rfl,c,_,rfl,hc,by omega,by omega,λm=>?_⟩
  exact ⟨_,_,rfl,rfl,_,_,rfl,rfl⟩
 ·rintro σ' H' ⟨n,r,rfl,rfl⟩;refine ⟨_,rfl,(by show 1<=sizeLine; decide),λp hp=>?_⟩
  exact q p _ _ hp (Zu hp _) zb
theorem Zh:FnScope ["box","many","left","digit"] ["box","many"] (zD (top 75)):={}
theorem ok_law_take (D:Df K mg "_law_take" (top 75) ["box","many"]) (T:Tx K mg CK C):Fn P w K mg base 1 "_law_take" ["box","many"] YD:=by
 refine D.ok0 Zh (λvs H Q E h=>?_) (λf cdv A outer s H vs Q E hr h=>?_)
 ·obtain ⟨b,m,n,rfl,_⟩:=h;rfl
 obtain ⟨b,m,n,rfl,hb,m0,hm,q⟩:=h
 refine ⟨_,(zE (Yu (zS call_divmodB (by rfl) T.b_divmod PyProof.Rows.Boot.«divmod» (zA (zH ix_list (pv 0) zC (λ_ _=>rfl)) (zA (pv 1) zB))) (pg_tup rfl (Ye (zj (i:=2) Zh.nd rfl (Or.inl rfl)) (Ye (zj (i:=3) Zh.nd rfl (Or.inl rfl)) pgs_nil))))
   (zE (Yu (pv 2) (Jq (pv 0) zC Zj))
   (zF (zM (pv 3))))),?_⟩
 try dsimp only [cxK,cxK0]
 refine ⟨_,rfl,b,_,_,_,rfl,rfl,SqL.of hb,rfl,_,rfl,n,m,rfl,⟨m0,hm.log⟩,?_⟩;intro p KS;have sm:=Zu KS (.tup [.int (n / m),.int (n % m)]);have hp:upd H p (.tup [.int (n / m),.int (n % m)]) p=some (.tup [.int (n / m),.int (n % m)]):=zb;refine ⟨p,_,rfl,SqT.of hp,rfl,_,_,rfl,_,_,rfl,rfl,?_⟩;refine ⟨_,rfl,_,rfl,b,_,_,0,rfl,rfl,sm _ _ hb,rfl,_,rfl,?_⟩;have d0:=Int.emod_nonneg n (show m≠0 by omega)
 have d1:=Int.emod_lt_of_pos n m0;exact q (n % m) (n / m) _ d0 d1 ((But.of sm).trans (but_upd _)) zb
theorem j4:FnScope ["top","bottom","one","other"] ["top","bottom"] (zD (top 76)):={}
theorem ok_law_fit0 (D:Df K mg "_law_fit" (top 76) ["top","bottom"]) (T:Tx K mg CK C):Fn P w K mg base 1 "_law_fit" ["top","bottom"] spFit:=by
 refine D.ok0 j4 (λvs H Q E h=>?_) (λf cdv A outer s H vs Q E hr h=>?_)
 ·obtain ⟨a,b,rfl,_⟩:=h;rfl
 obtain ⟨a,b,rfl,c,hb,hq⟩:=h
 refine ⟨_,(zE (ps_par (i:=2) (j:=3) rfl j4.nd rfl rfl (by decide) rfl rfl (zA (zS Yn (by rfl) T.b_abs PyProof.Rows.Boot.«abs» (zA (pv 0) zB)) (zA (zS Yn (by rfl) T.b_abs PyProof.Rows.Boot.«abs» (zA (pv 1) zB)) zB)) rfl)
   (zE (YR PassesOwn.never (zR op_gt (pv 3) zC (zU _)) (zF (ps_par (i:=2) (j:=3) rfl j4.nd rfl rfl (by decide) rfl rfl (zA (pv 3) (zA (zN Ju (pv 2) (pv 3)) zB)) rfl)))
   (zE (ze (zR Z5 (pv 1) zC (zU _)) (zF (zO (i:=2) j4.nd rfl (Or.inl rfl) (zN jp zC (pv 2)))) zT)
   (zF (zM (zP (zA (zN yC (pv 0) (pv 2)) (zA (zN yC (pv 1) (pv 2)) zB)))))))),?_⟩
 try dsimp only [cxK,cxK0]
 refine ⟨_,rfl,_,rfl,_,rfl,_,rfl,_,_,rfl,?_⟩;refine ⟨λm σ' H'=>∃ g s:Int,σ'=[some (.int a),some (.int b),some (.int g),some (.int s)]/\H'=H/\0<=g/\0<=s/\m=s.toNat/\Int.gcd g s=Int.gcd a b,⟨_,_,_,rfl,rfl,abs_nn a,abs_nn b,rfl,gcd_abs a b⟩,?_⟩
 rintro m σ' H' ⟨g,s,rfl,rfl,hg,hs,rfl,e⟩;refine ⟨_,rfl,_,_,rfl,rfl,_,rfl,?_⟩;refine zc (λc=>?_) (λz=>?_)
 ·refine ⟨_,λ_ _ n=>n,?_⟩
  refine ⟨_,rfl,_,rfl,_,rfl,_,_,rfl,rfl,c,_,_,rfl,?_⟩;have l:=Int.emod_lt_of_pos g c;have l0:=Int.emod_nonneg g (show s≠0 by omega)
  exact ⟨_,by omega,s,g % s,rfl,rfl,by omega,l0,rfl,(gcd_step g s hg c).trans e⟩
 ·have s0:s=0:=by omega
  subst s0;have z:=gcd_end g hg;rw [e] at z;subst z;have hd:(if b < 0 then -((Int.gcd a b:Nat):Int) else ((Int.gcd a b:Nat):Int))=dv a b:=rfl
  have lg:=(bd_dv (t:=a) c hb).log;refine ⟨_,rfl,_,_,rfl,rfl,_,rfl,?_⟩;refine zc (λn=>?_) (λn=>?_)
  ·rw [if_pos n] at hd;refine ⟨_,rfl,_,_,rfl,rfl,?_⟩;dsimp only;rw [show (0:Int) - ((Int.gcd a b:Nat):Int)=dv a b by rw [<- hd]; omega]
   refine ⟨_,rfl,_,rfl,_,_,rfl,rfl,⟨ZQ c,lg⟩,_,rfl,_,rfl,_,_,rfl,rfl,⟨ZQ c,lg⟩,by show 2<=sizeLine; decide,?_⟩
   exact Yw λp H' sm hp=>hq p H' sm hp
  ·rw [if_neg n] at hd;rw [hd];refine ⟨_,rfl,_,rfl,_,_,rfl,rfl,⟨ZQ c,lg⟩,_,rfl,_,rfl,_,_,rfl,rfl,⟨ZQ c,lg⟩,by show 2<=sizeLine; decide,?_⟩
   exact Yw λp H' sm hp=>hq p H' sm hp
noncomputable def jB (K:PySem.W.Frag):Sp:=λvs H Q _=>∃ (a:Int) (b:Int),vs=[.int a,.int b]/\Bd 9000 b/\b≠0/\(∀ (p_r:Addr) (H1:Hp),Same H H1->FQ K H1 p_r (Rat.divInt a b)->Q (.ref p_r) H1)
theorem ok_law_fit (D:Df K mg "_law_fit" (top 76) ["top","bottom"]) (T:Tx K mg CK C):Fn P w K mg base 1 "_law_fit" ["top","bottom"] (jB K):=
 (ok_law_fit0 D T).imp λvs H Q E h=>by
  obtain ⟨a,b,rfl,hb,b0,k⟩:=h;exact ⟨a,b,rfl,b0,hb,λp H' s e=>k p H' s (FQ.fit b0 (SqT.of e))⟩
noncomputable def ja (K:PySem.W.Frag):Sp:=λvs H Q _=>∃ (p_x:Addr) (x:Rat) (p_y:Addr) (y:Rat),vs=[.ref p_x,.ref p_y]/\FQ K H p_x x/\FB 4400 x/\FQ K H p_y y/\FB 4400 y/\(∀ (p_r:Addr) (H1:Hp),Same H H1->FQ K H1 p_r (x+y)->Q (.ref p_r) H1)
theorem sc_law_plus:FnScope ["one","other"] ["one","other"] (zD (top 77)):={}
theorem ok_law_plus (D:Df K mg "_law_plus" (top 77) ["one","other"]) (T:Tx K mg CK C) (ag:Fn P w K mg base 1 "_law_fit" ["top","bottom"] (jB K)):Fn P w K mg base 2 "_law_plus" ["one","other"] (ja K):=by
 refine D.ok0 sc_law_plus (λvs H Q E h=>?_) (λf cdv A outer s H vs Q E hr h=>?_)
 ·obtain ⟨p_x,x,p_y,y,rfl,_⟩:=h;rfl
 obtain ⟨p_x,x,p_y,y,rfl,g_x,d_x,g_y,d_y,k0⟩:=h;refine ⟨_,(zF (zM (zJ ag (by decide) hr (by rfl) zG (zA (zN zm (zN zf (zH ix_tup (pv 0) zC (λ_ _=>rfl)) (zH ix_tup (pv 1) zC (λ_ _=>rfl))) (zN zf (zH ix_tup (pv 1) zC (λ_ _=>rfl)) (zH ix_tup (pv 0) zC (λ_ _=>rfl)))) (zA (zN zf (zH ix_tup (pv 0) zC (λ_ _=>rfl)) (zH ix_tup (pv 1) zC (λ_ _=>rfl))) zB))))),?_⟩
 try dsimp only [cxK,cxK0]
 refine ⟨_,rfl,p_x,_,_,_,rfl,rfl,g_x,rfl,_,rfl,p_y,_,_,_,rfl,rfl,g_y,rfl,_,_,rfl,rfl,(d_x.1.ok d_y.2 (by decide)),_,rfl,p_y,_,_,_,rfl,rfl,g_y,rfl,_,rfl,p_x,_,_,_,rfl,rfl,g_x,rfl,_,_,rfl,rfl,(d_y.1.ok d_x.2 (by decide)),_,_,rfl,rfl,_,rfl,p_x,_,_,_,rfl,rfl,g_x,rfl,_,rfl,p_y,_,_,_,rfl,rfl,g_y,rfl,_,_,rfl,rfl,(d_x.2.ok d_y.2 (by decide)),_,_,rfl,((Bd.mul d_x.2 d_y.2).mono (by decide)),(by exact Int.mul_ne_zero (q_ne _) (q_ne _)),λp_r13 ku aC g_r13=>?_⟩
 have d_r13:FB 8801 (Rat.divInt ((((x).num * (((y).den:Nat):Int))+((y).num * (((x).den:Nat):Int)))) (((((x).den:Nat):Int) * (((y).den:Nat):Int)))):=(FB.mono (FB.fit (by exact Int.mul_ne_zero (q_ne _) (q_ne _)) ((Bd.add ((Bd.mul d_x.1 d_y.2).mono (n:=8800) (by decide)) ((Bd.mul d_y.1 d_x.2).mono (n:=8800) (by decide))).mono (n:=8801) (by decide)) ((Bd.mul d_x.2 d_y.2).mono (n:=8801) (by decide))) (by decide))
 have gq:((Rat.divInt ((((x).num * (((y).den:Nat):Int))+((y).num * (((x).den:Nat):Int)))) (((((x).den:Nat):Int) * (((y).den:Nat):Int)))):Rat)=x+y:=by exact q_add x y
 exact k0 _ _ aC (FQ.cast g_r13 gq)
noncomputable def YX (K:PySem.W.Frag):Sp:=λvs H Q _=>∃ (p_x:Addr) (x:Rat) (p_y:Addr) (y:Rat),vs=[.ref p_x,.ref p_y]/\FQ K H p_x x/\FB 4400 x/\FQ K H p_y y/\FB 4400 y/\(∀ (p_r:Addr) (H1:Hp),Same H H1->FQ K H1 p_r (x - y)->Q (.ref p_r) H1)
theorem sc_law_minus:FnScope ["one","other"] ["one","other"] (zD (top 78)):={}
theorem ok_law_minus (D:Df K mg "_law_minus" (top 78) ["one","other"]) (T:Tx K mg CK C) (ag:Fn P w K mg base 1 "_law_fit" ["top","bottom"] (jB K)):Fn P w K mg base 2 "_law_minus" ["one","other"] (YX K):=by
 refine D.ok0 sc_law_minus (λvs H Q E h=>?_) (λf cdv A outer s H vs Q E hr h=>?_)
 ·obtain ⟨p_x,x,p_y,y,rfl,_⟩:=h;rfl
 obtain ⟨p_x,x,p_y,y,rfl,g_x,d_x,g_y,d_y,k0⟩:=h;refine ⟨_,(zF (zM (zJ ag (by decide) hr (by rfl) zG (zA (zN jp (zN zf (zH ix_tup (pv 0) zC (λ_ _=>rfl)) (zH ix_tup (pv 1) zC (λ_ _=>rfl))) (zN zf (zH ix_tup (pv 1) zC (λ_ _=>rfl)) (zH ix_tup (pv 0) zC (λ_ _=>rfl)))) (zA (zN zf (zH ix_tup (pv 0) zC (λ_ _=>rfl)) (zH ix_tup (pv 1) zC (λ_ _=>rfl))) zB))))),?_⟩
 try dsimp only [cxK,cxK0]
 refine ⟨_,rfl,p_x,_,_,_,rfl,rfl,g_x,rfl,_,rfl,p_y,_,_,_,rfl,rfl,g_y,rfl,_,_,rfl,rfl,(d_x.1.ok d_y.2 (by decide)),_,rfl,p_y,_,_,_,rfl,rfl,g_y,rfl,_,rfl,p_x,_,_,_,rfl,rfl,g_x,rfl,_,_,rfl,rfl,(d_y.1.ok d_x.2 (by decide)),_,_,rfl,rfl,_,rfl,p_x,_,_,_,rfl,rfl,g_x,rfl,_,rfl,p_y,_,_,_,rfl,rfl,g_y,rfl,_,_,rfl,rfl,(d_x.2.ok d_y.2 (by decide)),_,_,rfl,((Bd.mul d_x.2 d_y.2).mono (by decide)),(by exact Int.mul_ne_zero (q_ne _) (q_ne _)),λp_r15 rH aS g_r15=>?_⟩
 have d_r15:FB 8801 (Rat.divInt ((((x).num * (((y).den:Nat):Int)) - ((y).num * (((x).den:Nat):Int)))) (((((x).den:Nat):Int) * (((y).den:Nat):Int)))):=(FB.mono (FB.fit (by exact Int.mul_ne_zero (q_ne _) (q_ne _)) ((Bd.sub ((Bd.mul d_x.1 d_y.2).mono (n:=8800) (by decide)) ((Bd.mul d_y.1 d_x.2).mono (n:=8800) (by decide))).mono (n:=8801) (by decide)) ((Bd.mul d_x.2 d_y.2).mono (n:=8801) (by decide))) (by decide))
 have gv:((Rat.divInt ((((x).num * (((y).den:Nat):Int)) - ((y).num * (((x).den:Nat):Int)))) (((((x).den:Nat):Int) * (((y).den:Nat):Int)))):Rat)=x - y:=by exact q_sub x y
 exact k0 _ _ aS (FQ.cast g_r15 gv)
noncomputable def Zp (K:PySem.W.Frag):Sp:=λvs H Q _=>∃ (p_x:Addr) (x:Rat) (p_y:Addr) (y:Rat),vs=[.ref p_x,.ref p_y]/\FQ K H p_x x/\FB 60000 x/\FQ K H p_y y/\FB 60000 y/\(∀ (H1:Hp),Same H H1->Q (.bl (decide (x < y))) H1)
theorem sc_law_less:FnScope ["one","other"] ["one","other"] (zD (top 79)):={}
theorem ok_law_less (D:Df K mg "_law_less" (top 79) ["one","other"]) (T:Tx K mg CK C):Fn P w K mg base 1 "_law_less" ["one","other"] (Zp K):=by
 refine D.ok0 sc_law_less (λvs H Q E h=>?_) (λf cdv A outer s H vs Q E hr h=>?_)
 ·obtain ⟨p_x,x,p_y,y,rfl,_⟩:=h;rfl
 obtain ⟨p_x,x,p_y,y,rfl,g_x,d_x,g_y,d_y,k0⟩:=h;refine ⟨_,(zF (zM (yy Z5 (zN zf (zH ix_tup (pv 0) zC (λ_ _=>rfl)) (zH ix_tup (pv 1) zC (λ_ _=>rfl))) (zN zf (zH ix_tup (pv 1) zC (λ_ _=>rfl)) (zH ix_tup (pv 0) zC (λ_ _=>rfl))) (zU _)))),?_⟩
 try dsimp only [cxK,cxK0]
 refine ⟨_,rfl,p_x,_,_,_,rfl,rfl,g_x,rfl,_,rfl,p_y,_,_,_,rfl,rfl,g_y,rfl,_,_,rfl,rfl,(d_x.1.ok d_y.2 (by decide)),_,rfl,p_y,_,_,_,rfl,rfl,g_y,rfl,_,rfl,p_x,_,_,_,rfl,rfl,g_x,rfl,_,_,rfl,rfl,(d_y.1.ok d_x.2 (by decide)),_,_,rfl,rfl,?_⟩
 try dsimp only
 rw [show decide (((x).num * (((y).den:Nat):Int)) < ((y).num * (((x).den:Nat):Int)))=decide (x < y) from decide_eq_decide.mpr (by exact (q_lt x y).symm)]
 exact k0 _ (Same.refl _)
noncomputable def JC (K:PySem.W.Frag):Sp:=λvs H Q _=>∃ b n,vs=[.ref b]/\H b=some (.lst [.int n])/\∀ (rp r0 r1:Addr) (R:Rat × Rat) (H':Hp) (n':Int),But b H H'->H' b=some (.lst [.int n'])->SqT K H' rp [.ref r0,.ref r1]->FQ K H' r0 R.1->FQ K H' r1 R.2->RmQ R->Q (.ref rp) H'
theorem sc_law_room:FnScope ["box"] ["box"] (zD (top 81)):={}
theorem ok_law_room (D:Df K mg "_law_room" (top 81) ["box"]) (T:Tx K mg CK C) (aa:Fn P w K mg base 1 "_law_take" ["box","many"] YD) (ag:Fn P w K mg base 1 "_law_fit" ["top","bottom"] (jB K)):Fn P w K mg base 2 "_law_room" ["box"] (JC K):=by
 refine D.ok0 sc_law_room (λvs H Q E h=>?_) (λf cdv A outer s H vs Q E hr h=>?_)
 ·obtain ⟨b,n,rfl,_⟩:=h;rfl
 obtain ⟨b,n,rfl,hb,q⟩:=h
 refine ⟨_,(zE (ze (zR ji (zJ aa (by decide) hr (by rfl) zG (zA (pv 0) (zA zC zB))) zC (zU _)) (zF (zM (zP (zA (zP (zA (zN zm zC (zJ aa (by decide) hr (by rfl) zG (zA (pv 0) (zA zC zB)))) (zA zC zB))) (zA (zP (zA (zN zm zC (zJ aa (by decide) hr (by rfl) zG (zA (pv 0) (zA zC zB)))) (zA zC zB))) zB))))) zT)
   (zF (zM (zP (zA (zJ ag (by decide) hr (by rfl) zG (zA (zN zm zC (zJ aa (by decide) hr (by rfl) zG (zA (pv 0) (zA zC zB)))) (zA zC zB))) (zA (zJ ag (by decide) hr (by rfl) zG (zA (zN zm zC (zJ aa (by decide) hr (by rfl) zG (zA (pv 0) (zA zC zB)))) (zA zC zB))) zB)))))),?_⟩
 try dsimp only [cxK,cxK0]
 have cI:∀ i:Int,-(2 ^ 64) < i->i < 2 ^ 64->Bd 9000 i:=λi h1 h2=>(Bd.small h1 h2).mono (by decide)
 refine ⟨_,rfl,b,2,n,rfl,hb,by decide,cI _ (by decide) (by decide),λd1 n1 H1 u1 v1 s1 dw=>⟨rfl,_,rfl,?_⟩⟩
 refine yh (λc=>?_) (λc=>?_)
 ·refine ⟨_,rfl,b,7,n1,rfl,dw,by decide,cI _ (by decide) (by decide),λd2 n2 H2 u2 v2 s2 dQ=>?_⟩
  refine ⟨_,_,rfl,rfl,by show 2<=sizeLine; decide,?_⟩
  intro p3 n3;obtain ⟨H3,q3,s3,e3⟩:=newO n3 (.tup [.int (6+d2),.int 1]);rw [q3];clear q3;refine ⟨_,rfl,b,7,n2,rfl,s3 _ _ dQ,by decide,cI _ (by decide) (by decide),λd4 n4 H4 u4 v4 s4 dY=>?_⟩
  refine ⟨_,_,rfl,rfl,by show 2<=sizeLine; decide,?_⟩
  intro p5 n5;obtain ⟨H5,q5,s5,e5⟩:=newO n5 (.tup [.int (4+d4),.int 1]);rw [q5];clear q5;refine ⟨by show 2<=sizeLine; decide,?_⟩
  intro p6 n6;obtain ⟨H6,q6,s6,e6⟩:=newO n6 (.tup [.ref p3,.ref p5]);rw [q6];clear q6;have f3:FQ K H3 p3 ((6+d2:Int):Rat):=SqT.of e3;have f5:FQ K H5 p5 ((4+d4:Int):Rat):=SqT.of e5;exact q p6 p3 p5 (((6+d2:Int):Rat),((4+d4:Int):Rat)) H6 n4 (s1.trans (s2.trans ((But.of s3).trans (s4.trans (But.of (s5.trans s6)))))) (s6 _ _ (s5 _ _ dY)) (SqT.of e6) (Kw.Same.tup (s5.trans s6) (s4.tup (s3 _ _ dQ) f3)) (Kw.Same.tup s6 f5) (rm_int (by omega) (by omega) (by omega) (by omega))
 ·refine ⟨_,rfl,b,60,n1,rfl,dw,by decide,cI _ (by decide) (by decide),λd2 n2 H2 u2 v2 s2 dQ=>?_⟩
  refine ⟨_,_,rfl,rfl,_,_,rfl,cI _ (by decide) (by decide),by decide,λp3 H3 s3 f3=>?_⟩
  refine ⟨_,rfl,b,60,n2,rfl,s3 _ _ dQ,by decide,cI _ (by decide) (by decide),λd4 n4 H4 u4 v4 s4 dY=>?_⟩
  refine ⟨_,_,rfl,rfl,_,_,rfl,cI _ (by decide) (by decide),by decide,λp5 H5 s5 f5=>?_⟩
  refine ⟨by show 2<=sizeLine; decide,?_⟩
  intro p6 n6;obtain ⟨H6,q6,s6,e6⟩:=newO n6 (.tup [.ref p3,.ref p5]);rw [q6];clear q6;exact q p6 p3 p5 (Rat.divInt (40+d2) 7,Rat.divInt (30+d4) 7) H6 n4 (s1.trans (s2.trans ((But.of s3).trans (s4.trans (But.of (s5.trans s6)))))) (s6 _ _ (s5 _ _ dY)) (SqT.of e6) (Kw.Same.tup (s5.trans s6) (s4.tup (s3 _ _ dQ) f3)) (Kw.Same.tup s6 f5) (rm_sev (by omega) (by omega) (by omega) (by omega))
noncomputable def j0 (K:PySem.W.Frag):Sp:=λvs H Q _=>∃ (z y:V) (k l:Bq) (N:Nat),vs=[z,y]/\BqH K N H z k/\BqH K N H y l/\N<=2390/\∀ H',Same H H'->Q (.bl (!(hicB k l 0 && hicB k l 1))) H'
theorem Yg:FnScope ["one","other","way"] ["one","other"] (zD (top 82)):={}
theorem ok_law_apart (D:Df K mg "_law_apart" (top 82) ["one","other"]) (T:Tx K mg CK C) (aH:Fn P w K mg base 1 "_law_less" ["one","other"] (Zp K)) (aq:Fn P w K mg base 2 "_law_plus" ["one","other"] (ja K)):Fn P w K mg base 3 "_law_apart" ["one","other"] (j0 K):=by
 refine D.ok0 Yg (λvs H Q E h=>?_) (λf cdv A outer s H vs Q E hr h=>?_)
 ·obtain ⟨z,y,k,l,N,rfl,_⟩:=h;rfl
 obtain ⟨z,y,k,l,N,rfl,hz,hy,hN,q⟩:=h
 refine ⟨_,(zE (yA PassesOwn.never rfl (yn (by rfl) T.b_range (zA zC zB)) (zj (i:=2) Yg.nd rfl (Or.inl rfl)) (zE (ze (yH (zh (zJ aH (by decide) hr (by rfl) zG (zA (zH ix_tup (pv 1) (pv 2) (λ_ _=>rfl)) (zA (zJ aq (by decide) hr (by rfl) zG (zA (zH ix_tup (pv 0) (pv 2) (λ_ _=>rfl)) (zA (zH ix_tup (pv 0) (zN zm zC (pv 2)) (λ_ _=>rfl)) zB))) zB))) (λ_=>rfl))) (zF (zM yW)) zT)
   (zF (ze (yH (zh (zJ aH (by decide) hr (by rfl) zG (zA (zH ix_tup (pv 0) (pv 2) (λ_ _=>rfl)) (zA (zJ aq (by decide) hr (by rfl) zG (zA (zH ix_tup (pv 1) (pv 2) (λ_ _=>rfl)) (zA (zH ix_tup (pv 1) (zN zm zC (pv 2)) (λ_ _=>rfl)) zB))) zB))) (λ_=>rfl))) (zF (zM yW)) zT))))
   (zF (zM yW))),?_⟩
 try dsimp only [cxK,cxK0]
 obtain ⟨p,a0,a1,a2,a3,a4,a5,rfl,hp,⟨g0,g1,g2,g3,g4,g5⟩,⟨d0,d1,d2,d3,d4,d5⟩,_⟩:=hz;obtain ⟨r,b0,b1,b2,b3,b4,b5,rfl,ej,⟨k0,k1,k2,k3,k4,k5⟩,⟨f0,f1,f2,f3,f4,f5⟩,_⟩:=hy;have me:∀ {x:Rat},FB N x->FB 60000 x:=λh=>h.mono (by omega)
 have ms:∀ {x y:Rat},FB N x->FB 1990 y->FB 60000 (x+y):=λh g=>(h.add g).mono (by omega)
 have md:∀ {x:Rat},FB N x->FB 4400 x:=λh=>h.mono (by omega)
 have mf:∀ {x:Rat},FB 1990 x->FB 4400 x:=λh=>h.mono (by decide)
 have bad:(hicB k l 0 && hicB k l 1)=false->∀ H',Same H H'->Q (.bl true) H':=λe H' s'=>by
  have z:=q H' s';rw [e] at z;exact z
 refine ⟨_,rfl,by decide,by decide,z7 (n:=2) (λi σ1 H1=>∃ r3:Option V,σ1=[some (.ref p),some (.ref r),r3]/\Same H H1/\(1<=i->hicB k l 0=true)/\(2<=i->hicB k l 1=true)) ⟨_,rfl,Same.refl H,λz=>absurd z (by omega),λz=>absurd z (by omega)⟩ ?_ ?_⟩
 ·rintro i σ1 H1 hi ⟨r3,rfl,sm,i1,i2⟩;have cH:=Kw.Same.tup sm hp;have gW:=Kw.Same.tup sm ej
  match i,hi with
  |0,_=>
   refine ⟨_,rfl,_,rfl,r,_,_,_,rfl,rfl,gW,rfl,_,rfl,_,rfl,p,_,_,_,rfl,rfl,cH,rfl,_,rfl,_,rfl,_,_,rfl,rfl,p,_,_,_,rfl,rfl,cH,rfl,?_⟩;refine ⟨_,_,_,_,rfl,Kw.Same.tup sm g0,md d0,Kw.Same.tup sm g2,mf d2,λm2 H2 s2 e2=>?_⟩
   have t2:=sm.trans s2;refine ⟨_,_,_,_,rfl,Kw.Same.tup t2 k0,me f0,e2,ms d0 d2,λH3 s3=>⟨_,rfl,?_⟩⟩
   have t3:=t2.trans s3;refine yj (λc=>?_) (λc=>?_)
   ·refine bad ?_ H3 t3;have e:hicB k l 0=false:=by
     unfold hicB;rw [show decide (l.pl 0 < k.far 0)=false from decide_eq_false c,Bool.and_false]
    rw [e];simp
   refine ⟨_,rfl,_,rfl,p,_,_,_,rfl,rfl,Kw.Same.tup t3 hp,rfl,_,rfl,_,rfl,r,_,_,_,rfl,rfl,Kw.Same.tup t3 ej,rfl,_,rfl,_,rfl,_,_,rfl,rfl,r,_,_,_,rfl,rfl,Kw.Same.tup t3 ej,rfl,?_⟩;refine ⟨_,_,_,_,rfl,Kw.Same.tup t3 k0,md f0,Kw.Same.tup t3 k2,mf f2,λm4 H4 s4 e4=>?_⟩
   have t4:=t3.trans s4;refine ⟨_,_,_,_,rfl,Kw.Same.tup t4 g0,me d0,e4,ms f0 f2,λH5 s5=>⟨_,rfl,?_⟩⟩
   have t5:=t4.trans s5;refine yj (λc2=>?_) (λc2=>?_)
   ·refine bad ?_ H5 t5;have e:hicB k l 0=false:=by
     unfold hicB;rw [show decide (k.pl 0 < l.far 0)=false from decide_eq_false c2,Bool.false_and]
    rw [e];simp
   have hh:hicB k l 0=true:=by
    unfold hicB;rw [show decide (l.pl 0 < k.far 0)=true from decide_eq_true c,show decide (k.pl 0 < l.far 0)=true from decide_eq_true c2];rfl
   exact ⟨_,rfl,t5,λ_=>hh,λz=>absurd z (by omega)⟩
  |1,_=>
   refine ⟨_,rfl,_,rfl,r,_,_,_,rfl,rfl,gW,rfl,_,rfl,_,rfl,p,_,_,_,rfl,rfl,cH,rfl,_,rfl,_,rfl,_,_,rfl,rfl,p,_,_,_,rfl,rfl,cH,rfl,?_⟩;refine ⟨_,_,_,_,rfl,Kw.Same.tup sm g1,md d1,Kw.Same.tup sm g3,mf d3,λm2 H2 s2 e2=>?_⟩
   have t2:=sm.trans s2;refine ⟨_,_,_,_,rfl,Kw.Same.tup t2 k1,me f1,e2,ms d1 d3,λH3 s3=>⟨_,rfl,?_⟩⟩
   have t3:=t2.trans s3;refine yj (λc=>?_) (λc=>?_)
   ·refine bad ?_ H3 t3;have e:hicB k l 1=false:=by
     unfold hicB;rw [show decide (l.pl 1 < k.far 1)=false from decide_eq_false c,Bool.and_false]
    rw [e];simp
   refine ⟨_,rfl,_,rfl,p,_,_,_,rfl,rfl,Kw.Same.tup t3 hp,rfl,_,rfl,_,rfl,r,_,_,_,rfl,rfl,Kw.Same.tup t3 ej,rfl,_,rfl,_,rfl,_,_,rfl,rfl,r,_,_,_,rfl,rfl,Kw.Same.tup t3 ej,rfl,?_⟩;refine ⟨_,_,_,_,rfl,Kw.Same.tup t3 k1,md f1,Kw.Same.tup t3 k3,mf f3,λm4 H4 s4 e4=>?_⟩
   have t4:=t3.trans s4;refine ⟨_,_,_,_,rfl,Kw.Same.tup t4 g1,me d1,e4,ms f1 f3,λH5 s5=>⟨_,rfl,?_⟩⟩
   have t5:=t4.trans s5;refine yj (λc2=>?_) (λc2=>?_)
   ·refine bad ?_ H5 t5;have e:hicB k l 1=false:=by
     unfold hicB;rw [show decide (k.pl 1 < l.far 1)=false from decide_eq_false c2,Bool.false_and]
    rw [e];simp
   have hh:hicB k l 1=true:=by
    unfold hicB;rw [show decide (l.pl 1 < k.far 1)=true from decide_eq_true c,show decide (k.pl 1 < l.far 1)=true from decide_eq_true c2];rfl
   exact ⟨_,rfl,t5,λ_=>i1 (by omega),λ_=>hh⟩
 ·rintro σ1 H1 ⟨r3,rfl,sm,i1,i2⟩;have z:=q H1 sm;rw [i1 (by decide),i2 (by decide)] at z
  exact z
noncomputable def YT (K:PySem.W.Frag):Sp:=λvs H Q _=>∃ (b:Addr) (n:Int) (rp r0 r1:Addr) (R:Rat × Rat),vs=[.ref b,.ref rp]/\H b=some (.lst [.int n])/\SqT K H rp [.ref r0,.ref r1]/\FQ K H r0 R.1/\FQ K H r1 R.2/\RmQ R/\
 ∀ (f:Addr) (xs:List V) (gs:List Bq) (n':Int) (H':Hp),But b H H'->H' b=some (.lst [.int n'])->f≠b->H f=none->H' f=some (.lst xs)->Al2 (BqH K 1990 H') xs gs->1<=gs.length->BxsQ R gs->Q (.ref f) H'
theorem zl:FnScope ["box","room","found","bottom","k","wide","high","left","low","right","up","weight","one"] ["box","room"] (zD (top 83)):={}
theorem ok_law_boxes (D:Df K mg "_law_boxes" (top 83) ["box","room"]) (T:Tx K mg CK C) (aa:Fn P w K mg base 1 "_law_take" ["box","many"] YD) (ag:Fn P w K mg base 1 "_law_fit" ["top","bottom"] (jB K)) (aH:Fn P w K mg base 1 "_law_less" ["one","other"] (Zp K)) (aq:Fn P w K mg base 2 "_law_plus" ["one","other"] (ja K)) (aW:Fn P w K mg base 3 "_law_apart" ["one","other"] (j0 K)):Fn P w K mg base 4 "_law_boxes" ["box","room"] (YT K):=by
 refine D.ok0 zl (λvs H Q E h=>?_) (λf cdv A outer s H vs Q E hr h=>?_)
 ·obtain ⟨b,n,rp,r0,r1,R,rfl,_⟩:=h;rfl
 obtain ⟨b,n,rp,r0,r1,R,rfl,hb,hrm,fO,fP,rmq,q⟩:=h;have KU:FB 1990 R.1:=rmq.2.2.1.f42;have KW:FB 1990 R.2:=rmq.2.2.2.f42
 refine ⟨_,(zE (zO (i:=2) zl.nd rfl (Or.inl rfl) (zv zB))
   (zE (zO (i:=3) zl.nd rfl (Or.inl rfl) (zH ix_list (zv (zA zC (zA zC (zA zC (zA zC zB))))) (zJ aa (by decide) hr (by rfl) zG (zA (pv 0) (zA zC zB))) (λ_ _=>rfl)))
   (zE (yA PassesOwn.never rfl (yn (by rfl) T.b_range (zA (zN zm zC (zJ aa (by decide) hr (by rfl) zG (zA (pv 0) (zA zC zB)))) zB)) (zj (i:=4) zl.nd rfl (Or.inl rfl)) (zE (zO (i:=5) zl.nd rfl (Or.inl rfl) (zJ ag (by decide) hr (by rfl) zG (zA (zN zm zC (zJ aa (by decide) hr (by rfl) zG (zA (pv 0) (zA (zN zf zC (pv 3)) zB)))) (zA (pv 3) zB))))
   (zE (zO (i:=6) zl.nd rfl (Or.inl rfl) (zJ ag (by decide) hr (by rfl) zG (zA (zN zm zC (zJ aa (by decide) hr (by rfl) zG (zA (pv 0) (zA (zN zf zC (pv 3)) zB)))) (zA (pv 3) zB))))
   (zE (zO (i:=7) zl.nd rfl (Or.inl rfl) (zJ ag (by decide) hr (by rfl) zG (zA (zJ aa (by decide) hr (by rfl) zG (zA (pv 0) (zA (zN zf zC (pv 3)) zB))) (zA (pv 3) zB))))
   (zE (zO (i:=8) zl.nd rfl (Or.inl rfl) (zJ ag (by decide) hr (by rfl) zG (zA (zJ aa (by decide) hr (by rfl) zG (zA (pv 0) (zA (zN zf zC (pv 3)) zB))) (zA (pv 3) zB))))
   (zE (zO (i:=9) zl.nd rfl (Or.inl rfl) (zJ ag (by decide) hr (by rfl) zG (zA (zN jp (zJ aa (by decide) hr (by rfl) zG (zA (pv 0) (zA zC zB))) zC) (zA (zH ix_list (zv (zA zC (zA zC (zA zC zB)))) (zJ aa (by decide) hr (by rfl) zG (zA (pv 0) (zA zC zB))) (λ_ _=>rfl)) zB))))
   (zE (zO (i:=10) zl.nd rfl (Or.inl rfl) (zJ ag (by decide) hr (by rfl) zG (zA (zN jp (zJ aa (by decide) hr (by rfl) zG (zA (pv 0) (zA zC zB))) zC) (zA (zH ix_list (zv (zA zC (zA zC (zA zC zB)))) (zJ aa (by decide) hr (by rfl) zG (zA (pv 0) (zA zC zB))) (λ_ _=>rfl)) zB))))
   (zE (zO (i:=11) zl.nd rfl (Or.inl rfl) (zN zm zC (zJ aa (by decide) hr (by rfl) zG (zA (pv 0) (zA (zH ix_list (zv (zA zC (zA zC (zA zC zB)))) (zJ aa (by decide) hr (by rfl) zG (zA (pv 0) (zA zC zB))) (λ_ _=>rfl)) zB)))))
   (zE (zO (i:=12) zl.nd rfl (Or.inr rfl) (zP (zA (pv 7) (zA (pv 8) (zA (pv 5) (zA (pv 6) (zA (pv 9) (zA (pv 10) (zA (pv 11) zB)))))))))
   (zF (ze (j2 (yH (zh (zJ aH (by decide) hr (by rfl) zG (zA (zH ix_tup (pv 1) zC (λ_ _=>rfl)) (zA (zJ aq (by decide) hr (by rfl) zG (zA (pv 7) (zA (pv 5) zB))) zB))) (λ_=>rfl))) (jL (yH (zh (zJ aH (by decide) hr (by rfl) zG (zA (zH ix_tup (pv 1) zC (λ_ _=>rfl)) (zA (zJ aq (by decide) hr (by rfl) zG (zA (pv 8) (zA (pv 6) zB))) zB))) (λ_=>rfl))))).pt (zF (ze (@PW.pt _ _ _ (j2 (zR Z5 (zS zo (by rfl) T.b_len PyProof.Rows.Boot.«len» (zA (pv 2) zB)) zC (zU _)) (jL (zh (zS (call_all (K:=K) rfl rfl) (by rfl) T.b_all PyProof.Rows.Boot.«all» (zA (@JD _ _ _ _ _ _ _ _ _ _ ["one"] [12] rfl (yP (pv 2)) rfl (by decide) rfl (by decide) rfl (by decide) (ZE (j:=12) rfl rfl rfl rfl (.inl rfl)) (λy c h=>h) (YF rfl) (λC z Hc fp=>(zJ aW (by decide) hr (by rfl) zG (zA (pv 1) (zA (pv 0) zB)))) (λ_=>rfl)) zB)) (λ_=>rfl))))) (zF (yI (pe_bm PySem.F.plainAttrs_list PySem.F.slot_list_append PySem.F.type_list_append ju (pv 2) (zA (pv 12) zB)))) zT)) zT)))))))))))
   (zE (@ze _ _ _ _ _ _ _ _ (zR (op_eqNil (K:=K) rfl (u100 hr)) (pv 2) (zv zB) (zU _)) (@zF _ _ _ (@zM _ _ _ _ (@pe_lst1 _ _ _ _ _ _ (@pe_tup7 _ _ _ _ _ _ _ _ _ _ _ _ _ _ _ _ _ _ _ _ _ _ _ _ _ _ _ _ _ _ (@Z2 _ _ _ _ _ _ _ _ _) (@Z2 _ _ _ _ _ _ _ _ _) (@Z2 _ _ _ _ _ _ _ _ _) (@Z2 _ _ _ _ _ _ _ _ _) (@Z2 _ _ _ _ _ _ _ _ _) (@Z2 _ _ _ _ _ _ _ _ _))))) zT)
   (zF (zM (pv 2))))))),?_⟩
 try dsimp only [cxK,cxK0]
 have cI:∀ i:Int,-(2 ^ 64) < i->i < 2 ^ 64->Bd 9000 i:=λi h1 h2=>(Bd.small h1 h2).mono (by decide)
 refine ⟨by show 0<=sizeLine; decide,?_⟩
 intro p1 n1;obtain ⟨H1,q1,s1,e1⟩:=newO n1 (.lst []);rw [q1];clear q1;have nfb:p1≠b:=Ne.symm (zL hb n1);have Hj:=n1;refine ⟨by show 4<=sizeLine; decide,?_⟩
 intro p2 n2;obtain ⟨H2,q2,s2,e2⟩:=newO n2 (.lst [.int 1,.int 1,.int 2,.int 3]);rw [q2];clear q2;have dQ:=s2 _ _ (s1 _ _ hb);have nl:p2≠b:=Ne.symm (zL (s1 _ _ hb) n2);refine ⟨_,rfl,b,4,n,rfl,dQ,by decide,cI _ (by decide) (by decide),λd3 n3 H3 u3 v3 s3 kJ=>?_⟩
 obtain ⟨bt,ebt,mbt⟩:=Jh [1,1,2,3] d3 u3 v3;have bbt:1<=bt/\bt<=3:=(show ∀ z∈([1,1,2,3]:List Int),1<=z/\z<=3 by decide) bt mbt
 refine ⟨p2,_,_,_,rfl,rfl,SqL.of (s3 _ _ nl e2),ebt,?_⟩;refine ⟨_,rfl,b,9,n3,rfl,kJ,by decide,cI _ (by decide) (by decide),λd4 n4 H4 u4 v4 s4 dY=>?_⟩
 have aM:But b H H4:=(But.of (s1.trans s2)).trans (s3.trans s4)
 refine ⟨_,_,rfl,rfl,_,rfl,by omega,by omega,z7 (n:=(1+d4).toNat) (λi σ1 H'=>∃ (r4 r5 r6 r7 r8 r9 d9 kK rJ:Option V) (xs:List V) (gs:List Bq) (nb:Int),σ1=[some (.ref b),some (.ref rp),some (.ref p1),some (.int bt),r4,r5,r6,r7,r8,r9,d9,kK,rJ]/\But b H H'/\H' b=some (.lst [.int nb])/\H' p1=some (.lst xs)/\Al2 (BqH K 1990 H') xs gs/\BxsQ R gs)
  ⟨_,_,_,_,_,_,_,_,_,[],[],n4,rfl,aM,dY,s4 _ _ nfb (s3 _ _ nfb (s2 _ _ e1)),trivial,bxs_nil⟩ ?_ ?_⟩
 ·rintro i σ1 H5 Ue ⟨r4,r5,r6,r7,r8,r9,d9,kK,rJ,xs,gs,nb,rfl,s5,eQ,oU,bF,bq⟩;have ie:SqT K H5 rp [.ref r0,.ref r1]:=But.tup s5 hb hrm;have ig:=But.tup s5 hb fO;have ii:=But.tup s5 hb fP;have lxg:=Al2.len bF;refine ⟨_,rfl,_,rfl,_,_,rfl,rfl,((Bd.small (i:=(3:Int)) (by decide) (by decide)).ok (Bd.small (i:=bt) (by omega) (by omega)) (by decide)),_,_,_,rfl,eQ,(by first|omega|exact Int.mul_pos (by omega) (by omega)),((Bd.mul (Bd.small (i:=(3:Int)) (by decide) (by decide)) (Bd.small (i:=bt) (by omega) (by omega))).mono (by decide)),λfQ KY KZ Hk Hl fR kL=>?_⟩
  refine ⟨_,_,rfl,rfl,_,rfl,_,_,rfl,((Bd.small (i:=bt) (by omega) (by omega)).mono (by decide)),(by omega),λp_r501 K0 eY g_r501=>?_⟩
  have dg:=eY _ _ kL;have d_r501:FB 65 (Rat.divInt (((1:Int)+fQ)) bt):=(FB.mono (FB.fit (by omega) ((Bd.add ((Bd.small (i:=(1:Int)) (by decide) (by decide)).mono (n:=64) (by decide)) ((Bd.small (i:=fQ) (by omega) (by omega)).mono (n:=64) (by decide))).mono (n:=65) (by decide)) ((Bd.small (i:=bt) (by omega) (by omega)).mono (n:=65) (by decide))) (by decide))
  refine ⟨_,rfl,_,rfl,_,_,rfl,rfl,((Bd.small (i:=(3:Int)) (by decide) (by decide)).ok (Bd.small (i:=bt) (by omega) (by omega)) (by decide)),_,_,_,rfl,dg,(by first|omega|exact Int.mul_pos (by omega) (by omega)),((Bd.mul (Bd.small (i:=(3:Int)) (by decide) (by decide)) (Bd.small (i:=bt) (by omega) (by omega))).mono (by decide)),λfS K1 K2 Hm Hn eZ kM=>?_⟩
  refine ⟨_,_,rfl,rfl,_,rfl,_,_,rfl,((Bd.small (i:=bt) (by omega) (by omega)).mono (by decide)),(by omega),λp_r504 K3 eG g_r504=>?_⟩
  have cJ:=eG _ _ kM;have d_r504:FB 65 (Rat.divInt (((1:Int)+fS)) bt):=(FB.mono (FB.fit (by omega) ((Bd.add ((Bd.small (i:=(1:Int)) (by decide) (by decide)).mono (n:=64) (by decide)) ((Bd.small (i:=fS) (by omega) (by omega)).mono (n:=64) (by decide))).mono (n:=65) (by decide)) ((Bd.small (i:=bt) (by omega) (by omega)).mono (n:=65) (by decide))) (by decide))
  refine ⟨_,rfl,_,rfl,_,_,rfl,rfl,((Bd.small (i:=(12:Int)) (by decide) (by decide)).ok (Bd.small (i:=bt) (by omega) (by omega)) (by decide)),_,_,_,rfl,cJ,(by first|omega|exact Int.mul_pos (by omega) (by omega)),((Bd.mul (Bd.small (i:=(12:Int)) (by decide) (by decide)) (Bd.small (i:=bt) (by omega) (by omega))).mono (by decide)),λik K4 K5 Ho Hq eI kN=>?_⟩
  refine ⟨_,rfl,_,_,rfl,((Bd.small (i:=bt) (by omega) (by omega)).mono (by decide)),(by omega),λp_r507 K6 dH g_r507=>?_⟩
  have bZ:=dH _ _ kN;have d_r507:FB 64 (Rat.divInt ik bt):=(FB.mono (FB.fit (by omega) ((Bd.small (i:=ik) (by omega) (by omega)).mono (n:=64) (by decide)) ((Bd.small (i:=bt) (by omega) (by omega)).mono (n:=64) (by decide))) (by decide))
  refine ⟨_,rfl,_,rfl,_,_,rfl,rfl,((Bd.small (i:=(10:Int)) (by decide) (by decide)).ok (Bd.small (i:=bt) (by omega) (by omega)) (by decide)),_,_,_,rfl,bZ,(by first|omega|exact Int.mul_pos (by omega) (by omega)),((Bd.mul (Bd.small (i:=(10:Int)) (by decide) (by decide)) (Bd.small (i:=bt) (by omega) (by omega))).mono (by decide)),λil K7 K8 Hr Hs dI kO=>?_⟩
  refine ⟨_,rfl,_,_,rfl,((Bd.small (i:=bt) (by omega) (by omega)).mono (by decide)),(by omega),λp_r510 K9 di g_r510=>?_⟩
  have bG:=di _ _ kO;have d_r510:FB 64 (Rat.divInt il bt):=(FB.mono (FB.fit (by omega) ((Bd.small (i:=il) (by omega) (by omega)).mono (n:=64) (by decide)) ((Bd.small (i:=bt) (by omega) (by omega)).mono (n:=64) (by decide))) (by decide))
  refine ⟨_,rfl,_,_,_,rfl,bG,(by decide+kernel),((Bd.small (i:=(9:Int)) (by decide) (by decide)).mono (by decide)),λim La Lb Ht Hu dj gw=>?_⟩
  refine ⟨_,_,rfl,rfl,by show 3<=sizeLine; decide,?_⟩
  intro kP io;obtain ⟨Lc,q513,cP,e513⟩:=newO io (.lst [.int ((1:Int)),.int ((1:Int)),.int ((2:Int))]);rw [q513];clear q513;have bH:=cP _ _ gw;have ip:=SqL.of (K:=K) e513;have kQ:kP≠b:=λz=>by rw [z,gw] at io; cases io
  refine ⟨_,rfl,_,_,_,rfl,bH,(by decide+kernel),((Bd.small (i:=(3:Int)) (by decide) (by decide)).mono (by decide)),λrK Ld Le Hv Hw cQ kR=>?_⟩
  obtain ⟨dJ,ev516,m517⟩:=Jh ([(1:Int),(1:Int),(2:Int)]:List Int) rK (by omega) (by show _ < (3:Int); omega)
  have Hx:1<=dJ/\dJ<=2:=(show ∀ z∈([(1:Int),(1:Int),(2:Int)]:List Int),1<=z/\z<=2 by decide+kernel) dJ m517
  replace ip:=(But.seq cQ kQ ip);refine ⟨kP,_,_,_,rfl,rfl,ip,ev516,_,_,rfl,((Bd.small (i:=dJ) (by omega) (by omega)).mono (by decide)),(by omega),λp_r518 Lf cR g_r518=>?_⟩
  have bv:=cR _ _ kR;have d_r518:FB 65 (Rat.divInt ((im - (4:Int))) dJ):=(FB.mono (FB.fit (by omega) ((Bd.sub ((Bd.small (i:=im) (by omega) (by omega)).mono (n:=64) (by decide)) ((Bd.small (i:=(4:Int)) (by decide) (by decide)).mono (n:=64) (by decide))).mono (n:=65) (by decide)) ((Bd.small (i:=dJ) (by omega) (by omega)).mono (n:=65) (by decide))) (by decide))
  refine ⟨_,rfl,_,_,_,rfl,bv,(by decide+kernel),((Bd.small (i:=(9:Int)) (by decide) (by decide)).mono (by decide)),λiq Lg Lh Hy Hz cS gz=>?_⟩
  refine ⟨_,_,rfl,rfl,by show 3<=sizeLine; decide,?_⟩
  intro kT iu;obtain ⟨Li,q521,cz,e521⟩:=newO iu (.lst [.int ((1:Int)),.int ((1:Int)),.int ((2:Int))]);rw [q521];clear q521;have bw:=cz _ _ gz;have iw:=SqL.of (K:=K) e521;have kU:kT≠b:=λz=>by rw [z,gz] at iu; cases iu
  refine ⟨_,rfl,_,_,_,rfl,bw,(by decide+kernel),((Bd.small (i:=(3:Int)) (by decide) (by decide)).mono (by decide)),λrL Lj Lk HA HB cC kW=>?_⟩
  obtain ⟨dL,ev524,m525⟩:=Jh ([(1:Int),(1:Int),(2:Int)]:List Int) rL (by omega) (by show _ < (3:Int); omega)
  have HC:1<=dL/\dL<=2:=(show ∀ z∈([(1:Int),(1:Int),(2:Int)]:List Int),1<=z/\z<=2 by decide+kernel) dL m525
  replace iw:=(But.seq cC kU iw);refine ⟨kT,_,_,_,rfl,rfl,iw,ev524,_,_,rfl,((Bd.small (i:=dL) (by omega) (by omega)).mono (by decide)),(by omega),λp_r526 Ll cE g_r526=>?_⟩
  have gA:=cE _ _ kW;have d_r526:FB 65 (Rat.divInt ((iq - (4:Int))) dL):=(FB.mono (FB.fit (by omega) ((Bd.sub ((Bd.small (i:=iq) (by omega) (by omega)).mono (n:=64) (by decide)) ((Bd.small (i:=(4:Int)) (by decide) (by decide)).mono (n:=64) (by decide))).mono (n:=65) (by decide)) ((Bd.small (i:=dL) (by omega) (by omega)).mono (n:=65) (by decide))) (by decide))
  refine ⟨_,rfl,by show 3<=sizeLine; decide,?_⟩
  intro kX iy;obtain ⟨Lm,q528,cb,e528⟩:=newO iy (.lst [.int ((4:Int)),.int ((4:Int)),.int ((1000:Int))]);rw [q528];clear q528;have aY:=cb _ _ gA;have iz:=SqL.of (K:=K) e528;have kY:kX≠b:=λz=>by rw [z,gA] at iy; cases iy
  refine ⟨_,rfl,_,_,_,rfl,aY,(by decide+kernel),((Bd.small (i:=(3:Int)) (by decide) (by decide)).mono (by decide)),λrM Ln Lo HD HE ce aZ=>?_⟩
  obtain ⟨fU,ev531,m532⟩:=Jh ([(4:Int),(4:Int),(1000:Int)]:List Int) rM (by omega) (by show _ < (3:Int); omega)
  have HF:4<=fU/\fU<=1000:=(show ∀ z∈([(4:Int),(4:Int),(1000:Int)]:List Int),4<=z/\z<=1000 by decide+kernel) fU m532
  replace iz:=(But.seq ce kY iz);refine ⟨kX,_,_,_,rfl,rfl,iz,ev531,_,_,_,rfl,aZ,(by first|omega|exact Int.mul_pos (by omega) (by omega)),((Bd.small (i:=fU) (by omega) (by omega)).mono (by decide)),λfV Lp kZ HG HH cF la=>?_⟩
  refine ⟨_,_,rfl,rfl,?_⟩;replace g_r507:=(But.tup cF aZ (But.tup ce aY (Kw.Same.tup cb (Kw.Same.tup cE (But.tup cC bw (Kw.Same.tup cz (But.tup cS bv (Kw.Same.tup cR (But.tup cQ bH (Kw.Same.tup cP (But.tup dj bG (Kw.Same.tup di (But.tup dI bZ g_r507)))))))))))));replace g_r510:=(But.tup cF aZ (But.tup ce aY (Kw.Same.tup cb (Kw.Same.tup cE (But.tup cC bw (Kw.Same.tup cz (But.tup cS bv (Kw.Same.tup cR (But.tup cQ bH (Kw.Same.tup cP (But.tup dj bG g_r510)))))))))));replace g_r501:=(But.tup cF aZ (But.tup ce aY (Kw.Same.tup cb (Kw.Same.tup cE (But.tup cC bw (Kw.Same.tup cz (But.tup cS bv (Kw.Same.tup cR (But.tup cQ bH (Kw.Same.tup cP (But.tup dj bG (Kw.Same.tup di (But.tup dI bZ (Kw.Same.tup dH (But.tup eI cJ (Kw.Same.tup eG (But.tup eZ dg g_r501)))))))))))))))));replace g_r504:=(But.tup cF aZ (But.tup ce aY (Kw.Same.tup cb (Kw.Same.tup cE (But.tup cC bw (Kw.Same.tup cz (But.tup cS bv (Kw.Same.tup cR (But.tup cQ bH (Kw.Same.tup cP (But.tup dj bG (Kw.Same.tup di (But.tup dI bZ (Kw.Same.tup dH (But.tup eI cJ g_r504)))))))))))))));replace g_r518:=(But.tup cF aZ (But.tup ce aY (Kw.Same.tup cb (Kw.Same.tup cE (But.tup cC bw (Kw.Same.tup cz (But.tup cS bv g_r518)))))));replace g_r526:=(But.tup cF aZ (But.tup ce aY (Kw.Same.tup cb g_r526)));replace ie:=(But.tup cF aZ (But.tup ce aY (Kw.Same.tup cb (Kw.Same.tup cE (But.tup cC bw (Kw.Same.tup cz (But.tup cS bv (Kw.Same.tup cR (But.tup cQ bH (Kw.Same.tup cP (But.tup dj bG (Kw.Same.tup di (But.tup dI bZ (Kw.Same.tup dH (But.tup eI cJ (Kw.Same.tup eG (But.tup eZ dg (Kw.Same.tup eY (But.tup fR eQ ie)))))))))))))))))));replace ig:=(But.tup cF aZ (But.tup ce aY (Kw.Same.tup cb (Kw.Same.tup cE (But.tup cC bw (Kw.Same.tup cz (But.tup cS bv (Kw.Same.tup cR (But.tup cQ bH (Kw.Same.tup cP (But.tup dj bG (Kw.Same.tup di (But.tup dI bZ (Kw.Same.tup dH (But.tup eI cJ (Kw.Same.tup eG (But.tup eZ dg (Kw.Same.tup eY (But.tup fR eQ ig)))))))))))))))))));replace ii:=(But.tup cF aZ (But.tup ce aY (Kw.Same.tup cb (Kw.Same.tup cE (But.tup cC bw (Kw.Same.tup cz (But.tup cS bv (Kw.Same.tup cR (But.tup cQ bH (Kw.Same.tup cP (But.tup dj bG (Kw.Same.tup di (But.tup dI bZ (Kw.Same.tup dH (But.tup eI cJ (Kw.Same.tup eG (But.tup eZ dg (Kw.Same.tup eY (But.tup fR eQ ii)))))))))))))))))))
  have sC:But b H5 kZ:=(fR.trans ((But.of eY).trans (eZ.trans ((But.of eG).trans (eI.trans ((But.of dH).trans (dI.trans ((But.of di).trans (dj.trans ((But.of cP).trans (cQ.trans ((But.of cR).trans (cS.trans ((But.of cz).trans (cC.trans ((But.of cE).trans ((But.of cb).trans (ce.trans cF))))))))))))))))));have hfC:=sC _ _ nfb oU;have alC:Al2 (BqH K 1990 kZ) xs gs:=Z1 bF sC eQ;have pw:(0:Rat) < (Rat.divInt (((1:Int)+fQ)) bt):=Zs (by omega) (by omega)
  have ph:(0:Rat) < (Rat.divInt (((1:Int)+fS)) bt):=Zs (by omega) (by omega)
  refine ⟨_,rfl,_,rfl,_,rfl,_,rfl,_,rfl,_,rfl,_,rfl,by show 7<=sizeLine; decide,?_⟩
  intro fW rN;obtain ⟨lc,q900,bN,e900⟩:=newO rN (.tup [.ref p_r507,.ref p_r510,.ref p_r501,.ref p_r504,.ref p_r518,.ref p_r526,.int (((1:Int)+fV))]);rw [q900];clear q900;obtain ⟨nq,enq⟩:∃ nq:Bq,nq=⟨(Rat.divInt ik bt),(Rat.divInt il bt),(Rat.divInt (((1:Int)+fQ)) bt),(Rat.divInt (((1:Int)+fS)) bt),(Rat.divInt ((im - (4:Int))) dJ),(Rat.divInt ((iq - (4:Int))) dL),some (((1:Int)+fV))⟩:=⟨_,rfl⟩;have w1:1<=(((1:Int)+fV))/\(((1:Int)+fV))<=1000:=⟨by omega,by omega⟩
  have rtb:RtB 42 20 nq:=by
   rw [enq];exact ⟨rt42 (by omega) (by omega) (by omega),rt42 (by omega) (by omega) (by omega),rt42 (by omega) (by omega) (by omega),rt42 (by omega) (by omega) (by omega),rt42 (by omega) (by omega) (by omega),rt42 (by omega) (by omega) (by omega)⟩
  have mq:∃ m:Int,nq.m=some m/\1<=m/\m<=1000:=by
   rw [enq];exact ⟨_,rfl,w1⟩
  have one:BqH K 1990 lc (.ref fW) nq:=by
   have f42:(FB 1990 nq.x/\FB 1990 nq.y/\FB 1990 nq.w/\FB 1990 nq.h/\FB 1990 nq.u/\FB 1990 nq.v):=⟨rtb.1.f42,rtb.2.1.f42,rtb.2.2.1.f42,rtb.2.2.2.1.f42,rtb.2.2.2.2.1.f42,rtb.2.2.2.2.2.f42⟩;rw [enq] at f42 ⊢;exact ⟨fW,_,_,_,_,_,_,rfl,SqT.of e900,⟨Kw.Same.tup bN g_r507,Kw.Same.tup bN g_r510,Kw.Same.tup bN g_r501,Kw.Same.tup bN g_r504,Kw.Same.tup bN g_r518,Kw.Same.tup bN g_r526⟩,f42,λm e=>by cases e; exact w1⟩
  have inv:∀ H',Same lc H'->∃ m:Int,But b H H'/\H' b=some (.lst [.int m])/\H' p1=some (.lst xs)/\Al2 (BqH K 1990 H') xs gs:=λH' sm=>by
   have s7:=bN.trans sm;exact ⟨_,s5.trans (sC.trans (.of s7)),s7 _ _ la,s7 _ _ hfC,zY alC s7⟩
  have le:=Kw.Same.tup bN ie;refine ⟨_,rfl,rp,_,_,_,rfl,rfl,le,rfl,_,rfl,_,rfl,_,_,_,_,rfl,Kw.Same.tup bN g_r507,FB.mono d_r507 (by decide),Kw.Same.tup bN g_r501,FB.mono d_r501 (by decide),λUf og iZ Lq=>?_⟩
  refine ⟨_,_,_,_,rfl,Kw.Same.tup (bN.trans iZ) ig,KU.mono (by decide),Lq,(FB.add d_r507 d_r501).mono (by decide),λUg Lr=>⟨_,rfl,?_⟩⟩
  have oV:=iZ.trans Lr;refine yj (λcA=>?_) (λcA=>?_)
  rotate_left
  ·refine iteF ?_;obtain ⟨m,z1,z2,z3,z4⟩:=inv _ oV;exact ⟨_,_,_,_,_,_,_,_,_,xs,gs,m,rfl,z1,z2,z3,z4,bq⟩
  have lj:=Kw.Same.tup oV le;have rO:=bN.trans oV;refine ⟨_,rfl,rp,_,_,_,rfl,rfl,lj,rfl,_,rfl,_,rfl,_,_,_,_,rfl,Kw.Same.tup rO g_r510,FB.mono d_r510 (by decide),Kw.Same.tup rO g_r504,FB.mono d_r504 (by decide),λUh Ui HI Ls=>?_⟩
  refine ⟨_,_,_,_,rfl,Kw.Same.tup (rO.trans HI) ii,KW.mono (by decide),Ls,(FB.add d_r510 d_r504).mono (by decide),λLu Lv=>⟨_,rfl,?_⟩⟩
  have oW:=oV.trans (HI.trans Lv);refine yj (λcB=>?_) (λcB=>?_)
  rotate_left
  ·obtain ⟨m,z1,z2,z3,z4⟩:=inv _ oW;exact ⟨_,_,_,_,_,_,_,_,_,xs,gs,m,rfl,z1,z2,z3,z4,bq⟩
  obtain ⟨Lw,b74,hb74,fX,al74⟩:=inv _ oW;have l6:=bq.1;refine ⟨_,rfl,_,_,rfl,.inl ⟨_,SqL.of fX,rfl⟩,_,_,rfl,rfl,_,rfl,?_⟩;refine zc (λc6=>?_) (λc6=>?_)
  rotate_left
  ·exact iteF ⟨_,_,_,_,_,_,_,_,_,xs,gs,Lw,rfl,b74,hb74,fX,al74,bq⟩
  refine ⟨_,rfl,p1,rfl,⟨_,SqL.of fX⟩,ZL (K:=K) (xs:=xs) (λi ys H'=>Same Lu H'/\i<=gs.length/\ys=((gs.take i).map λc=>!(hicB nq c 0 && hicB nq c 1)).map V.bl) ⟨Same.refl _,Nat.zero_le _,rfl⟩ (by rw [sizeLine_eq]; omega) (λi ys H' ⟨_,l,e⟩=>by rw [e,List.length_map,List.length_map,List.length_take]; omega) (λi ys H' ⟨g,_⟩=>SqL.of (g _ _ fX)) ?_ ?_⟩
  ·rintro i y ys H' Q' hy ⟨g,li,rfl⟩ kk;obtain ⟨kb,hkb,hbx⟩:=Al2.get al74 hy;have lt:i < gs.length:=(List.getElem?_eq_some_iff.mp hkb).1;refine ⟨_,rfl,_,rfl,_,_,_,kb,1990,rfl,one.same (oW.trans g),hbx.same g,by decide,λUj Lx=>kk _ _ ⟨g.trans Lx,lt,by rw [zd hkb,List.map_append,List.map_append]; rfl⟩⟩
  ·rintro ys H' ⟨g,_,rfl⟩;rw [lxg,List.take_length];intro Ly Lz;obtain ⟨LA,oX,LB,e75⟩:=newO Lz (.lst ((gs.map λc=>!(hicB nq c 0 && hicB nq c 1)).map V.bl))
   rw [oX];clear oX;have HJ:=oW.trans (g.trans LB);obtain ⟨HK,HL,ll,fY,lq⟩:=inv _ HJ;refine ⟨Ly,_,rfl,SqL.of e75,_,rfl,?_⟩;generalize hca:List.all _ id=ca;cases ca with
   |false=>exact iteF ⟨_,_,_,_,_,_,_,_,_,xs,gs,HK,rfl,HL,ll,fY,lq,bq⟩
   |true=>
    refine iteT ⟨_,rfl,.inl ⟨rfl,_,SqL.of fY⟩,_,rfl,p1,_,_,rfl,rfl,fY,by rw [sizeLine_eq]; omega,?_⟩
    obtain ⟨LC,HM,rP,e76⟩:=newB (H:=LA) (p:=p1) (.lst (xs++[.ref fW]));dsimp only;rw [HM];clear HM;have lr:But b H LC:=λa o na ho=>rP a o (zL ho Hj) (HL a o na ho)
    have apt:∀ c∈gs,(!(hicB nq c 0 && hicB nq c 1))=true:=λc hc=>List.all_eq_true.mp hca _ (List.mem_map.mpr ⟨c,hc,rfl⟩)
    have inr:InR R nq:=by
     rw [enq];exact ⟨pw,ph,q_divnn (by omega) (by omega),q_divnn (by omega) (by omega),Rat.not_lt.mp cA,Rat.not_lt.mp cB⟩
    exact ⟨_,_,_,_,_,_,_,_,_,xs++[.ref fW],gs++[nq],HK,rfl,lr,rP _ _ (Ne.symm nfb) ll,e76,Z1 (Al2.snoc lq (one.same HJ)) rP fY,bxs_snoc bq (by omega) inr rtb mq apt⟩
 ·rintro σ1 H5 ⟨r4,r5,r6,r7,r8,r9,d9,kK,rJ,xs,gs,nb,rfl,s5,eQ,oU,bF,bq⟩;refine ⟨_,rfl,by show 0<=sizeLine; decide,?_⟩
  intro LD kA;obtain ⟨LE,HN,iA,e80⟩:=newO kA (.lst []);rw [HN];clear HN;refine ⟨p1,LD,xs,rfl,rfl,SqL.of (iA _ _ oU),SqL.of e80,_,rfl,?_⟩;cases xs with
  |nil=>
   refine iteT ?_;refine ⟨by show 2<=sizeLine; decide,?_⟩
   intro LF LG;obtain ⟨Uk,q81,HP,LH⟩:=newO LG (.tup [.int 1,.int 1]);rw [q81];clear q81;refine ⟨by show 2<=sizeLine; decide,?_⟩
   intro LI LJ;obtain ⟨Ul,q82,HQ,LK⟩:=newO LJ (.tup [.int 1,.int 1]);rw [q82];clear q82;refine ⟨by show 2<=sizeLine; decide,?_⟩
   intro LL LM;obtain ⟨Um,q83,HR,LN⟩:=newO LM (.tup [.int 1,.int 1]);rw [q83];clear q83;refine ⟨by show 2<=sizeLine; decide,?_⟩
   intro LO oS;obtain ⟨Uo,q84,HS,LP⟩:=newO oS (.tup [.int 1,.int 2]);rw [q84];clear q84;refine ⟨by show 2<=sizeLine; decide,?_⟩
   intro LQ LR;obtain ⟨Up,q85,HU,LS⟩:=newO LR (.tup [.int 1,.int 1]);rw [q85];clear q85;refine ⟨by show 2<=sizeLine; decide,?_⟩
   intro LT LU;obtain ⟨Uq,q86,HV,LV⟩:=newO LU (.tup [.int 2,.int 1]);rw [q86];clear q86;refine ⟨by show 7<=sizeLine; decide,?_⟩
   intro oY LW;obtain ⟨Ur,q87,HW,LX⟩:=newO LW (.tup [.ref LF,.ref LI,.ref LL,.ref LO,.ref LQ,.ref LT,.int 3]);rw [q87];clear q87;refine ⟨by show 1<=sizeLine; decide,?_⟩
   intro rQ rR;obtain ⟨HX,HY,s88,LY⟩:=newO rR (.lst [.ref oY]);rw [HY];clear HY;have HZ:=s88;have Ia:=HW.trans HZ;have Ib:=HV.trans Ia;have Ic:=HU.trans Ib;have Id:=HS.trans Ic;have Ie:=HR.trans Id;have Ig:=HQ.trans Ie;have Ih:=iA.trans (HP.trans Ig);have Ii:=(iA.trans (HP.trans (HQ.trans (HR.trans (HS.trans (HU.trans (HV.trans HW)))))));have nlb:rQ≠b:=Ne.symm (zL (Ii _ _ eQ) rR);have n0:H rQ=none:=ZY s5 (ym Ii rR) nlb;have b1:=bxs_one rmq;obtain ⟨_,⟨r0',r1',r2',r3',r4',r5'⟩,_⟩:=b1.2.1 bx0 (by simp)
   have bx:BqH K 1990 HX (.ref oY) bx0:=⟨oY,_,_,_,_,_,_,rfl,SqT.of (HZ _ _ LX),⟨SqT.of (Ig _ _ LH),SqT.of (Ie _ _ LK),SqT.of (Id _ _ LN),FH.fq (FH.lit (Ic _ _ LP) (by decide) (by decide)),SqT.of (Ib _ _ LS),SqT.of (Ia _ _ LV)⟩,⟨r0'.f42,r1'.f42,r2'.f42,r3'.f42,r4'.f42,r5'.f42⟩,λm e=>by cases e; decide⟩
   exact q rQ [.ref oY] [bx0] nb HX (s5.trans (.of Ih)) (Ih _ _ eQ) nlb n0 LY ⟨bx,trivial⟩ (by simp) b1
  |cons x xr=>
   refine iteF ⟨_,rfl,?_⟩;have lx:=Al2.len bF;exact q p1 _ gs nb LE (s5.trans (.of iA)) (iA _ _ eQ) nfb Hj (iA _ _ oU) (zY bF iA) (by rw [<- lx]; simp) bq
theorem rm_p1 {R:Rat × Rat} (h:RmQ R):0 < R.1:=by have:=h.1; grind
theorem rm_p2 {R:Rat × Rat} (h:RmQ R):0 < R.2:=by have:=h.2.1; grind
theorem fq_negq {K:PySem.W.Frag} {H:Hp} {p:Addr} {v:Rat} (h:H p=some (.tup [.int (0 - v.num),.int ((v.den:Nat):Int)])):FQ K H p (-v):=by
 unfold FQ;rw [Rat.neg_num,Rat.neg_den,show -v.num=0 - v.num by omega]
 exact SqT.of h
noncomputable def JN (K:PySem.W.Frag):Sp:=λvs H Q _=>(∃ (r x y l:Addr) (R:Rat × Rat) (xs:List V) (gs:List Bq) (m:Nat),vs=[.ref r,.ref l,.int (m:Int)]/\SqT K H r [.ref x,.ref y]/\FQ K H x R.1/\FQ K H y R.2/\RmQ R/\H l=some (.lst xs)/\Al2 (BqH K 1990 H) xs gs/\1<=gs.length/\BxsQ R gs/\m<=3/\∀ H1:Hp,Same H H1->Q (strV "run") H1)\/
 (∃ (r x y l:Addr) (R:Rat × Rat) (xs:List V) (gs:List Bq) (vm:V),vs=[.ref r,.ref l,vm]/\SqT K H r [.ref x,.ref y]/\FQ K H x R.1/\FQ K H y R.2/\RmQ R/\H l=some (.lst xs)/\Al2 (BqH K 1990 H) xs gs/\1<=gs.length/\gs.length<=6/\WtB gs/\(∀ b∈gs,InR R b)/\((App gs/\Yt K H vm/\∀ H1:Hp,Same H H1->Q (strV "many") H1)\/∃ i j,ZJ gs i j/\∀ (p:Addr) (H1:Hp),Same H H1->SqT K H1 p [strV "overlap",.int (i:Int),.int (j:Int)]->Q (.ref p) H1))\/
 ∃ vr vl vm,vs=[vr,vl,vm]/\NoB K H vr vl/\∀ H1:Hp,Same H H1->Q (strV "box") H1
theorem Zd:FnScope ["room","boxes","most","found","e"] ["room","boxes","most"] (zD (top 84)):={}
theorem ok_law_told (D:Df K mg "_law_told" (top 84) ["room","boxes","most"]) (T:Tx K mg CK C) (fe:Fn P w K mg base 10 "run_in" ["room","boxes","most"] (J2 K C)):Fn P w K mg base 11 "_law_told" ["room","boxes","most"] (JN K):=by
 refine D.ok0 Zd (λvs H Q E h=>?_) (λf cdv A outer s H vs Q E hr h=>?_)
 ·rcases h with ⟨r,x,y,l,R,xs,gs,m,rfl,_⟩|⟨r,x,y,l,R,xs,gs,vm,rfl,_⟩|⟨vr,vl,vm,rfl,_⟩
  ·rfl
  ·rfl
  ·rfl
 refine ⟨_,(zE (ps_tryG plain_nox rfl (λE i4 E0 hp=>(zF (zO (i:=3) Zd.nd rfl (Or.inl rfl) (zJ fe (by decide) hr (by rfl) hp (zA (pv 0) (zA (pv 1) (zA (pv 2) zB))))))) (ph_as plain_nox rfl Zd.nd (j:=4) rfl rfl (by rfl) T.c_KnockError T.g_KnockError (λx=>(zE (ze (y9 (yH (zh (zS (jK (K:=K) rfl) (by rfl) T.b_isinstance PyProof.Rows.Boot.«isinstance» (zA (pv 4) (zA (Zr (by rfl) T.b_ValueError PyProof.Rows.Boot.«ValueError») zB))) (λ_=>rfl))) (yO (zh (zS (call_isinstCT (K:=K) rfl) (by rfl) T.b_isinstance PyProof.Rows.Boot.«isinstance» (zA (pv 4) (zA (zP (zA (YC (by rfl) T.c_Crowd) (zA (YC (by rfl) T.c_NoBody) (zA (YC (by rfl) T.c_NoMoment) (zA (YC (by rfl) T.c_NoWorld) zB))))) zB))) (λ_=>rfl)))).pt (zF (zM zx)) zT)
   (zE (ze (zh (zS (jK (K:=K) rfl) (by rfl) T.b_isinstance PyProof.Rows.Boot.«isinstance» (zA (pv 4) (zA (YC (by rfl) T.c_Overlap) zB))) (λ_=>rfl)) (zF (zM (zP (zA zx (zA (pe_xcfK (K:=K) rfl (pv 4)) (zA (pe_xcfK (K:=K) rfl (pv 4)) zB)))))) zT)
   (zE (ze (zh (zS (jK (K:=K) rfl) (by rfl) T.b_isinstance PyProof.Rows.Boot.«isinstance» (zA (pv 4) (zA (YC (by rfl) T.c_NoBox) zB))) (λ_=>rfl)) (zF (zM zx)) zT)
   (zF (zM (zH (ixL (K:=K) rfl) (zv (zA zx (zA zx zB))) (yX call_int1 (by rfl) T.b_int PyProof.Rows.Boot.«int» (zA (zS (jK (K:=K) rfl) (by rfl) T.b_isinstance PyProof.Rows.Boot.«isinstance» (zA (pv 4) (zA (YC (by rfl) T.c_TooMany) zB))) zB)) (λ_ _=>rfl)))))))) ph_nil))
   (zF (zM (zH ix_list (zv (zA zx (zA zx zB))) (yX call_int1 (by rfl) T.b_int PyProof.Rows.Boot.«int» (zA (zS (jF (K:=K) rfl) (by rfl) T.b_isinstance PyProof.Rows.Boot.«isinstance» (zA (pv 3) (zA (Zr (by rfl) T.b_tuple PyProof.Rows.Boot.«tuple») zB))) zB)) (λ_ _=>rfl))))),?_⟩
 try dsimp only [cxK,cxK0]
 rcases h with ⟨r,x,y,l,R,xs,gs,m,rfl,hr0,gx,gy,rmq,hl,al,l1,bq,m3,k⟩|⟨r,x,y,l,R,xs,gs,vm,rfl,hr0,gx,gy,rmq,hl,al,l1,l6,wt,inr,⟨app,nm,k⟩|⟨i,j,fo,k⟩⟩|⟨vr,vl,vm,rfl,nb,k⟩
 ·have gd:=bq.gd rmq l1;refine ⟨_,rfl,_,rfl,_,rfl,.inl ⟨r,x,y,l,R,xs,gs,m,20,rfl,hr0,gx,gy,rmq.2.2.1.f42,rmq.2.2.2.f42,hl,al,gd,bq.cm rmq,by omega,by omega,λt wd ms es last H1 s1 rq told=>?_⟩⟩
  obtain ⟨rr,rb,rn,zs,ws,t1,_⟩:=told;refine ⟨by show 2<=sizeLine; decide,?_⟩
  intro p2 n2;obtain ⟨H2,q2,s2,e2⟩:=newO n2 (.lst [.str (Str.ofString "other"),.str (Str.ofString "run")]);rw [q2];clear q2;exact ⟨_,rfl,_,_,true,rfl,.inl ⟨_,rfl⟩,.inr ⟨_,_,rfl,Kw.Same.tup s2 t1,yG⟩,.inr ⟨_,rfl,p2,_,_,_,rfl,rfl,SqL.of e2,rfl,k H2 (s1.trans s2)⟩⟩
 ·refine ⟨_,rfl,_,rfl,_,rfl,.inr (.inl ⟨r,x,y,l,R,xs,gs,vm,rfl,hr0,gx,gy,rmq.2.2.1.f42,rmq.2.2.2.f42,hl,al,l1,l6,wt,inr,rm_p1 rmq,rm_p2 rmq,.inl ⟨app,nm,λH1 s1=>⟨C 1,rfl,.inl ⟨T.s_TooMany_KnockError,λe ne=>?_⟩⟩⟩⟩)⟩
  obtain ⟨H2,q2,s2,e2⟩:=newO ne (Xc e (C 1) none);rw [q2];clear q2;refine ⟨_,rfl,e,C 1,none,_,_,rfl,.inl ⟨_,rfl⟩,e2,T.R.q 1 (by decide),T.R.v 1 (by decide),_,rfl,iteF ?_⟩
  refine ⟨_,rfl,by show 4<=sizeLine; decide,?_⟩
  intro p3 n3;obtain ⟨H3,q3,s3,e3⟩:=newO n3 (.tup [.ref (C 6),.ref (C 2),.ref (C 3),.ref (C 5)]);rw [q3];clear q3;have dM:=s3 _ _ e2;refine ⟨e,C 1,none,p3,[C 6,C 2,C 3,C 5],false,rfl,dM,SqT.of e3,T.R.q 1 (by decide),T.a_TooMany,_,rfl,iteF ?_⟩
  refine ⟨_,rfl,e,C 1,none,_,false,rfl,.inr ⟨_,rfl⟩,dM,T.R.q 1 (by decide),T.R.mm 1 4 (by decide) (by decide),_,rfl,iteF ?_⟩
  refine ⟨_,rfl,e,C 1,none,_,false,rfl,.inr ⟨_,rfl⟩,dM,T.R.q 1 (by decide),T.R.mm 1 0 (by decide) (by decide),_,rfl,iteF ?_⟩
  refine ⟨by show 2<=sizeLine; decide,?_⟩
  intro p4 n4;obtain ⟨H4,q4,s4,e4⟩:=newO n4 (.lst [.str (Str.ofString "other"),.str (Str.ofString "many")]);rw [q4];clear q4;exact ⟨_,rfl,e,C 1,none,_,true,rfl,.inr ⟨_,rfl⟩,s4 _ _ dM,T.R.q 1 (by decide),T.R.mm 1 1 (by decide) (by decide),.inr ⟨_,rfl,p4,_,_,_,rfl,rfl,SqL.of e4,rfl,k H4 (s1.trans (s2.trans (s3.trans s4)))⟩⟩
 ·refine ⟨_,rfl,_,rfl,_,rfl,.inr (.inl ⟨r,x,y,l,R,xs,gs,vm,rfl,hr0,gx,gy,rmq.2.2.1.f42,rmq.2.2.2.f42,hl,al,l1,l6,wt,inr,rm_p1 rmq,rm_p2 rmq,.inr ⟨i,j,fo,λd H1 s1 hd=>⟨C 4,rfl,.inl ⟨T.s_Overlap_KnockError,λe ne=>?_⟩⟩⟩⟩)⟩
  obtain ⟨H2,q2,s2,e2⟩:=newO ne (Xc e (C 4) (some d));rw [q2];clear q2;refine ⟨_,rfl,e,C 4,(some d),_,_,rfl,.inl ⟨_,rfl⟩,e2,T.R.q 4 (by decide),T.R.v 4 (by decide),_,rfl,iteF ?_⟩
  refine ⟨_,rfl,by show 4<=sizeLine; decide,?_⟩
  intro p3 n3;obtain ⟨H3,q3,s3,e3⟩:=newO n3 (.tup [.ref (C 6),.ref (C 2),.ref (C 3),.ref (C 5)]);rw [q3];clear q3;have dM:=s3 _ _ e2;refine ⟨e,C 4,(some d),p3,[C 6,C 2,C 3,C 5],false,rfl,dM,SqT.of e3,T.R.q 4 (by decide),T.a_Overlap,_,rfl,iteF ?_⟩
  refine ⟨_,rfl,e,C 4,(some d),_,true,rfl,.inr ⟨_,rfl⟩,dM,T.R.q 4 (by decide),T.R.mm 4 4 (by decide) (by decide),_,rfl,iteT ?_⟩
  have kh:=s3 _ _ (s2 _ _ hd);refine ⟨_,rfl,e,C 4,d,_,_,rfl,dM,kh,T.R.q 4 (by decide),T.R.c 4 (by decide) (by decide),T.n_Overlap_one,rfl,_,rfl,e,C 4,d,_,_,rfl,dM,kh,T.R.q 4 (by decide),T.R.c 4 (by decide) (by decide),T.n_Overlap_other,rfl,by show 3<=sizeLine; decide,?_⟩
  intro p4 n4;obtain ⟨H4,q4,s4,e4⟩:=newO n4 (.tup [.str (Str.ofString "overlap"),.int (i:Int),.int (j:Int)]);rw [q4];clear q4;exact k p4 H4 (s1.trans (s2.trans (s3.trans s4))) (SqT.of e4)
 ·refine ⟨_,rfl,_,rfl,_,rfl,.inr (.inr ⟨vr,vl,vm,rfl,nb,λH1 s1=>⟨C 0,rfl,.inl ⟨T.s_NoBox_KnockError,λe ne=>?_⟩⟩⟩)⟩
  obtain ⟨H2,q2,s2,e2⟩:=newO ne (Xc e (C 0) none);rw [q2];clear q2;refine ⟨_,rfl,e,C 0,none,_,_,rfl,.inl ⟨_,rfl⟩,e2,T.R.q 0 (by decide),T.R.v 0 (by decide),_,rfl,iteF ?_⟩
  refine ⟨_,rfl,by show 4<=sizeLine; decide,?_⟩
  intro p3 n3;obtain ⟨H3,q3,s3,e3⟩:=newO n3 (.tup [.ref (C 6),.ref (C 2),.ref (C 3),.ref (C 5)]);rw [q3];clear q3;have dM:=s3 _ _ e2;refine ⟨e,C 0,none,p3,[C 6,C 2,C 3,C 5],false,rfl,dM,SqT.of e3,T.R.q 0 (by decide),T.a_NoBox,_,rfl,iteF ?_⟩
  refine ⟨_,rfl,e,C 0,none,_,false,rfl,.inr ⟨_,rfl⟩,dM,T.R.q 0 (by decide),T.R.mm 0 4 (by decide) (by decide),_,rfl,iteF ?_⟩
  refine ⟨_,rfl,e,C 0,none,_,true,rfl,.inr ⟨_,rfl⟩,dM,T.R.q 0 (by decide),T.R.mm 0 0 (by decide) (by decide),_,rfl,iteT ?_⟩
  exact k H3 (s1.trans (s2.trans s3))
noncomputable def jf (K:PySem.W.Frag):Sp:=λvs H Q _=>∃ (l:Addr) (xs:List V) (gs:List Bq) (i j:Nat),vs=[.ref l]/\H l=some (.lst xs)/\Al2 (BqH K 1990 H) xs gs/\gs.length<=6/\ZJ gs i j/\∀ (p:Addr) (H1:Hp),Same H H1->SqT K H1 p [strV "overlap",.int (i:Int),.int (j:Int)]->Q (.ref p) H1
theorem y3:FnScope ["boxes","k","j"] ["boxes"] (zD (top 85)):={}
theorem ok_law_first_over (D:Df K mg "_law_first_over" (top 85) ["boxes"]) (T:Tx K mg CK C) (aW:Fn P w K mg base 3 "_law_apart" ["one","other"] (j0 K)):Fn P w K mg base 4 "_law_first_over" ["boxes"] (jf K):=by
 refine D.ok0 y3 (λvs H Q E h=>?_) (λf cdv A outer s H vs Q E hr h=>?_)
 ·obtain ⟨l,xs,gs,i,j,rfl,_⟩:=h;rfl
 obtain ⟨l,xs,gs,fi,fj,rfl,hl,al,l6,fo,kk⟩:=h
 refine ⟨_,(zE (yA PassesOwn.never rfl (yn (by rfl) T.b_range (zA (zS zo (by rfl) T.b_len PyProof.Rows.Boot.«len» (zA (pv 0) zB)) zB)) (zj (i:=1) y3.nd rfl (Or.inl rfl)) (zF (yA PassesOwn.never rfl (Yy (by rfl) T.b_range (zA (zN zm (pv 1) zC) (zA (zS zo (by rfl) T.b_len PyProof.Rows.Boot.«len» (zA (pv 0) zB)) zB))) (zj (i:=2) y3.nd rfl (Or.inl rfl)) (zF (ze (yH (zh (zJ aW (by decide) hr (by rfl) zG (zA (zH ix_list (pv 0) (pv 1) (λ_ _=>rfl)) (zA (zH ix_list (pv 0) (pv 2) (λ_ _=>rfl)) zB))) (λ_=>rfl))) (zF (zM (zP (zA zx (zA (pv 1) (zA (pv 2) zB)))))) zT)))))
   (zF (zM yf))),?_⟩
 try dsimp only [cxK,cxK0]
 have hz:=Al2.len al;obtain ⟨o1,o2,o3,o4⟩:=fo;refine ⟨_,rfl,_,_,rfl,.inl ⟨_,SqL.of hl,rfl⟩,_,rfl,by omega,by omega,z7 (n:=((xs.length:Nat):Int).toNat) (λi σ1 H'=>∃ (u2 u3:Option V),σ1=[some (.ref l),u2,u3]/\Same H H'/\i<=fi) ⟨_,_,rfl,Same.refl _,Nat.zero_le _⟩ ?_ ?_⟩
 ·rintro i σ1 H4 hi ⟨u2,u3,rfl,s4,ilf⟩;have kH:=s4 _ _ hl;obtain ⟨vi,hvi⟩:∃ y,xs[i]?=some y:=⟨_,List.getElem?_eq_getElem (by omega)⟩
  refine ⟨_,rfl,_,_,rfl,rfl,_,rfl,_,_,rfl,.inl ⟨_,SqL.of kH,rfl⟩,_,_,rfl,⟨by omega,by omega,by omega,by omega⟩,z7 (lo:=0+(i:Int)+1) (n:=(((xs.length:Nat):Int) - (0+(i:Int)+1)).toNat) (λj σ1 H'=>∃ (u3:Option V),σ1=[some (.ref l),some (.int (0+(i:Int))),u3]/\Same H H'/\(i=fi->i+1+j<=fj)) ⟨_,rfl,s4,λz=>by omega⟩ ?_ ?_⟩
  ·rintro j σ1 H5 hj ⟨u3,rfl,s5,jlf⟩;have hij:i+1+j < xs.length:=by omega
   obtain ⟨vj,hvj⟩:∃ y,xs[i+1+j]?=some y:=⟨_,List.getElem?_eq_getElem hij⟩;have gu:=s5 _ _ hl;have bF:=zY al s5;obtain ⟨bi,hbi,qi⟩:=Al2.get bF hvi;obtain ⟨bj,hbj,qj⟩:=Al2.get bF hvj;have atj:atI xs (0+(i:Int)+1+(j:Int))=some vj:=by
    have z:=zi hvj;rwa [show ((i+1+j:Nat):Int)=0+(i:Int)+1+(j:Int) by omega] at z
   refine ⟨_,rfl,_,rfl,l,_,_,_,rfl,rfl,SqL.of gu,atI_z hvi,_,rfl,_,rfl,l,_,_,_,rfl,rfl,SqL.of gu,atj,vi,vj,bi,bj,1990,rfl,qi,qj,by decide,λH6 s6=>⟨_,rfl,?_⟩⟩
   by_cases c:i=fi/\i+1+j=fj
   ·obtain ⟨c1,c2⟩:=c;have yes:=o3;rw [<- c1,<- c2,ye hbi,ye hbj] at yes;rw [yes];refine iteT ?_;refine ⟨_,rfl,_,rfl,by show 3<=sizeLine; decide,?_⟩
    intro p7 n7;obtain ⟨H7,q7,s7,e7⟩:=newO n7 (.tup [.str (Str.ofString "overlap"),.int (0+(i:Int)),.int (0+(i:Int)+1+(j:Int))]);rw [q7];clear q7;refine kk p7 H7 (s5.trans (s6.trans s7)) ?_;rw [show ((fi:Nat):Int)=0+(i:Int) by omega,show ((fj:Nat):Int)=0+(i:Int)+1+(j:Int) by omega]
    exact SqT.of e7
   ·have no:=o4 i (i+1+j) (by omega) (by omega) (by
     rcases Nat.lt_or_ge i fi with z|z
     ·exact .inl z
     ·have e:i=fi:=by omega
      have:=jlf e
      exact .inr ⟨e,by omega⟩)
    rw [ye hbi,ye hbj] at no;rw [no];exact iteF ⟨_,rfl,s5.trans s6,λe=>by have:=jlf e; omega⟩
  ·rintro σ1 H5 ⟨u3,rfl,s5,jlf⟩;refine ⟨_,_,rfl,s5,?_⟩;rcases Nat.lt_or_ge i fi with z|z
   ·exact z
   ·have e:i=fi:=by omega
    have:=jlf e;omega
 ·rintro σ1 H4 ⟨u2,u3,rfl,s4,ilf⟩;omega
noncomputable def Z7 (K:PySem.W.Frag):Sp:=λvs H Q _=>∃ (b rp r0 r1:Addr) (n:Int) (z:V) (g:Bq) (R:Rat × Rat),vs=[.ref b,.ref rp,z]/\H b=some (.lst [.int n])/\SqT K H rp [.ref r0,.ref r1]/\FQ K H r0 R.1/\FQ K H r1 R.2/\RmQ R/\BqH K 1990 H z g/\RtB 42 20 g/\∀ (v:V) (g':Bq) (H':Hp) (n':Int),But b H H'->H' b=some (.lst [.int n'])->BqH K 1990 H' v g'->g'.w=g.w->g'.h=g.h->g'.m=g.m->inwB R g'=false->Q v H'
theorem jt:FnScope ["box","room","one","way","step"] ["box","room","one"] (zD (top 86)):={}
theorem ok_law_beyond (D:Df K mg "_law_beyond" (top 86) ["box","room","one"]) (T:Tx K mg CK C) (aa:Fn P w K mg base 1 "_law_take" ["box","many"] YD) (ag:Fn P w K mg base 1 "_law_fit" ["top","bottom"] (jB K)) (aq:Fn P w K mg base 2 "_law_plus" ["one","other"] (ja K)) (bI:Fn P w K mg base 2 "_law_minus" ["one","other"] (YX K)):Fn P w K mg base 3 "_law_beyond" ["box","room","one"] (Z7 K):=by
 refine D.ok0 jt (λvs H Q E h=>?_) (λf cdv A outer s H vs Q E hr h=>?_)
 ·obtain ⟨b,rp,r0,r1,n,z,g,R,rfl,_⟩:=h;rfl
 obtain ⟨b,rp,r0,r1,n,z,g,R,rfl,hb,hrm,fO,fP,rmq,hz,rt,k⟩:=h
 refine ⟨_,(zE (zO (i:=3) jt.nd rfl (Or.inl rfl) (zJ aa (by decide) hr (by rfl) zG (zA (pv 0) (zA zC zB))))
   (zE (zO (i:=4) jt.nd rfl (Or.inl rfl) (zJ ag (by decide) hr (by rfl) zG (zA (zN zm zC (zJ aa (by decide) hr (by rfl) zG (zA (pv 0) (zA zC zB)))) (zA (zN zm zC (zJ aa (by decide) hr (by rfl) zG (zA (pv 0) (zA zC zB)))) zB))))
   (zE (ze (zR ji (pv 3) zC (zU _)) (zF (zM (zN (Za (K:=K) rfl) (zP (zA (zP (zA (zN jp zC (zH ix_tup (pv 4) zC (λ_ _=>rfl))) (zA (zH ix_tup (pv 4) zC (λ_ _=>rfl)) zB))) zB)) (yU (Zv (K:=K) rfl) (pv 2) (yq zC) yv)))) zT)
   (zE (ze (zR ji (pv 3) zC (zU _)) (zF (zM (zN (Za (K:=K) rfl) (zP (zA (zH ix_tup (pv 2) zC (λ_ _=>rfl)) (zA (zP (zA (zN jp zC (zH ix_tup (pv 4) zC (λ_ _=>rfl))) (zA (zH ix_tup (pv 4) zC (λ_ _=>rfl)) zB))) zB))) (yU (Zv (K:=K) rfl) (pv 2) (yq zC) yv)))) zT)
   (zE (ze (zR ji (pv 3) zC (zU _)) (zF (zM (zN (Za (K:=K) rfl) (zP (zA (zJ aq (by decide) hr (by rfl) zG (zA (zJ bI (by decide) hr (by rfl) zG (zA (zH ix_tup (pv 1) zC (λ_ _=>rfl)) (zA (zH ix_tup (pv 2) zC (λ_ _=>rfl)) zB))) (zA (pv 4) zB))) zB)) (yU (Zv (K:=K) rfl) (pv 2) (yq zC) yv)))) zT)
   (zF (zM (zN (Za (K:=K) rfl) (zP (zA (zH ix_tup (pv 2) zC (λ_ _=>rfl)) (zA (zJ aq (by decide) hr (by rfl) zG (zA (zJ bI (by decide) hr (by rfl) zG (zA (zH ix_tup (pv 1) zC (λ_ _=>rfl)) (zA (zH ix_tup (pv 2) zC (λ_ _=>rfl)) zB))) (zA (pv 4) zB))) zB))) (yU (Zv (K:=K) rfl) (pv 2) (yq zC) yv))))))))),?_⟩
 try dsimp only [cxK,cxK0]
 have cI:∀ i:Int,-(2 ^ 64) < i->i < 2 ^ 64->Bd 9000 i:=λi h1 h2=>(Bd.small h1 h2).mono (by decide)
 refine ⟨_,rfl,b,4,_,rfl,hb,by decide,cI _ (by decide) (by decide),λd1 n1 H1 LZ L3 s1 dw=>?_⟩
 refine ⟨_,rfl,b,9,_,rfl,dw,by decide,cI _ (by decide) (by decide),λd2 n2 H2 Us Ut s2 dQ=>?_⟩
 refine ⟨_,_,rfl,rfl,_,rfl,b,9,_,rfl,dQ,by decide,cI _ (by decide) (by decide),λd3 n3 H3 L4 L5 s3 kJ=>?_⟩
 refine ⟨_,_,rfl,rfl,_,_,rfl,cI _ (by omega) (by omega),by omega,λr4 H4 s4 g4=>?_⟩
 have B4:But b H H4:=s1.trans (s2.trans (s3.trans (But.of s4)));have dY:=s4 _ _ kJ;have q0:(0:Rat) < Rat.divInt (1+d2) (1+d3):=Zs (by omega) (by omega)
 have fq:FB 64 (Rat.divInt (1+d2) (1+d3)):=FB.fit (by omega) (Bd.small (by omega) (by omega)) (Bd.small (by omega) (by omega))
 generalize Rat.divInt (1+d2) (1+d3)=q at g4 q0 fq;have dN:=B4.tup hb hrm;have eJ:=B4.tup hb fO;have eK:=B4.tup hb fP;obtain ⟨pz,a0,a1,a2,a3,a4,a5,rfl,hp,⟨g0,g1,g2,g3,g5,g6⟩,⟨f0,f1,f2,f3,f5,f6⟩,wt⟩:=hz.buts (Buts.one B4 (List.mem_singleton.mpr rfl):Buts [b] H H4) (NoT.lst hb NoT.nil);have fin:∀ (p:Addr) (b0 b1:Addr) (x y:Rat) (H9:Hp),Same H4 H9->H9 p=some (.tup [.ref b0,.ref b1,.ref a2,.ref a3,.ref a4,.ref a5,wV g.m])->FQ K H9 b0 x->FQ K H9 b1 y->FB 1990 x->FB 1990 y->inwB R ⟨x,y,g.w,g.h,g.u,g.v,g.m⟩=false->Q (.ref p) H9:=λp b0 b1 x y H9 s9 e9 gx gy fx fy no=>
  k (.ref p) ⟨x,y,g.w,g.h,g.u,g.v,g.m⟩ H9 n3 (B4.trans (But.of s9)) (s9 _ _ dY) ⟨p,b0,b1,a2,a3,a4,a5,rfl,SqT.of e9,⟨gx,gy,Kw.Same.tup s9 g2,Kw.Same.tup s9 g3,Kw.Same.tup s9 g5,Kw.Same.tup s9 g6⟩,⟨fx,fy,f2,f3,f5,f6⟩,wt⟩ rfl rfl rfl no
 have oZ:SqT K H4 r4 [.int q.num,.int ((q.den:Nat):Int)]:=g4;have fn:FB 1990 (-q):=(FB.neg fq).mono (by decide)
 have L6:FB 1990 (R.1 - g.w+q):=(((rmq.2.2.1.sub rt.2.2.1).fb (by decide) (by decide)).add fq).mono (by decide)
 have L7:FB 1990 (R.2 - g.h+q):=(((rmq.2.2.2.sub rt.2.2.2.1).fb (by decide) (by decide)).add fq).mono (by decide)
 refine ⟨_,rfl,rfl,_,rfl,?_⟩;refine yh (λc=>?_) (λc=>?_)
 ·refine ⟨_,rfl,r4,_,_,_,rfl,rfl,oZ,rfl,_,_,rfl,rfl,_,rfl,r4,_,_,_,rfl,rfl,oZ,rfl,by show 2<=sizeLine; decide,?_⟩
  intro p5 n5;obtain ⟨H5,q5,s5,e5⟩:=newO n5 (.tup [.int (0 - q.num),.int ((q.den:Nat):Int)]);rw [q5];clear q5;refine ⟨by show 1<=sizeLine; decide,?_⟩
  intro p6 n6;obtain ⟨H6,q6,s6,e6⟩:=newO n6 (.tup [.ref p5]);rw [q6];clear q6;have cU:=s5.trans s6;have hU:=Kw.Same.tup cU hp;refine ⟨_,rfl,_,rfl,pz,_,rfl,hU,Y3 (n:=7) (by decide) (by decide),?_⟩
  intro p7 n7;obtain ⟨H7,q7,s7,e7⟩:=newO n7 (.tup (cutV [.ref a0,.ref a1,.ref a2,.ref a3,.ref a4,.ref a5,wV g.m] (some 1) none));rw [q7];clear q7;refine ⟨p6,p7,_,_,rfl,rfl,SqT.of (s7 _ _ e6),SqT.of e7,by show 7<=sizeLine; decide,λz=>(nomatch z),λ_ z=>(nomatch z),λ_ _=>?_⟩
  intro p8 n8;obtain ⟨H8,q8,s8,e8⟩:=newO n8 (.tup ([.ref p5]++cutV [.ref a0,.ref a1,.ref a2,.ref a3,.ref a4,.ref a5,wV g.m] (some 1) none));rw [q8];clear q8;have cK:=cU.trans (s7.trans s8);exact fin p8 p5 a1 (-q) g.y H8 cK e8 (fq_negq ((s6.trans (s7.trans s8)) _ _ e5)) (Kw.Same.tup cK g1) fn f1 (inw_x (by show -q < 0; grind))
 refine ⟨_,rfl,rfl,_,rfl,?_⟩;refine yh (λc=>?_) (λc=>?_)
 ·refine ⟨_,rfl,pz,_,_,_,rfl,rfl,hp,rfl,_,rfl,r4,_,_,_,rfl,rfl,oZ,rfl,_,_,rfl,rfl,_,rfl,r4,_,_,_,rfl,rfl,oZ,rfl,by show 2<=sizeLine; decide,?_⟩
  intro p5 n5;obtain ⟨H5,q5,s5,e5⟩:=newO n5 (.tup [.int (0 - q.num),.int ((q.den:Nat):Int)]);rw [q5];clear q5;refine ⟨by show 2<=sizeLine; decide,?_⟩
  intro p6 n6;obtain ⟨H6,q6,s6,e6⟩:=newO n6 (.tup [.ref a0,.ref p5]);rw [q6];clear q6;have cU:=s5.trans s6;have hU:=Kw.Same.tup cU hp;refine ⟨_,rfl,_,rfl,pz,_,rfl,hU,Y3 (n:=7) (by decide) (by decide),?_⟩
  intro p7 n7;obtain ⟨H7,q7,s7,e7⟩:=newO n7 (.tup (cutV [.ref a0,.ref a1,.ref a2,.ref a3,.ref a4,.ref a5,wV g.m] (some 2) none));rw [q7];clear q7;refine ⟨p6,p7,_,_,rfl,rfl,SqT.of (s7 _ _ e6),SqT.of e7,by show 7<=sizeLine; decide,λz=>(nomatch z),λ_ z=>(nomatch z),λ_ _=>?_⟩
  intro p8 n8;obtain ⟨H8,q8,s8,e8⟩:=newO n8 (.tup ([.ref a0,.ref p5]++cutV [.ref a0,.ref a1,.ref a2,.ref a3,.ref a4,.ref a5,wV g.m] (some 2) none));rw [q8];clear q8;have cK:=cU.trans (s7.trans s8);exact fin p8 a0 p5 g.x (-q) H8 cK e8 (Kw.Same.tup cK g0) (fq_negq ((s6.trans (s7.trans s8)) _ _ e5)) f0 fn (inw_y (by show -q < 0; grind))
 refine ⟨_,rfl,rfl,_,rfl,?_⟩;refine yh (λc=>?_) (λc=>?_)
 ·refine ⟨_,rfl,rp,_,_,_,rfl,rfl,dN,rfl,_,rfl,pz,_,_,_,rfl,rfl,hp,rfl,_,_,_,_,rfl,eJ,rmq.2.2.1.f42.mono (by decide),g2,f2.mono (by decide),λr5 H5 s5 e5=>?_⟩
  refine ⟨_,rfl,_,_,_,_,rfl,e5,(rmq.2.2.1.f42.sub f2).mono (by decide),Kw.Same.tup s5 g4,fq.mono (by decide),λr6 H6 s6 e6=>?_⟩
  refine ⟨by show 1<=sizeLine; decide,?_⟩
  intro p7 n7;obtain ⟨H7,q7,s7,e7⟩:=newO n7 (.tup [.ref r6]);rw [q7];clear q7;have eT:=s5.trans (s6.trans s7);have dW:=Kw.Same.tup eT hp;refine ⟨_,rfl,_,rfl,pz,_,rfl,dW,Y3 (n:=7) (by decide) (by decide),?_⟩
  intro p8 n8;obtain ⟨H8,q8,s8,e8⟩:=newO n8 (.tup (cutV [.ref a0,.ref a1,.ref a2,.ref a3,.ref a4,.ref a5,wV g.m] (some 1) none));rw [q8];clear q8;refine ⟨p7,p8,_,_,rfl,rfl,SqT.of (s8 _ _ e7),SqT.of e8,by show 7<=sizeLine; decide,λz=>(nomatch z),λ_ z=>(nomatch z),λ_ _=>?_⟩
  intro p9 n9;obtain ⟨H9,q9,s9,e9⟩:=newO n9 (.tup ([.ref r6]++cutV [.ref a0,.ref a1,.ref a2,.ref a3,.ref a4,.ref a5,wV g.m] (some 1) none));rw [q9];clear q9;have lu:=eT.trans (s8.trans s9);exact fin p9 r6 a1 (R.1 - g.w+q) g.y H9 lu e9 (Kw.Same.tup (s7.trans (s8.trans s9)) e6) (Kw.Same.tup lu g1) L6 f1 (inw_fx (by show R.1 < R.1 - g.w+q+g.w; grind))
 ·refine ⟨_,rfl,pz,_,_,_,rfl,rfl,hp,rfl,_,rfl,rp,_,_,_,rfl,rfl,dN,rfl,_,rfl,pz,_,_,_,rfl,rfl,hp,rfl,_,_,_,_,rfl,eK,rmq.2.2.2.f42.mono (by decide),g3,f3.mono (by decide),λr5 H5 s5 e5=>?_⟩
  refine ⟨_,rfl,_,_,_,_,rfl,e5,(rmq.2.2.2.f42.sub f3).mono (by decide),Kw.Same.tup s5 g4,fq.mono (by decide),λr6 H6 s6 e6=>?_⟩
  refine ⟨by show 2<=sizeLine; decide,?_⟩
  intro p7 n7;obtain ⟨H7,q7,s7,e7⟩:=newO n7 (.tup [.ref a0,.ref r6]);rw [q7];clear q7;have eT:=s5.trans (s6.trans s7);have dW:=Kw.Same.tup eT hp;refine ⟨_,rfl,_,rfl,pz,_,rfl,dW,Y3 (n:=7) (by decide) (by decide),?_⟩
  intro p8 n8;obtain ⟨H8,q8,s8,e8⟩:=newO n8 (.tup (cutV [.ref a0,.ref a1,.ref a2,.ref a3,.ref a4,.ref a5,wV g.m] (some 2) none));rw [q8];clear q8;refine ⟨p7,p8,_,_,rfl,rfl,SqT.of (s8 _ _ e7),SqT.of e8,by show 7<=sizeLine; decide,λz=>(nomatch z),λ_ z=>(nomatch z),λ_ _=>?_⟩
  intro p9 n9;obtain ⟨H9,q9,s9,e9⟩:=newO n9 (.tup ([.ref a0,.ref r6]++cutV [.ref a0,.ref a1,.ref a2,.ref a3,.ref a4,.ref a5,wV g.m] (some 2) none));rw [q9];clear q9;have lu:=eT.trans (s8.trans s9);exact fin p9 a0 r6 g.x (R.2 - g.h+q) H9 lu e9 (Kw.Same.tup lu g0) (Kw.Same.tup (s7.trans (s8.trans s9)) e6) f0 L7 (inw_fy (by show R.2 < R.2 - g.h+q+g.h; grind))
noncomputable def spOdd:Sp:=λvs H Q _=>∃ b n,vs=[.ref b]/\H b=some (.lst [.int n])/\∀ v c H' n',But b H H'->H' b=some (.lst [.int n'])->Odd H' v c->(∀ p,v=.ref p->p≠b)->Q v H'
theorem sc_law_odd:FnScope ["box"] ["box"] (zD (top 80)):={}
theorem ok_law_odd (D:Df K mg "_law_odd" (top 80) ["box"]) (T:Tx K mg CK C) (aa:Fn P w K mg base 1 "_law_take" ["box","many"] YD):Fn P w K mg base 2 "_law_odd" ["box"] spOdd:=by
 refine D.ok0 sc_law_odd (λvs H Q E h=>?_) (λf cdv A outer s H vs Q E hr h=>?_)
 ·obtain ⟨b,n,rfl,_⟩:=h;rfl
 obtain ⟨b,n,rfl,hb,q⟩:=h;refine ⟨_,@odd_term _ _ _ _ _ _ _ _ _ _ _ _ _ _ _ _ _ _ _ _ _ _ _ _ _ _ _ _ _ (@pe_d1 _ _ _ _ _ _ zx zC) (λ_=>rfl) (zJ aa (by decide) hr (by rfl) zG (zA (pv 0) (zA zC zB))) (λ_ _=>rfl),?_⟩
 refine ⟨by show 2<=sizeLine; decide,?_⟩
 intro p5 n5;obtain ⟨H5,q5,s5,e5⟩:=newO n5 (.tup [.int 1,.int 1]);rw [q5];clear q5;refine ⟨by show 1<=sizeLine; decide,?_⟩
 intro p6 n6;obtain ⟨H6,q6,s6,e6⟩:=newO n6 (.lst [.int 1]);rw [q6];clear q6;intro p7 n7;obtain ⟨H7,q7,s7,e7⟩:=newO n7 (.dK [(.inr "a",.int 1)]);rw [q7];clear q7;refine ⟨by show 0<=sizeLine; decide,?_⟩
 intro p8 n8;obtain ⟨H8,q8,s8,e8⟩:=newO n8 (.tup []);rw [q8];clear q8;refine ⟨by show 9<=sizeLine; decide,?_⟩
 intro p9 n9;obtain ⟨H9,q9,s9,e9⟩:=newO n9 (.lst [.non,.bl true,.bl false,.str "1",.str "",.ref p5,.ref p6,.ref p7,.ref p8]);rw [q9];clear q9;have eQ:=s5 _ _ hb;have Ij:=s6 _ _ eQ;have L8:=s7 _ _ Ij;have o7:=s8 _ _ L8;have lv:=s9 _ _ o7;refine ⟨_,rfl,b,9,n,rfl,lv,by decide,(Bd.small (by decide) (by decide)).mono (by decide),λd n' H' d0 d1 s' hb'=>?_⟩
 have nl:p9≠b:=Ne.symm (zL o7 n9);have Ik:p6≠b:=Ne.symm (zL eQ n6);have Il:p7≠b:=Ne.symm (zL Ij n7);have el:=s' _ _ nl e9;have sH:But b H H':=(But.of (s5.trans (s6.trans (s7.trans (s8.trans s9))))).trans s';have f5:=s' _ _ (zq (s9 _ _ (s8 _ _ (s7 _ _ (s6 _ _ e5)))) lv (by intro z; cases z)) (s9 _ _ (s8 _ _ (s7 _ _ (s6 _ _ e5))))
 have f6:=s' _ _ Ik (s9 _ _ (s8 _ _ (s7 _ _ e6)));have f7:=s' _ _ Il (s9 _ _ (s8 _ _ e7));have f8:=s' _ _ (zq (s9 _ _ e8) lv (by intro z; cases z)) (s9 _ _ e8)
 obtain ⟨k,rfl⟩:∃ k:Nat,d=(k:Int):=⟨d.toNat,by omega⟩
 have kl:k < 9:=by omega
 have fin:∀ v c,([.non,.bl true,.bl false,.str "1",.str "",.ref p5,.ref p6,.ref p7,.ref p8]:List V)[k]?=some v->Odd H' v c->(∀ p,v=.ref p->p≠b)->rIxL K (.ref p9) (.int (k:Int)) H' Q:=λv c hv ho hn=>⟨p9,_,_,_,rfl,rfl,SqL.of el,zi hv,q v c H' n' sH hb' ho hn⟩
 match k,kl with
 |0,_=>exact fin _ _ rfl .non λ_ z=>nomatch z
 |1,_=>exact fin _ _ rfl (.bl true) λ_ z=>nomatch z
 |2,_=>exact fin _ _ rfl (.bl false) λ_ z=>nomatch z
 |3,_=>exact fin _ _ rfl .s1 λ_ z=>nomatch z
 |4,_=>exact fin _ _ rfl .s0 λ_ z=>nomatch z
 |5,_=>exact fin _ _ rfl (.one f5) λ_ z=>by cases z; exact zq f5 hb' (by intro z; cases z)
 |6,_=>exact fin _ _ rfl (.lst f6) λ_ z=>by cases z; exact Ik
 |7,_=>exact fin _ _ rfl (.dct f7) λ_ z=>by cases z; exact Il
 |8,_=>exact fin _ _ rfl (.nil f8) λ_ z=>by cases z; exact zq f8 hb' (by intro z; cases z)
noncomputable def JL (K:PySem.W.Frag):Sp:=λvs H Q _=>∃ (b rp r0 r1 f:Addr) (n:Int) (R:Rat × Rat) (xs:List V) (gs:List Bq) (vo:V) (c:Bool),vs=[.ref b,.ref rp,.ref f,vo]/\H b=some (.lst [.int n])/\SqT K H rp [.ref r0,.ref r1]/\FQ K H r0 R.1/\FQ K H r1 R.2/\RmQ R/\H f=some (.lst xs)/\f≠b/\Al2 (BqH K 1990 H) xs gs/\1<=gs.length/\BxsQ R gs/\Odd H vo c/\(∀ p,vo=.ref p->p≠b)/\
 ∀ (l:Addr) (zs:List V) (H':Hp) (n':Int),But b H H'->H' b=some (.lst [.int n'])->H' l=some (.lst zs)->(∀ z∈zs,∃ (p:Addr) (vr vl:V),z=.ref p/\SqT K H' p [vr,vl]/\NoB K H' vr vl)->Q (.ref l) H'
theorem jc:FnScope ["box","room","boxes","odd","spot","flat","rows"] ["box","room","boxes","odd"] (zD (top 87)):={}
theorem ok_law_none (D:Df K mg "_law_none" (top 87) ["box","room","boxes","odd"]) (T:Tx K mg CK C) (aa:Fn P w K mg base 1 "_law_take" ["box","many"] YD) (cT:Fn P w K mg base 3 "_law_beyond" ["box","room","one"] (Z7 K)):Fn P w K mg base 4 "_law_none" ["box","room","boxes","odd"] (JL K):=by
 refine D.ok0 jc (λvs H Q E h=>?_) (λf cdv A outer s H vs Q E hr h=>?_)
 ·obtain ⟨b,rp,r0,r1,f,n,R,xs,gs,vo,c,rfl,_⟩:=h;rfl
 obtain ⟨b,rp,r0,r1,f,n,R,xs,gs,vo,c,rfl,hb,hrm,fO,fP,rmq,hf,fb,al,l1,bq,odd,ob,k⟩:=h
 refine ⟨_,(zE (zO (i:=4) jc.nd rfl (Or.inl rfl) (zJ aa (by decide) hr (by rfl) zG (zA (pv 0) (zA (zS zo (by rfl) T.b_len PyProof.Rows.Boot.«len» (zA (pv 2) zB)) zB))))
   (zE (zO (i:=5) jc.nd rfl (Or.inl rfl) (zP (zA (zH ix_tup (pv 1) zC (λ_ _=>rfl)) (zA (zP (zA zC (zA zC zB))) zB))))
   (zE (@zO _ _ 6 _ _ _ _ jc.nd rfl (Or.inl rfl) (@zv _ _ _ _ (@zA _ _ _ _ _ (@zP _ _ _ _ _ (@zA _ _ _ _ _ (pv 3) (@zA _ _ _ _ _ (pv 2) zB rfl) rfl)) (@zA _ _ _ _ _ (@zP _ _ _ _ _ (@zA _ _ _ _ _ (pv 5) (@zA _ _ _ _ _ (pv 2) zB rfl) rfl)) (@zA _ _ _ _ _ (@zP _ _ _ _ _ (@zA _ _ _ _ _ (pv 1) (@zA _ _ _ _ _ (pv 3) zB rfl) rfl)) (@zA _ _ _ _ _ (@zP _ _ _ _ _ (@zA _ _ _ _ _ (pv 1) (@zA _ _ _ _ _ (@zv _ _ _ _ zB) zB rfl) rfl)) (@zA _ _ _ _ _ (@zP _ _ _ _ _ (@zA _ _ _ _ _ (pv 1) (@zA _ _ _ _ _ (yX Z4 (by rfl) T.b_tuple PyProof.Rows.Boot.«tuple» (@zA _ _ _ _ _ (pv 2) zB rfl)) zB rfl) rfl)) (@zA _ _ _ _ _ (@zP _ _ _ _ _ (@zA _ _ _ _ _ (pv 1) (@zA _ _ _ _ _ (@zH _ _ _ _ _ _ _ ix_list (pv 2) zC (λ_ _=>rfl)) zB rfl) rfl)) zB rfl) rfl) rfl) rfl) rfl) rfl)) rfl (by first|exact .inl rfl|exact .inr rfl))
   (zE (yI (pe_bm PySem.F.plainAttrs_list PySem.F.slot_list_append PySem.F.type_list_append ju (pv 6) (zA (zP (zA (pv 1) (zA (zN YB (zN YB (yU Yc (pv 2) yv (yq (pv 4))) (zv (zA (pv 3) zB))) (yU Yc (pv 2) (yq (zN zm (pv 4) zC)) yv)) zB))) zB)))
   (zE (yI (pe_bm PySem.F.plainAttrs_list PySem.F.slot_list_append PySem.F.type_list_append ju (pv 6) (zA (zP (zA (pv 1) (zA (zN YB (zN YB (yU Yc (pv 2) yv (yq (pv 4))) (zv (zA (zJ cT (by decide) hr (by rfl) zG (zA (pv 0) (zA (pv 1) (zA (zH ix_list (pv 2) (pv 4) (λ_ _=>rfl)) zB)))) zB))) (yU Yc (pv 2) (yq (zN zm (pv 4) zC)) yv)) zB))) zB)))
   (zE (yI (pe_bm PySem.F.plainAttrs_list PySem.F.slot_list_append PySem.F.type_list_append ju (pv 6) (zA (zP (zA (pv 1) (zA (zN op_rep (zv (zA (zH ix_list (pv 2) zC (λ_ _=>rfl)) zB)) zC) zB))) zB)))
   (zF (zM (pv 6))))))))),?_⟩
 try dsimp only [cxK,cxK0]
 have cI:∀ i:Int,-(2 ^ 64) < i->i < 2 ^ 64->Bd 9000 i:=λi h1 h2=>(Bd.small h1 h2).mono (by decide)
 have hz:=Al2.len al;have l6:=bq.1;refine ⟨_,rfl,_,rfl,_,_,rfl,.inl ⟨_,SqL.of hf,rfl⟩,b,((xs.length:Nat):Int),_,rfl,hb,by omega,cI _ (by omega) (by omega),λd1 n1 H1 LZ L3 s1 dw=>?_⟩
 obtain ⟨sp,esp⟩:∃ sp:Nat,d1=(sp:Int):=⟨d1.toNat,by omega⟩
 subst esp;have spl:sp < xs.length:=by omega
 obtain ⟨v0,hv0⟩:∃ v,xs[0]?=some v:=⟨_,List.getElem?_eq_getElem (by omega)⟩
 obtain ⟨vs',hvs⟩:∃ v,xs[sp]?=some v:=⟨_,List.getElem?_eq_getElem spl⟩;have rS:=s1.tup hb hrm;have lw:=s1 _ _ fb hf;refine ⟨_,rfl,rp,_,_,_,rfl,rfl,rS,rfl,by show 2<=sizeLine; decide,?_⟩
 intro p2 n2;obtain ⟨H2,q2,s2,e2⟩:=newO n2 (.tup [.int 0,.int 1]);rw [q2];clear q2;refine ⟨by show 2<=sizeLine; decide,?_⟩
 intro p3 n3;obtain ⟨H3,q3,s3,e3⟩:=newO n3 (.tup [.ref r0,.ref p2]);rw [q3];clear q3;refine ⟨_,rfl,_,rfl,by show 2<=sizeLine; decide,?_⟩
 intro p4 n4;obtain ⟨H4,q4,s4,e4⟩:=newO n4 (.tup [vo,.ref f]);rw [q4];clear q4;refine ⟨_,rfl,_,rfl,by show 2<=sizeLine; decide,?_⟩
 intro p5 n5;obtain ⟨H5,q5,s5,e5⟩:=newO n5 (.tup [.ref p3,.ref f]);rw [q5];clear q5;refine ⟨_,rfl,_,rfl,by show 2<=sizeLine; decide,?_⟩
 intro p6 n6;obtain ⟨H6,q6,s6,e6⟩:=newO n6 (.tup [.ref rp,vo]);rw [q6];clear q6;refine ⟨_,rfl,by show 0<=sizeLine; decide,?_⟩
 intro p7 n7;obtain ⟨H7,q7,s7,e7⟩:=newO n7 (.lst []);rw [q7];clear q7;refine ⟨by show 2<=sizeLine; decide,?_⟩
 intro p8 n8;obtain ⟨H8,q8,s8,e8⟩:=newO n8 (.tup [.ref rp,.ref p7]);rw [q8];clear q8;have L9:=(s2.trans (s3.trans (s4.trans (s5.trans (s6.trans (s7.trans (s8))))))) _ _ lw;refine ⟨_,rfl,_,rfl,f,_,rfl,.inl ⟨SqL.of L9,?_⟩⟩;intro p9 n9;obtain ⟨H9,q9,s9,e9⟩:=newO n9 (.tup xs);rw [q9];clear q9;refine ⟨by show 2<=sizeLine; decide,?_⟩
 intro g9 iP;obtain ⟨bO,hG,aI,iQ⟩:=newO iP (.tup [.ref rp,.ref p9]);rw [hG];clear hG;have iB:=(s2.trans (s3.trans (s4.trans (s5.trans (s6.trans (s7.trans (s8.trans (s9.trans (aI))))))))) _ _ lw;refine ⟨_,rfl,_,rfl,f,_,_,_,rfl,rfl,SqL.of iB,(show atI xs 0=some v0 from zi hv0),by show 2<=sizeLine; decide,?_⟩
 intro fF oO;obtain ⟨cM,hI,aO,re⟩:=newO oO (.tup [.ref rp,v0]);rw [hI];clear hI;refine ⟨by show 6<=sizeLine; decide,?_⟩
 intro cp dU;obtain ⟨dC,dm,ak,cW⟩:=newO dU (.lst [.ref p4,.ref p5,.ref p6,.ref p8,.ref g9,.ref fF]);rw [dm];clear dm;have lA:=(s2.trans (s3.trans (s4.trans (s5.trans (s6.trans (s7.trans (s8.trans (s9.trans (aI.trans (aO.trans (ak))))))))))) _ _ lw;refine ⟨_,rfl,.inl ⟨rfl,_,SqL.of cW⟩,_,rfl,_,rfl,_,rfl,_,rfl,f,_,rfl,SqL.of lA,?_⟩;intro km ko;obtain ⟨ku,eC,aC,fJ⟩:=newO ko (.lst (cutV xs none (some (sp:Int))));rw [eC];clear eC;rw [Yx (by omega)] at fJ
 refine ⟨_,rfl,by show 1<=sizeLine; decide,?_⟩
 intro fK kz;obtain ⟨cq,fA,aM,gq⟩:=newO kz (.lst [vo]);rw [fA];clear fA;refine ⟨km,fK,_,_,rfl,rfl,aM _ _ fJ,gq,by rw [List.length_take,sizeLine_eq]; simp only [List.length_cons,List.length_nil]; omega,?_⟩
 intro oq Ma;obtain ⟨rH,o8,aS,e15⟩:=newO Ma (.lst (xs.take sp++[vo]));rw [o8];clear o8;have ff:=(aC.trans (aM.trans (aS))) _ _ lA;refine ⟨_,rfl,_,rfl,_,_,rfl,rfl,_,rfl,f,_,rfl,SqL.of ff,?_⟩;intro iR rT;obtain ⟨rV,iC,bD,gv⟩:=newO rT (.lst (cutV xs (some ((sp:Int)+1)) none));rw [iC];clear iC;rw [show (sp:Int)+1=((sp+1:Nat):Int) by omega,cut_dropR (by omega)] at gv
 refine ⟨oq,iR,_,_,rfl,rfl,bD _ _ e15,gv,by rw [List.length_append,List.length_take,List.length_drop,sizeLine_eq]; simp only [List.length_cons,List.length_nil]; omega,?_⟩
 intro lB rW;obtain ⟨Mb,o9,bc,Mc⟩:=newO rW (.lst (xs.take sp++[vo]++xs.drop (sp+1)));rw [o9];clear o9;refine ⟨by show 2<=sizeLine; decide,?_⟩
 intro lC Md;obtain ⟨lE,pd,cG,e18⟩:=newO Md (.tup [.ref rp,.ref lB]);rw [pd];clear pd;have gB:=(aC.trans (aM.trans (aS.trans (bD.trans (bc.trans (cG)))))) _ _ cW;refine ⟨cp,_,_,rfl,rfl,gB,by show 6 < sizeLine; decide,?_⟩
 obtain ⟨Me,pe,iS,rX⟩:=newB (H:=lE) (p:=cp) (.lst ([.ref p4,.ref p5,.ref p6,.ref p8,.ref g9,.ref fF]++[.ref lC]));dsimp only;rw [pe];clear pe;have lF:=(s2.trans (s3.trans (s4.trans (s5.trans (s6.trans (s7.trans (s8.trans (s9.trans (aI.trans (aO.trans (ak.trans (aC.trans (aM.trans (aS.trans (bD.trans (bc.trans (cG))))))))))))))))) _ _ dw;have fz:b≠cp:=zL ((s2.trans (s3.trans (s4.trans (s5.trans (s6.trans (s7.trans (s8.trans (s9.trans (aI.trans (aO)))))))))) _ _ dw) dU;have iT:f≠cp:=zL ((s2.trans (s3.trans (s4.trans (s5.trans (s6.trans (s7.trans (s8.trans (s9.trans (aI.trans (aO)))))))))) _ _ lw) dU;have lG:=iS _ _ iT ((s2.trans (s3.trans (s4.trans (s5.trans (s6.trans (s7.trans (s8.trans (s9.trans (aI.trans (aO.trans (ak.trans (aC.trans (aM.trans (aS.trans (bD.trans (bc.trans (cG))))))))))))))))) _ _ lw);have lH:=iS _ _ fz lF;refine ⟨_,rfl,.inl ⟨rfl,_,SqL.of rX⟩,_,rfl,_,rfl,_,rfl,_,rfl,f,_,rfl,SqL.of lG,?_⟩;intro pf pi;obtain ⟨rY,iD,fZ,pk⟩:=newO pi (.lst (cutV xs none (some (sp:Int))));rw [iD];clear iD;rw [Yx (by omega)] at pk
 have pp:But b H rY:=s1.trans (λa o na ho=>fZ _ _ (iS _ _ (zL ((s2.trans (s3.trans (s4.trans (s5.trans (s6.trans (s7.trans (s8.trans (s9.trans (aI.trans (aO)))))))))) _ _ ho) dU) ((s2.trans (s3.trans (s4.trans (s5.trans (s6.trans (s7.trans (s8.trans (s9.trans (aI.trans (aO.trans (ak.trans (aC.trans (aM.trans (aS.trans (bD.trans (bc.trans (cG))))))))))))))))) _ _ ho)))
 have rZ:=fZ _ _ lH;obtain ⟨gp,hgp,qgp⟩:=Al2.get (Z1 al pp hb) hvs;have gm:=List.mem_of_getElem? hgp;obtain ⟨ir,rt,wm⟩:=bq.2.1 gp gm;have lI:=fZ _ _ lG;refine ⟨_,rfl,_,rfl,_,rfl,_,rfl,f,_,_,_,rfl,rfl,SqL.of lI,zi hvs,b,rp,r0,r1,_,_,gp,R,rfl,rZ,pp.tup hb hrm,pp.tup hb fO,pp.tup hb fP,rmq,qgp,rt,λvb g' Uu Im lJ lK hvb ew eh em no=>?_⟩
 have p20b:pf≠b:=Ne.symm (zL lH pi);have lL:=lJ _ _ p20b pk;refine ⟨by show 1<=sizeLine; decide,?_⟩
 intro Mf Mg;obtain ⟨Uv,pq,gC,e22⟩:=newO Mg (.lst [vb]);rw [pq];clear pq;refine ⟨pf,Mf,_,_,rfl,rfl,gC _ _ lL,e22,by rw [List.length_take,sizeLine_eq]; simp only [List.length_cons,List.length_nil]; omega,?_⟩
 intro Mh Mi;obtain ⟨Uw,pA,iE,dM⟩:=newO Mi (.lst (xs.take sp++[vb]));rw [pA];clear pA;have se:=lJ _ _ fb lI;have lM:=iE _ _ (gC _ _ se);refine ⟨_,rfl,_,rfl,_,_,rfl,rfl,_,rfl,f,_,rfl,SqL.of lM,?_⟩;intro Mj Ml;obtain ⟨Ux,pB,dA,Io⟩:=newO Ml (.lst (cutV xs (some ((sp:Int)+1)) none));rw [pB];clear pB;rw [show (sp:Int)+1=((sp+1:Nat):Int) by omega,cut_dropR (by omega)] at Io
 refine ⟨Mh,Mj,_,_,rfl,rfl,dA _ _ dM,Io,by rw [List.length_append,List.length_take,List.length_drop,sizeLine_eq]; simp only [List.length_cons,List.length_nil]; omega,?_⟩
 intro pC sf;obtain ⟨Uy,pD,lN,Mm⟩:=newO sf (.lst (xs.take sp++[vb]++xs.drop (sp+1)));rw [pD];clear pD;refine ⟨by show 2<=sizeLine; decide,?_⟩
 intro sg Mn;obtain ⟨si,pE,cY,Mo⟩:=newO Mn (.tup [.ref rp,.ref pC]);rw [pE];clear pE;have p12b:=Ne.symm fz;have gD:=(gC.trans (iE.trans (dA.trans (lN.trans cY)))) _ _ (lJ _ _ p12b (fZ _ _ rX));refine ⟨cp,_,_,rfl,rfl,gD,by show 7 < sizeLine; decide,?_⟩
 obtain ⟨Uz,pF,sj,sk⟩:=newB (H:=si) (p:=cp) (.lst ([.ref p4,.ref p5,.ref p6,.ref p8,.ref g9,.ref fF]++[.ref lC]++[.ref sg]));dsimp only;rw [pF];clear pF;have sr:=(dA.trans (lN.trans cY)) _ _ lM;have ss:=sj _ _ iT sr;refine ⟨_,rfl,.inl ⟨rfl,_,SqL.of sk⟩,_,rfl,_,rfl,f,_,_,_,rfl,rfl,SqL.of ss,(show atI xs 0=some v0 from zi hv0),by show 1<=sizeLine; decide,?_⟩
 intro Mp Mq;obtain ⟨UA,pG,pH,e28⟩:=newO Mq (.lst [v0]);rw [pG];clear pG;refine ⟨Mp,_,_,rfl,rfl,e28,by decide,by decide,by show 7<=sizeLine; decide,?_⟩
 intro su Ip;obtain ⟨UB,pI,sv,Mr⟩:=newO Ip (.lst (List.replicate (7:Int).toNat [v0]).flatten);rw [pI];clear pI;refine ⟨by show 2<=sizeLine; decide,?_⟩
 intro Iq Ms;obtain ⟨Mt,pJ,pK,Mu⟩:=newO Ms (.tup [.ref rp,.ref su]);rw [pJ];clear pJ;have gE:=(pH.trans (sv.trans pK)) _ _ sk;refine ⟨cp,_,_,rfl,rfl,gE,by show 8 < sizeLine; decide,?_⟩
 obtain ⟨dr,pL,pM,e31⟩:=newB (H:=Mt) (p:=cp) (.lst ([.ref p4,.ref p5,.ref p6,.ref p8,.ref g9,.ref fF]++[.ref lC]++[.ref sg]++[.ref Iq]));dsimp only;rw [pL];clear pL;have dZ:Buts [b,cp] si dr:=(Buts.one sj (by simp)).trans ((Buts.of (pH.trans (sv.trans pK))).trans (Buts.one pM (by simp)))
 have dk:Buts [b,cp] lE dr:=(Buts.one iS (by simp)).trans ((Buts.of fZ).trans ((Buts.one lJ (by simp)).trans ((Buts.of (gC.trans (iE.trans (dA.trans (lN.trans cY))))).trans dZ)))
 have sw:NoT [b,cp] lE:=NoT.lst lF (NoT.lst gB NoT.nil);have lO:=(gC.trans (iE.trans (dA.trans (lN.trans cY)))) _ _ lK;have lP:NoT [b,cp] si:=NoT.lst lO (NoT.lst gD NoT.nil);have BH:But b H dr:=s1.trans (λa o na ho=>dk _ _ (by simp [na,zL ((s2.trans (s3.trans (s4.trans (s5.trans (s6.trans (s7.trans (s8.trans (s9.trans (aI.trans (aO)))))))))) _ _ ho) dU]) ((s2.trans (s3.trans (s4.trans (s5.trans (s6.trans (s7.trans (s8.trans (s9.trans (aI.trans (aO.trans (ak.trans (aC.trans (aM.trans (aS.trans (bD.trans (bc.trans (cG))))))))))))))))) _ _ ho))
 have bJ:=BH.tup hb hrm;have bz:=BH.tup hb fO;have bK:=BH.tup hb fP;have Mv:=BH _ _ fb hf;have lQ:=Z1 al BH hb;have fh:Odd dr vo c:=odd.buts (as:=[b]) (λp e=>by simp [ob p e]) (Buts.one BH (List.mem_singleton.mpr rfl))
 have d0:FB 1990 R.1:=rmq.2.2.1.f42;have d1:FB 1990 R.2:=rmq.2.2.2.f42;have x0:=rm_p1 rmq;have y0:=rm_p2 rmq;have tp:∀ {p:Addr} {us:List V},lE p=some (.tup us)->SqT K dr p us:=λe=>dk.tup sw (SqT.of e)
 have bxe:Al2 (BoxE K dr) xs (gs.map some):=gd_bxe lQ (λg hg=>(bq.2.1 g hg).1) (λg hg=>(bq.2.1 g hg).2.2)
 have nb:∀ {p:Addr} {o:HO} {Ha:Hp},(∀ q w,H1 q=some w->Ha q=some w)->Ha p=none->p≠b:=λt n=>Ne.symm (zL (t _ _ dw) n)
 have n7b:p7≠b:=nb (o:=.lst []) (s2.trans (s3.trans (s4.trans (s5.trans (s6))))) n7;have sx:p7≠cp:=zL ((s8.trans (s9.trans (aI.trans (aO)))) _ _ e7) dU;have n9b:p9≠b:=nb (o:=.lst []) (s2.trans (s3.trans (s4.trans (s5.trans (s6.trans (s7.trans (s8))))))) n9;have sy:p9≠cp:=zL ((aI.trans (aO)) _ _ e9) dU;have n17b:lB≠b:=nb (o:=.lst []) (s2.trans (s3.trans (s4.trans (s5.trans (s6.trans (s7.trans (s8.trans (s9.trans (aI.trans (aO.trans (ak.trans (aC.trans (aM.trans (aS.trans (bD))))))))))))))) rW;have lR:lB≠cp:=Ne.symm (zL ((aC.trans (aM.trans (aS.trans (bD)))) _ _ cW) rW);have n25b:pC≠b:=Ne.symm (zL ((gC.trans (iE.trans dA)) _ _ lK) sf);have lT:pC≠cp:=Ne.symm (zL ((gC.trans (iE.trans dA)) _ _ (lJ _ _ p12b (fZ _ _ rX))) sf);have lU:su≠cp:=Ne.symm (zL (pH _ _ sk) Ip);have l7:dr p7=some (.lst []):=dk _ _ (by simp [n7b,sx]) ((s8.trans (s9.trans (aI.trans (aO.trans (ak.trans (aC.trans (aM.trans (aS.trans (bD.trans (bc.trans (cG))))))))))) _ _ e7)
 have l9:dr p9=some (.tup xs):=dk _ _ (by simp [n9b,sy]) ((aI.trans (aO.trans (ak.trans (aC.trans (aM.trans (aS.trans (bD.trans (bc.trans (cG))))))))) _ _ e9)
 have sA:dr lB=some (.lst (xs.take sp++[vo]++xs.drop (sp+1))):=dk _ _ (by simp [n17b,lR]) (cG _ _ Mc)
 have sB:dr pC=some (.lst (xs.take sp++[vb]++xs.drop (sp+1))):=dZ _ _ (by simp [n25b,lT]) (cY _ _ Mm)
 have sD:dr su=some (.lst (List.replicate (7:Int).toNat [v0]).flatten):=pM _ _ lU (pK _ _ Mr);have sE:BqH K 1990 dr vb g':=(hvb.same (gC.trans (iE.trans (dA.trans (lN.trans cY))))).buts dZ lP;have sF:dr b=some (.lst [.int Im]):=pM _ _ fz ((pH.trans (sv.trans pK)) _ _ (sj _ _ fz lO));obtain ⟨m,emm,_⟩:=wm;have len3:∀ v:V,(xs.take sp++[v]++xs.drop (sp+1)).length=xs.length:=λv=>by
  rw [List.length_append,List.length_append,List.length_take,List.length_drop];simp only [List.length_cons,List.length_nil];omega
 have eb:∀ (v:V) (o:Option Bq),BoxE K dr v o->Al2 (BoxE K dr) (xs.take sp++[v]++xs.drop (sp+1)) ((gs.map some).take sp++[o]++(gs.map some).drop (sp+1)):=λv o h=>al_app (al_app (Al2.takeR sp bxe) ⟨h,trivial⟩) (Al2.dropR (sp+1) bxe)
 refine ⟨_,rfl,k cp _ dr Im BH sF e31 ?_⟩;intro z hz;simp only [List.mem_append,List.mem_cons,List.not_mem_nil,or_false] at hz;rcases hz with (((rfl|rfl|rfl|rfl|rfl|rfl)|rfl)|rfl)|rfl
 ·exact ⟨p4,_,_,rfl,tp ((s5.trans (s6.trans (s7.trans (s8.trans (s9.trans (aI.trans (aO.trans (ak.trans (aC.trans (aM.trans (aS.trans (bD.trans (bc.trans (cG)))))))))))))) _ _ e4),.room (.inl fh.badB)⟩
 ·exact ⟨p5,_,_,rfl,tp ((s6.trans (s7.trans (s8.trans (s9.trans (aI.trans (aO.trans (ak.trans (aC.trans (aM.trans (aS.trans (bD.trans (bc.trans (cG))))))))))))) _ _ e5),.room (.inr ⟨p3,r0,p2,R.1,rfl,tp ((s4.trans (s5.trans (s6.trans (s7.trans (s8.trans (s9.trans (aI.trans (aO.trans (ak.trans (aC.trans (aM.trans (aS.trans (bD.trans (bc.trans (cG))))))))))))))) _ _ e3),bz,d0,x0,zw (tp ((s3.trans (s4.trans (s5.trans (s6.trans (s7.trans (s8.trans (s9.trans (aI.trans (aO.trans (ak.trans (aC.trans (aM.trans (aS.trans (bD.trans (bc.trans (cG)))))))))))))))) _ _ e2))⟩)⟩
 ·refine ⟨p6,_,_,rfl,tp ((s7.trans (s8.trans (s9.trans (aI.trans (aO.trans (ak.trans (aC.trans (aM.trans (aS.trans (bD.trans (bc.trans (cG)))))))))))) _ _ e6),?_⟩;rcases fh.lstB (K:=K) with h|⟨p,rfl,h⟩
  ·exact .list bJ bz bK d0 d1 x0 y0 h
  ·exact .some (os:=[none]) bJ bz bK d0 d1 x0 y0 h (by simp) (by simp) ⟨.inr ⟨rfl,.inl ⟨_,.int 1,JG⟩⟩,trivial⟩ ⟨none,by simp,rfl⟩
 ·exact ⟨p8,_,_,rfl,tp ((s9.trans (aI.trans (aO.trans (ak.trans (aC.trans (aM.trans (aS.trans (bD.trans (bc.trans (cG)))))))))) _ _ e8),.few bJ bz bK d0 d1 x0 y0 l7 (.inl rfl)⟩
 ·exact ⟨g9,_,_,rfl,tp ((aO.trans (ak.trans (aC.trans (aM.trans (aS.trans (bD.trans (bc.trans (cG)))))))) _ _ iQ),.list bJ bz bK d0 d1 x0 y0 (.inr ⟨p9,xs,rfl,SqT.of l9⟩)⟩
 ·obtain ⟨b0,Ir,q0⟩:=Al2.get lQ hv0;obtain ⟨pb,a0,a1,a2,a3,a4,a5,rfl,hpb,_⟩:=q0;exact ⟨fF,_,_,rfl,tp ((ak.trans (aC.trans (aM.trans (aS.trans (bD.trans (bc.trans (cG))))))) _ _ re),.list bJ bz bK d0 d1 x0 y0 (.inr ⟨pb,_,rfl,hpb⟩)⟩
 ·exact ⟨lC,_,_,rfl,tp e18,.some bJ bz bK d0 d1 x0 y0 sA (by rw [len3]; omega) (by rw [len3]; omega) (eb vo none (.inr ⟨rfl,fh.badB⟩)) ⟨none,by simp,rfl⟩⟩
 ·exact ⟨sg,_,_,rfl,dZ.tup lP (SqT.of Mo),.some bJ bz bK d0 d1 x0 y0 sB (by rw [len3]; omega) (by rw [len3]; omega) (eb vb (some g') (.inl ⟨g',rfl,sE,by rw [ew]; exact ir.1,by rw [eh]; exact ir.2.1,m,by rw [em]; exact emm⟩)) ⟨some g',by simp,no⟩⟩
 ·exact ⟨Iq,_,_,rfl,pM.tup gE (SqT.of Mu),.few bJ bz bK d0 d1 x0 y0 sD (.inr (by show 6 < (List.replicate 7 [v0]).flatten.length; simp))⟩
theorem yu:FnScope ["script","k","box","room","boxes","most","odd","given","wrong","there","row","spot"] ["script"] (zD (top 88)):={}
theorem ok_law (D:Df K mg "law" (top 88) ["script"]) (T:Tx K mg CK C) (eL:Fn P w K mg base 2 "_law_box" ["script","k"] (spBox K)) (dO:Fn P w K mg base 2 "_law_room" ["box"] (JC K)) (dl:Fn P w K mg base 4 "_law_boxes" ["box","room"] (YT K)) (aa:Fn P w K mg base 1 "_law_take" ["box","many"] YD) (eM:Fn P w K mg base 2 "_law_odd" ["box"] spOdd) (au:Fn P w K mg base 11 "_law_told" ["room","boxes","most"] (JN K)) (dP:Fn P w K mg base 4 "_law_none" ["box","room","boxes","odd"] (JL K)) (aN:Fn P w K mg base 4 "_law_first_over" ["boxes"] (jf K)):Fn P w K mg base 12 "law" ["script"] (spLaw K):=by
 refine D.ok0 yu (λvs H Q E h=>?_) (λf cdv A outer s H vs Q E hr h=>?_)
 ·obtain ⟨a,rfl,_⟩:=h;rfl
 obtain ⟨a,rfl,hS,fin⟩:=h
 refine ⟨_,(zE (yA PassesOwn.never rfl (yn (by rfl) T.b_range (zA (zS (call_max2 rfl) (by rfl) T.b_max PyProof.Rows.Boot.«max» (zA zC (zA (zS (call_min2 rfl) (by rfl) T.b_min PyProof.Rows.Boot.«min» (zA (zS zo (by rfl) T.b_len PyProof.Rows.Boot.«len» (zA (pv 0) zB)) (zA zC zB))) zB))) zB)) (zj (i:=1) yu.nd rfl (Or.inl rfl)) (zE (zO (i:=2) yu.nd rfl (Or.inl rfl) (zJ eL (by decide) hr (by rfl) zG (zA (pv 0) (zA (pv 1) zB))))
   (zE (zO (i:=3) yu.nd rfl (Or.inl rfl) (zJ dO (by decide) hr (by rfl) zG (zA (pv 2) zB)))
   (zE (zO (i:=4) yu.nd rfl (Or.inl rfl) (zJ dl (by decide) hr (by rfl) zG (zA (pv 2) (zA (pv 3) zB))))
   (zE (zO (i:=5) yu.nd rfl (Or.inl rfl) (zJ aa (by decide) hr (by rfl) zG (zA (pv 2) (zA zC zB))))
   (zE (zO (i:=6) yu.nd rfl (Or.inl rfl) (zJ eM (by decide) hr (by rfl) zG (zA (pv 2) zB)))
   (zE (zO (i:=7) yu.nd rfl (Or.inl rfl) (yX ZA (by rfl) T.b_list PyProof.Rows.Boot.«list» (zA (pv 4) zB)))
   (zE (ze (y9 (zR Jt (zJ au (by decide) hr (by rfl) zG (zA (pv 3) (zA (pv 7) (zA (pv 5) zB)))) zx (zU _)) (yO (zR (op_neA (K:=K) rfl (u100 hr)) (pv 7) (pv 4) (zU _)))).pt (zF (zM yW)) zT)
   (zE (yA PassesOwn.never rfl (yP (zv (zA (Yl ZK zC) (zA zC (zA (zN op_pow zC zC) (zA yW (zA zx (zA yf (zA (pv 6) zB))))))))) (zj (i:=8) yu.nd rfl (Or.inl rfl)) (zF (ze (zR Jt (zJ au (by decide) hr (by rfl) zG (zA (pv 3) (zA (pv 7) (zA (pv 8) zB)))) zx (zU _)) (zF (zM yW)) zT)))
   (zE (yA PassesOwn.never rfl (yP (zJ dP (by decide) hr (by rfl) zG (zA (pv 2) (zA (pv 3) (zA (pv 4) (zA (pv 6) zB)))))) (pg_tup rfl (Ye (zj (i:=9) yu.nd rfl (Or.inl rfl)) (Ye (zj (i:=10) yu.nd rfl (Or.inl rfl)) pgs_nil))) (zF (ze (y9 (zR Jt (zJ au (by decide) hr (by rfl) zG (zA (pv 9) (zA (pv 10) (zA (pv 5) zB)))) zx (zU _)) (yO (zR Jt (zJ au (by decide) hr (by rfl) zG (zA (pv 9) (zA (pv 10) (zA (Yl ZK zC) zB)))) zx (zU _)))).pt (zF (zM yW)) zT)))
   (zE (zO (i:=11) yu.nd rfl (Or.inl rfl) (zJ aa (by decide) hr (by rfl) zG (zA (pv 2) (zA (zS zo (by rfl) T.b_len PyProof.Rows.Boot.«len» (zA (pv 4) zB)) zB))))
   (zE (zO (i:=10) yu.nd rfl (Or.inl rfl) (yU Yc (zN YB (pv 4) (zv (zA (zH ix_list (pv 4) (pv 11) (λ_ _=>rfl)) zB))) yv (yq zC)))
   (zE (ze (j2 (zR Z5 (zS zo (by rfl) T.b_len PyProof.Rows.Boot.«len» (zA (pv 4) zB)) zC (zU _)) (jL (zR (op_neA (K:=K) rfl (u100 hr)) (zJ au (by decide) hr (by rfl) zG (zA (pv 3) (zA (pv 10) (zA zC zB)))) (zJ aN (by decide) hr (by rfl) zG (zA (pv 10) zB)) (zU _)))).pt (zF (zM yW)) zT)
   (zE (zO (i:=10) yu.nd rfl (Or.inl rfl) (zv (zA (zH ix_list (pv 4) (pv 11) (λ_ _=>rfl)) (zA (zH ix_list (pv 4) (pv 11) (λ_ _=>rfl)) (zA (zH ix_list (pv 4) zC (λ_ _=>rfl)) zB)))))
   (zF (ze (y9 (zR (op_neA (K:=K) rfl (u100 hr)) (zJ au (by decide) hr (by rfl) zG (zA (pv 3) (zA (pv 10) (zA (pv 5) zB)))) (zJ aN (by decide) hr (by rfl) zG (zA (pv 10) zB)) (zU _)) (yO (zR (op_neA (K:=K) rfl (u100 hr)) (zJ au (by decide) hr (by rfl) zG (zA (pv 3) (zA (pv 10) (zA (Yl ZK zC) zB)))) (zP (zA zx (zA zC (zA zC zB)))) (zU _)))).pt (zF (zM yW)) zT))))))))))))))))
   (zF (zM yW))),?_⟩
 try dsimp only [cxK,cxK0]
 obtain ⟨ns,hL,h63,_⟩:=id hS;refine ⟨_,rfl,_,_,rfl,.inl ⟨_,hL,rfl⟩,_,_,rfl,_,_,rfl,_,rfl,?_⟩;obtain ⟨m,hme,m1,m8⟩:=most_of ns 3 (by decide)
 rw [hme];have cI:∀ i:Int,-(2 ^ 64) < i->i < 2 ^ 64->Bd 9000 i:=λi h1 h2=>(Bd.small h1 h2).mono (by decide)
 refine ⟨by omega,by omega,z7 (n:=m.toNat) (λi σ' H'=>∃ r1 r2 r3 r4 r5 r6 r7 r8 r9 d9 kK:Option V,σ'=[some (.ref a),r1,r2,r3,r4,r5,r6,r7,r8,r9,d9,kK]/\Same H H') ⟨_,_,_,_,_,_,_,_,_,_,_,rfl,Same.refl _⟩ ?_ ?_⟩
 ·rintro i σ0 H0 hi ⟨u1,u2,u3,u4,u5,u6,u7,u8,u9,iU,u11,rfl,sm⟩;refine ⟨_,rfl,_,rfl,a,_,rfl,Scr.same hS sm,by omega,by omega,λb nb Hb Ir sb hb=>?_⟩
  refine ⟨_,rfl,b,_,rfl,hb,λrp r0 r1 R H1 n1 s1 dw hrm fO fP rmq=>?_⟩
  refine ⟨_,rfl,_,rfl,b,_,rp,r0,r1,R,rfl,dw,hrm,fO,fP,rmq,λf xs gs n2 H2 s2 dQ fb nf Mw gl l1 bq=>?_⟩
  refine ⟨_,rfl,b,4,_,rfl,dQ,by decide,cI _ (by decide) (by decide),λd3 n3 H3 L4 L5 s3 kJ=>?_⟩
  obtain ⟨mo,emo⟩:∃ mo:Nat,d3=(mo:Int):=⟨d3.toNat,by omega⟩
  subst emo;refine ⟨_,rfl,b,_,rfl,kJ,λvo c H4 n4 s4 dY odd ob=>?_⟩
  have dA:But b H2 H4:=s3.trans s4;have hJ:But b H1 H4:=s2.trans dA;have lV:=dA _ _ fb Mw;have iV:=Z1 gl dA dQ;have dN:=hJ.tup dw hrm;have eJ:=hJ.tup dw fO;have eK:=hJ.tup dw fP;have gd:=bq.gd rmq l1;have l6:=bq.1;have hz:=Al2.len iV;refine ⟨_,rfl,f,xs,rfl,.inl (SqL.of lV),?_⟩;intro p5 n5;obtain ⟨H5,q5,s5,e5⟩:=newO n5 (.lst xs);rw [q5];clear q5;have p5b:p5≠b:=Ne.symm (zL dY n5);refine ⟨_,rfl,_,rfl,_,rfl,.inl ⟨rp,r0,r1,p5,R,xs,gs,mo,rfl,Kw.Same.tup s5 dN,Kw.Same.tup s5 eJ,Kw.Same.tup s5 eK,rmq,e5,zY iV s5,l1,bq,by omega,λH6 s6=>?_⟩⟩
  refine ⟨rfl,_,rfl,?_⟩;refine yj (λz=>absurd rfl z) (λ_=>?_)
  have cU:=s5.trans s6;have oF:=zY iV cU;refine ⟨_,rfl,_,rfl,_,.lst (SqL.of (s6 _ _ e5)) (bqs_dp oF),.lst (SqL.of (cU _ _ lV)) (bqs_dp oF),(bqs_ok _).1,(bqs_ok _).2,_,rfl,iteF ?_⟩;refine ⟨_,rfl,_,_,rfl,rfl,⟨by decide,by decide,by decide⟩,_,rfl,by show 7<=sizeLine; decide,?_⟩
  intro p7 n7;obtain ⟨H7,q7,s7,e7⟩:=newO n7 (.lst [.int (-1),.int 41,.int (10 ^ (12:Int).toNat),.bl true,.str (Str.ofString "1"),.non,vo]);rw [q7];clear q7;have eT:=cU.trans s7;refine ⟨p7,rfl,⟨_,SqL.of e7⟩,jS (K:=K) (a:=p7) (xs:=[.int (-1),.int 41,.int (10 ^ (12:Int).toNat),.bl true,.str (Str.ofString "1"),.non,vo]) (λj σ' H'=>∃ u8:Option V,σ'=[some (.ref a),some (.int (0+(i:Int))),some (.ref b),some (.ref rp),some (.ref f),some (.int (mo:Int)),some vo,some (.ref p5),u8,u9,iU,u11]/\Same H7 H') ⟨_,rfl,Same.refl _⟩ (by rintro _ _ _ _ ⟨_,_,g⟩; exact SqL.of (g _ _ e7)) ?_ ?_⟩
  ·rintro j x σ1 H8 hx ⟨u8,rfl,s8⟩;have cK:=eT.trans s8;have nm:Yt K H8 x:=by
    match j,hx with
    |0,hx=>cases hx; exact .inr ⟨_,rfl,by decide⟩
    |1,hx=>cases hx; exact .inr ⟨_,rfl,by decide⟩
    |2,hx=>cases hx; exact .inr ⟨_,rfl,by decide+kernel⟩
    |3,hx=>cases hx; exact .inl ⟨_,_,_,.bl true,J8,kit_bl_bl,rfl⟩
    |4,hx=>cases hx; exact .inl ⟨_,_,_,.str _,Zk,ZC,rfl⟩
    |5,hx=>cases hx; exact .inl ⟨_,_,_,.non,Y9,YJ,rfl⟩
    |6,hx=>cases hx; exact .inl (odd.same cK).whn
    |j+7,hx=>cases hx
   refine ⟨_,rfl,_,rfl,_,rfl,.inr (.inl ⟨rp,r0,r1,p5,R,xs,gs,x,rfl,Kw.Same.tup cK dN,Kw.Same.tup cK eJ,Kw.Same.tup cK eK,rmq,(s6.trans (s7.trans s8)) _ _ e5,zY iV cK,l1,l6,gd.wt,gd.al,.inl ⟨gd.ap,nm,λH9 s9=>?_⟩⟩)⟩
   refine ⟨rfl,_,rfl,?_⟩;refine yj (λz=>absurd rfl z) (λ_=>?_)
   exact ⟨_,rfl,s8.trans s9⟩
  rintro σ1 H8 ⟨u8,rfl,s8⟩;have cK:=eT.trans s8;have o7:=cK _ _ dY;refine ⟨_,rfl,_,rfl,_,rfl,_,rfl,b,rp,r0,r1,f,_,R,xs,gs,vo,c,rfl,o7,Kw.Same.tup cK dN,Kw.Same.tup cK eJ,Kw.Same.tup cK eK,rmq,cK _ _ lV,fb,zY iV cK,l1,bq,odd.same cK,ob,λl9 Mx H9 n9 s9 lv e9 rows=>?_⟩
  refine ⟨l9,rfl,⟨_,SqL.of e9⟩,jS (K:=K) (a:=l9) (xs:=Mx) (λj σ' H'=>∃ u9 iU:Option V,σ'=[some (.ref a),some (.int (0+(i:Int))),some (.ref b),some (.ref rp),some (.ref f),some (.int (mo:Int)),some vo,some (.ref p5),u8,u9,iU,u11]/\Same H9 H') ⟨_,_,rfl,Same.refl _⟩ (by rintro _ _ _ _ ⟨_,_,_,g⟩; exact SqL.of (g _ _ e9)) ?_ ?_⟩
  ·rintro j x σ1 bO hx ⟨u9,iU,rfl,aI⟩;obtain ⟨p,vr,vl,rfl,hp,nbx⟩:=rows x (List.mem_of_getElem? hx);refine ⟨p,_,rfl,Kw.Same.tup aI hp,rfl,_,_,rfl,_,_,rfl,rfl,?_⟩;refine ⟨_,rfl,_,rfl,_,rfl,.inr (.inr ⟨vr,vl,_,rfl,nbx.same aI,λcM aO=>?_⟩)⟩
   refine ⟨rfl,_,rfl,?_⟩;refine yj (λz=>absurd rfl z) (λ_=>?_)
   refine ⟨_,rfl,_,rfl,_,rfl,.inr (.inr ⟨vr,vl,_,rfl,nbx.same (aI.trans aO),λdC ak=>?_⟩)⟩
   refine ⟨rfl,_,rfl,?_⟩;refine yj (λz=>absurd rfl z) (λ_=>?_)
   exact ⟨_,_,rfl,aI.trans (aO.trans ak)⟩
  rintro σ1 bO ⟨u9,iU,rfl,aI⟩;have lW:But b H4 bO:=(But.of cK).trans (s9.trans (But.of aI));have sG:=aI _ _ lv;have iB:=lW _ _ fb lV;refine ⟨_,rfl,_,rfl,_,_,rfl,.inl ⟨_,SqL.of iB,rfl⟩,b,((xs.length:Nat):Int),_,rfl,sG,by omega,cI _ (by omega) (by omega),λIu oO cM My Mz aO MA=>?_⟩
  obtain ⟨sp,esp⟩:∃ sp:Nat,Iu=(sp:Int):=⟨Iu.toNat,by omega⟩
  subst esp;have eN:=lW.trans aO;have ge:=eN _ _ fb lV;have iF:=Z1 iV eN dY;have fk:=eN.tup dY dN;have fm:=eN.tup dY eJ;have fu:=eN.tup dY eK;obtain ⟨vs,hvs⟩:∃ v,xs[sp]?=some v:=⟨_,List.getElem?_eq_getElem (by omega)⟩
  obtain ⟨v0,hv0⟩:∃ v,xs[0]?=some v:=⟨_,List.getElem?_eq_getElem (by omega)⟩
  obtain ⟨gp,hgp,qgp⟩:=Al2.get iF hvs;obtain ⟨g0,hg0,qg0⟩:=Al2.get iF hv0;have mgp:=List.mem_of_getElem? hgp;have Iv:=List.mem_of_getElem? hg0;refine ⟨_,rfl,_,rfl,_,rfl,f,_,_,_,rfl,rfl,SqL.of ge,zi hvs,by show 1<=sizeLine; decide,?_⟩
  intro cp dU;obtain ⟨dC,dm,ak,cW⟩:=newO dU (.lst [vs]);rw [dm];clear dm;refine ⟨f,cp,_,_,rfl,rfl,ak _ _ ge,cW,by rw [sizeLine_eq]; simp only [List.length_cons,List.length_nil]; omega,?_⟩
  intro km ko;obtain ⟨ku,eC,aC,fJ⟩:=newO ko (.lst (xs++[vs]));rw [eC];clear eC;refine ⟨_,rfl,km,_,rfl,SqL.of fJ,?_⟩;intro fK kz;obtain ⟨cq,fA,aM,gq⟩:=newO kz (.lst (cutV (xs++[vs]) none (some 6)));rw [fA];clear fA;rw [show (6:Int)=((6:Nat):Int) from rfl,cut_any6] at gq;have cg:=ak.trans (aC.trans aM);refine g_go ?_;dsimp only;refine cut1 (λσ' H'=>σ'=[some (.ref a),some (.int (0+(i:Int))),some (.ref b),some (.ref rp),some (.ref f),some (.int (mo:Int)),some vo,some (.ref p5),u8,u9,some (.ref fK),some (.int (sp:Int))]/\Same cq H') (λN hN=>?_) ?_
  ·refine ⟨_,rfl,_,_,rfl,.inl ⟨_,SqL.of (cg _ _ ge),rfl⟩,_,_,rfl,rfl,_,rfl,?_⟩;refine zc (λc6=>?_) (λ_=>iteF (hN _ _ ⟨rfl,Same.refl _⟩))
   have lX:cq fK=some (.lst (xs++[vs])):=by
    rw [gq,List.take_of_length_le (by rw [List.length_append]; simp only [List.length_cons,List.length_nil]; omega)]
   have lY:Al2 (BqH K 1990 cq) (xs++[vs]) (gs++[gp]):=Al2.snoc (zY iF cg) (qgp.same cg);have lg:(gs++[gp]).length=gs.length+1:=by simp
   have fo:=fov_snoc gd.ap hgp (gd.al gp mgp);have wt':WtB (gs++[gp]):=λq hq=>by
    rcases List.mem_append.mp hq with z|z
    ·exact gd.wt q z
    ·rw [List.mem_singleton.mp z]; exact gd.wt gp mgp
   have in':∀ q∈gs++[gp],InR R q:=λq hq=>by
    rcases List.mem_append.mp hq with z|z
    ·exact gd.al q z
    ·rw [List.mem_singleton.mp z]; exact gd.al gp mgp
   refine ⟨_,rfl,_,rfl,.inr (.inl ⟨rp,r0,r1,fK,R,_,_,_,rfl,Kw.Same.tup cg fk,Kw.Same.tup cg fm,Kw.Same.tup cg fu,rmq,lX,lY,by omega,by omega,wt',in',.inr ⟨_,_,fo,λoq rH aS MB=>?_⟩⟩)⟩
   refine ⟨_,rfl,fK,_,_,_,_,rfl,aS _ _ lX,zY lY aS,by omega,fo,λiR rV bD MC=>?_⟩
   refine ⟨_,Y7 (Kw.Same.tup bD MB),Y7 MC,(Yv _ _).1,(Yv _ _).2,_,rfl,iteF ?_⟩;exact hN _ _ ⟨rfl,aS.trans bD⟩
  rintro σ1 rH ⟨rfl,aS⟩;have gF:=cg.trans aS;have ff:=gF _ _ ge;refine ⟨_,rfl,_,rfl,f,_,_,_,rfl,rfl,SqL.of ff,zi hvs,_,rfl,_,rfl,f,_,_,_,rfl,rfl,SqL.of ff,zi hvs,_,rfl,f,_,_,_,rfl,rfl,SqL.of ff,(show atI xs 0=some v0 from zi hv0),by show 3<=sizeLine; decide,?_⟩
  intro iR rT;obtain ⟨rV,iC,bD,gv⟩:=newO rT (.lst [vs,vs,v0]);rw [iC];clear iC;have cj:=gF.trans bD;have iG:Al2 (BqH K 1990 rV) [vs,vs,v0] [gp,gp,g0]:=⟨qgp.same cj,qgp.same cj,qg0.same cj,trivial⟩;have fo:ZJ [gp,gp,g0] 0 1:=fov_three (gd.al gp mgp);have Iw:WtB [gp,gp,g0]:=λq hq=>by
   simp only [List.mem_cons,List.not_mem_nil,or_false] at hq;rcases hq with rfl|rfl|rfl
   ·exact gd.wt _ mgp
   ·exact gd.wt _ mgp
   ·exact gd.wt _ Iv
  have Ix:∀ q∈[gp,gp,g0],InR R q:=λq hq=>by
   simp only [List.mem_cons,List.not_mem_nil,or_false] at hq;rcases hq with rfl|rfl|rfl
   ·exact gd.al _ mgp
   ·exact gd.al _ mgp
   ·exact gd.al _ Iv
  refine ⟨_,rfl,_,rfl,_,rfl,.inr (.inl ⟨rp,r0,r1,iR,R,_,_,_,rfl,Kw.Same.tup cj fk,Kw.Same.tup cj fm,Kw.Same.tup cj fu,rmq,gv,iG,by simp,by simp,Iw,Ix,.inr ⟨_,_,fo,λlB Mb bc MD=>?_⟩⟩)⟩
  refine ⟨_,rfl,iR,_,_,_,_,rfl,bc _ _ gv,zY iG bc,by simp,fo,λlC lE cG ME=>?_⟩
  refine ⟨_,Y7 (Kw.Same.tup cG MD),Y7 ME,(Yv _ _).1,(Yv _ _).2,_,rfl,iteF ?_⟩;have d7:=cj.trans (bc.trans cG);refine ⟨_,rfl,_,rfl,_,rfl,.inr (.inl ⟨rp,r0,r1,iR,R,_,_,_,rfl,Kw.Same.tup d7 fk,Kw.Same.tup d7 fm,Kw.Same.tup d7 fu,rmq,(bc.trans cG) _ _ gv,zY iG (bc.trans cG),by simp,by simp,Iw,Ix,.inr ⟨_,_,fo,λUC Me iS MF=>?_⟩⟩)⟩
  refine ⟨by show 3<=sizeLine; decide,?_⟩
  intro pf pi;obtain ⟨rY,iD,fZ,pk⟩:=newO pi (.tup [.str (Str.ofString "overlap"),.int 0,.int 1]);rw [iD];clear iD;have MG:SqT K rY pf [strV "overlap",.int ((0:Nat):Int),.int ((1:Nat):Int)]:=SqT.of pk;refine ⟨_,Y7 (Kw.Same.tup fZ MF),Y7 MG,(Yv _ _).1,(Yv _ _).2,_,rfl,iteF ?_⟩;exact ⟨_,_,_,_,_,_,_,_,_,_,_,rfl,sm.trans (But.fresh Ir ((But.of sb).trans (s1.trans (hJ.trans (eN.trans (But.of (d7.trans (iS.trans fZ))))))))⟩
 ·rintro σ0 H0 ⟨u1,u2,u3,u4,u5,u6,u7,u8,u9,iU,u11,rfl,sm⟩;exact fin _
end
theorem len1 {p:List Value->Prop} (h:∀ x0,p [x0]):∀ us:List Value,us.length=1->p us:=by
 intro us e;cases us with
 |nil=>exact absurd e (by show ¬ 0=1; decide)
 |cons x0 us=>
  cases us with
  |nil=>exact h x0
  |cons y us=>exact absurd e (by show ¬ us.length+2=1; omega)
theorem len2 {p:List Value->Prop} (h:∀ x0 x1,p [x0,x1]):∀ us:List Value,us.length=2->p us:=by
 intro us e;cases us with
 |nil=>exact absurd e (by show ¬ 0=2; decide)
 |cons x0 us=>
  cases us with
  |nil=>exact absurd e (by show ¬ 1=2; decide)
  |cons x1 us=>
   cases us with
   |nil=>exact h x0 x1
   |cons y us=>exact absurd e (by show ¬ us.length+3=2; omega)
theorem len3 {p:List Value->Prop} (h:∀ x0 x1 x2,p [x0,x1,x2]):∀ us:List Value,us.length=3->p us:=by
 intro us e;cases us with
 |nil=>exact absurd e (by show ¬ 0=3; decide)
 |cons x0 us=>
  cases us with
  |nil=>exact absurd e (by show ¬ 1=3; decide)
  |cons x1 us=>
   cases us with
   |nil=>exact absurd e (by show ¬ 2=3; decide)
   |cons x2 us=>
    cases us with
    |nil=>exact h x0 x1 x2
    |cons y us=>exact absurd e (by show ¬ us.length+4=3; omega)
theorem len4 {p:List Value->Prop} (h:∀ x0 x1 x2 x3,p [x0,x1,x2,x3]):∀ us:List Value,us.length=4->p us:=by
 intro us e;cases us with
 |nil=>exact absurd e (by show ¬ 0=4; decide)
 |cons x0 us=>
  cases us with
  |nil=>exact absurd e (by show ¬ 1=4; decide)
  |cons x1 us=>
   cases us with
   |nil=>exact absurd e (by show ¬ 2=4; decide)
   |cons x2 us=>
    cases us with
    |nil=>exact absurd e (by show ¬ 3=4; decide)
    |cons x3 us=>
     cases us with
     |nil=>exact h x0 x1 x2 x3
     |cons y us=>exact absurd e (by show ¬ us.length+5=4; omega)
theorem len5 {p:List Value->Prop} (h:∀ x0 x1 x2 x3 x4,p [x0,x1,x2,x3,x4]):∀ us:List Value,us.length=5->p us:=by
 intro us e;cases us with
 |nil=>exact absurd e (by show ¬ 0=5; decide)
 |cons x0 us=>
  cases us with
  |nil=>exact absurd e (by show ¬ 1=5; decide)
  |cons x1 us=>
   cases us with
   |nil=>exact absurd e (by show ¬ 2=5; decide)
   |cons x2 us=>
    cases us with
    |nil=>exact absurd e (by show ¬ 3=5; decide)
    |cons x3 us=>
     cases us with
     |nil=>exact absurd e (by show ¬ 4=5; decide)
     |cons x4 us=>
      cases us with
      |nil=>exact h x0 x1 x2 x3 x4
      |cons y us=>exact absurd e (by show ¬ us.length+6=5; omega)
set_option maxHeartbeats 0 in
noncomputable abbrev LkF (K:PySem.W.Frag) (x:Str) (st:Stmt) (f:Addr) (oc:Value) (od:Option Addr) (kV dc pm:Value) (an:Option Addr) (cd ct:Value) (sl:Array (Option Value)):Prop:=K.lookup f=some ⟨oc,od,.func (fnOf x x (zK st) (zI st) (zD st) .none kV dc pm an cd ct),sl⟩
theorem all_mk {P:Program} {w:World} {K:PySem.W.Frag} {h:Heap} {mg:Str->Option Value} (X:K.In h) (G:h.Ns mainGlobals mg)
  {C_KnockError C_NoBox C_TooMany C_NoBody C_NoMoment C_Overlap C_NoWorld C_Crowd C_Plane f0 f1 f2 f3 f4 f5 f6 f7 f8 f9 sI sJ iT sK sL sM sN sO sP sQ sR sS sT sU sV sW sX pN pO pP pQ pR pS pT pU pV pW pX pY pZ qa qb f42 qc sY sZ qd tf tj tm tu tw tz tD tE tF tG tH tJ tK tL tM tN tO tP tQ tR tS tT tU tV tW tX tY tZ ua d5:Addr}
  {MH MI MJ MK Iy ML MM MN MO MP Iz qp MQ MR MS MT IA qq qL MU MV MW IB MY MZ M0 M1 M2 IC M3 gY M4 M5 M6 ID M7 M8 M9 Na Nb IE Nc Hh Nd Nf Ng IF Nh Ni Nj Nk Nl IG Nm Nn No Np Nq IH Nr ub uc ud ue lZ uf ug uh ui uj ma uk hX ul um uo mh uq ur ut uu uv mi uw ux uy uz uA mj uB uC uD uE uF ml uG uH uI uJ uK mn uL uM uN uO uP mr uQ uR uS uT uU mv uV uW uX uY uZ mw va vc vd ve vf mx vg vh vk vn vp my vq vt vv vw vx mz vy vz vA vB vC mD vD vE vF vG vH mE vI vJ vK vL vM mF vN vO vP vQ vR mG vS vT vU vV vW mH vX vY vZ v7 v8 mI v9 wc we wf wg mJ wj wk wn wo wp mK wq wr wu ww wx mL wy wA wB wC wD mM wE wF wG wH wI mO wJ wK wL wM wN mP wO wP wQ wR wS mQ wT wU wW wX wY mR wZ w5 w6 w9 xa mS xb xf xg xh xi mT xj xk xl xm xn mU xo xp xt xu xv mV xw xx xy xz xA mW xB xC xD xE xF mX xG xH xI xJ xL mY xM xN xO xP xQ mZ xR xS xT xU xV m5 xW xX xY xZ x8 m6 x9 Aa Ab Ac Ad m7 Ae Af Ag Ah Ai m9 Aj Ak Al Am An nc Ao Ap Aq As At nh Au Av Aw Ax Ay ni Az AA AB AC AD nk AE AF AG AH AI nr AJ AK AL AM AN nv AO AQ AR AS AT ny AU AV AW AX AY nA AZ A0 A1 A2 A3 nC A4 A5 A6 A7 A8 nD A9 Ba Bb Bc Be nE Bf Bg Bh Bi Bj nF Bk Bl Bm Bn Bo nG Bp Br Bs Bt Bu nH Bv Bw By Bz BA nI BB BC BD BE BF nJ BG BI BJ BK BL nK BM BN BO BP BQ nL BR BS BT BU BV nM BW BX BY BZ B0 nN B1 B2 B5 B6 B7 nO B8 B9 Ca Cb Cc nP Cd Ce Cf Cg Ch nQ Ci Cj Ck Cl Cm nR Cn Co Cp Cq Cr nU Ct Cu Cv Cw Cy nV Cz CB CC CD CF nW CG:Value}
  {Nt Nu Nv Nw Nx dS Ny Nz NA NB NC ND NE NF NG NH NI NJ NK NL CH CI CJ CL CM CN CO CP CQ CS CT CU CV CW CY CZ C0 C1 C2 C3 C4 C5 C6 C7 C8 C9 Db Dc Dd De Dg Dh Di Dj Dk Dl Dm Dn Do Dq Dr Ds Dt Du Dv Dw Dx Dy Dz DA DB DC DD DE DF DG DH DI DJ DK DL DM DN DO DP DQ DR DS DT DU DV DW DX DY DZ Ea Eb Ec Ed Ee Ef Eg Eh Ei Ej Ek El Em En Eo Ep Es Et Eu Ev Ew Ex Ey Ez EA EB EC ED EE EF EG EH EI EJ EK EL EM EN EO EQ ER ES ET EU EV EW EX EY EZ E1 E2 E3 E4 E5 E6 E7 E8:Option Addr}
  {NM NN iH NO NP NQ qz NR NS NT E9 Fa Fb Fc Fd Fe Ff Fg Fh Fi Fj Fk Fl Fm Fo Fp Fq Fr Fs Ft Fv Fw Fx Fy Fz FA FC FD FE FF FG FI FJ FK FL FM FN FO FP FR FS FT FU FV FW FX FY FZ Ga Gb Gc Gd Ge Gf Gg Gh Gi Gj Gk Gm Gn Go Gp Gq Gr Gs:Array (Option Value)}
  {NU:Value} {NV:Option Addr} {NW:Tok} {NX:Nat} {Gu:Array (Option Value)}
  {tk_LONG_BITS:Tok}
  {A_NOUGHT:Addr} {oG_NOUGHT:Option Addr} {k1_NOUGHT k2_NOUGHT:Tok} {nG_NOUGHT:Nat} {slG_NOUGHT:Array (Option Value)}
  {tk_ACROSS:Tok}
  {tk_ALONG:Tok}
  {tk_SIZES:Tok}
  {tk_SPEEDS:Tok}
  {A_ALL:Addr} {oG_ALL:Option Addr} {k1_ALL k2_ALL:Tok} {nG_ALL:Nat} {slG_ALL:Array (Option Value)}
  {A_WORDS:Addr} {oG_WORDS:Option Addr} {k1_WORDS k2_WORDS:Tok} {nG_WORDS:Nat} {slG_WORDS:Array (Option Value)}
  {tk_NEAR_WALL:Tok}
  {tk_FAR_WALL:Tok}
  {tk_MOST_WEIGHT:Tok}
  {tk_MOST_BOXES:Tok}
  {tk_MOST_MOMENTS:Tok}
  (c_KnockError:nsIn K mainGlobals "KnockError"=some (some (.ref C_KnockError)))
  (c_NoBox:nsIn K mainGlobals "NoBox"=some (some (.ref C_NoBox)))
  (c_TooMany:nsIn K mainGlobals "TooMany"=some (some (.ref C_TooMany)))
  (c_NoBody:nsIn K mainGlobals "NoBody"=some (some (.ref C_NoBody)))
  (c_NoMoment:nsIn K mainGlobals "NoMoment"=some (some (.ref C_NoMoment)))
  (c_Overlap:nsIn K mainGlobals "Overlap"=some (some (.ref C_Overlap)))
  (c_NoWorld:nsIn K mainGlobals "NoWorld"=some (some (.ref C_NoWorld)))
  (c_Crowd:nsIn K mainGlobals "Crowd"=some (some (.ref C_Crowd)))
  (c_Plane:nsIn K mainGlobals "Plane"=some (some (.ref C_Plane)))
  (b_isinstance:nsIn K mainGlobals "isinstance"=some none)
  (b_int:nsIn K mainGlobals "int"=some none)
  (b_bool:nsIn K mainGlobals "bool"=some none)
  (b_tuple:nsIn K mainGlobals "tuple"=some none)
  (b_list:nsIn K mainGlobals "list"=some none)
  (b_abs:nsIn K mainGlobals "abs"=some none)
  (b_len:nsIn K mainGlobals "len"=some none)
  (b_divmod:nsIn K mainGlobals "divmod"=some none)
  (b_range:nsIn K mainGlobals "range"=some none)
  (b_max:nsIn K mainGlobals "max"=some none)
  (b_min:nsIn K mainGlobals "min"=some none)
  (b_all:nsIn K mainGlobals "all"=some none)
  (b_any:nsIn K mainGlobals "any"=some none)
  (b_ValueError:nsIn K mainGlobals "ValueError"=some none)
  (b_set:nsIn K mainGlobals "set"=some none)
  (chk:chkN K C_KnockError (clsAt [C_NoBox,C_TooMany,C_NoBody,C_NoMoment,C_Overlap,C_NoWorld,C_Crowd]) 7 4=true)
  (rd:readsIn K C_KnockError (.type "type")=true)
  (fc:findCls K (.ref C_KnockError) (.type "type") "__init__"=some (.val (.builtin "ValueError.__init__")))
  (gs:specialIn K (.ref C_KnockError) "__getattribute__"=some (some (.builtin "type.__getattribute__")))
  (n_Overlap_one:findIn K (.ref C_Overlap) "one"=some none)
  (n_Overlap_other:findIn K (.ref C_Overlap) "other"=some none)
  (n_NoWorld_at:findIn K (.ref C_NoWorld) "at"=some none)
  (n_Crowd_moment:findIn K (.ref C_Crowd) "moment"=some none)
  (n_Crowd_place:findIn K (.ref C_Crowd) "place"=some none)
  (n_Crowd_numbers:findIn K (.ref C_Crowd) "numbers"=some none)
  (s_NoBox_KnockError:subIn K (.ref C_NoBox) (.ref C_KnockError)=some true)
  (s_Overlap_KnockError:subIn K (.ref C_Overlap) (.ref C_KnockError)=some true)
  (s_TooMany_KnockError:subIn K (.ref C_TooMany) (.ref C_KnockError)=some true)
  (pg_Plane:plainGet K C_Plane Str.empty=true)
  (hd_Plane:hasDictIn K C_Plane=true)
  (po_Plane:plainOver K C_Plane=true)
  (sa_Plane:findIn K (.ref C_Plane) "__setattr__"=some (some (.builtin "object.__setattr__")))
  (mk_Plane:makesIn K C_Plane=true)
  (kp_Plane:keepIn K (.ref C_Plane)=true)
  (n_Plane_walls:findIn K (.ref C_Plane) "walls"=some none)
  (n_Plane_goings:findIn K (.ref C_Plane) "goings"=some none)
  (n_Plane_now:findIn K (.ref C_Plane) "now"=some none)
  (n_Plane_gone_through:findIn K (.ref C_Plane) "gone_through"=some none)
  (n_Plane_joints:findIn K (.ref C_Plane) "joints"=some none)
  (n_Plane_coming:findIn K (.ref C_Plane) "coming"=some none)
  (n_Plane_due:findIn K (.ref C_Plane) "due"=some none)
  (i_LONG_BITS:nsIn K mainGlobals "LONG_BITS"=some (some (.int 4000 tk_LONG_BITS)))
  (x_KnockError:excIn K C_KnockError [.type "ValueError",.type "Exception",.type "BaseException",.type "object"] "ValueError.__new__"=true)
  (a_NoBox:kitAny K (.ref C_NoBox) [.ref C_Crowd,.ref C_NoBody,.ref C_NoMoment,.ref C_NoWorld]=some false)
  (a_Overlap:kitAny K (.ref C_Overlap) [.ref C_Crowd,.ref C_NoBody,.ref C_NoMoment,.ref C_NoWorld]=some false)
  (a_TooMany:kitAny K (.ref C_TooMany) [.ref C_Crowd,.ref C_NoBody,.ref C_NoMoment,.ref C_NoWorld]=some false)
  (c_NOUGHT:nsIn K mainGlobals "NOUGHT"=some (some (.ref A_NOUGHT)))
  (z_NOUGHT:K.lookup A_NOUGHT=some ⟨.type "tuple",oG_NOUGHT,.seq #[.int 0 k1_NOUGHT,.int 1 k2_NOUGHT] nG_NOUGHT,slG_NOUGHT⟩)
  (i_ACROSS:nsIn K mainGlobals "ACROSS"=some (some (.int 0 tk_ACROSS)))
  (i_ALONG:nsIn K mainGlobals "ALONG"=some (some (.int 1 tk_ALONG)))
  (i_SIZES:nsIn K mainGlobals "SIZES"=some (some (.int 2 tk_SIZES)))
  (i_SPEEDS:nsIn K mainGlobals "SPEEDS"=some (some (.int 4 tk_SPEEDS)))
  (c_ALL:nsIn K mainGlobals "ALL"=some (some (.ref A_ALL)))
  (z_ALL:K.lookup A_ALL=some ⟨.type "tuple",oG_ALL,.seq #[.int 1 k1_ALL,.int 1 k2_ALL] nG_ALL,slG_ALL⟩)
  (c_WORDS:nsIn K mainGlobals "WORDS"=some (some (.ref A_WORDS)))
  (z_WORDS:K.lookup A_WORDS=some ⟨.type "tuple",oG_WORDS,.seq #[.str "across" k1_WORDS,.str "along" k2_WORDS] nG_WORDS,slG_WORDS⟩)
  (i_NEAR_WALL:nsIn K mainGlobals "NEAR_WALL"=some (some (.int (-1) tk_NEAR_WALL)))
  (i_FAR_WALL:nsIn K mainGlobals "FAR_WALL"=some (some (.int (-2) tk_FAR_WALL)))
  (i_MOST_WEIGHT:nsIn K mainGlobals "MOST_WEIGHT"=some (some (.int 1000 tk_MOST_WEIGHT)))
  (i_MOST_BOXES:nsIn K mainGlobals "MOST_BOXES"=some (some (.int 6 tk_MOST_BOXES)))
  (i_MOST_MOMENTS:nsIn K mainGlobals "MOST_MOMENTS"=some (some (.int 40 tk_MOST_MOMENTS)))
  (a0:findIn K (.ref C_Overlap) "__init__"=some (some (.ref f0)))
  (t0:typeIn K (.ref f0)=some (.type "function"))
  (l0:K.lookup f0=some ⟨MH,Nt,.func (fnOf "__init__" "Overlap.__init__" (zK (jQ (top 8))) (zI (jQ (top 8))) (zD (jQ (top 8))) .none MI MJ MK Nu Iy ML),NM⟩)
  (q0:codeIn K Iy "Overlap.__init__"=true)
  (a1:findIn K (.ref C_NoWorld) "__init__"=some (some (.ref f1)))
  (t1:typeIn K (.ref f1)=some (.type "function"))
  (l1:K.lookup f1=some ⟨MM,Nv,.func (fnOf "__init__" "NoWorld.__init__" (zK (jQ (top 7))) (zI (jQ (top 7))) (zD (jQ (top 7))) .none MN MO MP Nw Iz qp),NN⟩)
  (q1:codeIn K Iz "NoWorld.__init__"=true)
  (a2:findIn K (.ref C_Crowd) "__init__"=some (some (.ref f2)))
  (t2:typeIn K (.ref f2)=some (.type "function"))
  (l2:K.lookup f2=some ⟨MQ,Nx,.func (fnOf "__init__" "Crowd.__init__" (zK (jQ (top 9))) (zI (jQ (top 9))) (zD (jQ (top 9))) .none MR MS MT dS IA qq),iH⟩)
  (q2:codeIn K IA "Crowd.__init__"=true)
  (a3:nsIn K mainGlobals "is_whole"=some (some (.ref f3)))
  (l3:LkF K "is_whole" (top 13) f3 qL Ny MU MV MW Nz IB MY NO)
  (q3:codeIn K IB "is_whole"=true)
  (k3:keepIn K (.ref f3)=true)
  (a4:nsIn K mainGlobals "common_divisor"=some (some (.ref f4)))
  (l4:LkF K "common_divisor" (top 15) f4 MZ NA M0 M1 M2 NB IC M3 NP)
  (q4:codeIn K IC "common_divisor"=true)
  (k4:keepIn K (.ref f4)=true)
  (a5:nsIn K mainGlobals "fraction"=some (some (.ref f5)))
  (l5:K.lookup f5=some ⟨gY,NC,.func (fnOf "fraction" "fraction" (zK (top 17)) (zI (top 17)) (zD (top 17)) (.ref d5) M4 M5 M6 ND ID M7),NQ⟩)
  (q5:codeIn K ID "fraction"=true)
  (k5:keepIn K (.ref f5)=true)
  (g5:K.lookup d5=some ⟨NU,NV,.seq #[.int 1 NW] NX,Gu⟩)
  (a6:nsIn K mainGlobals "plus"=some (some (.ref f6)))
  (l6:LkF K "plus" (top 18) f6 M8 NE M9 Na Nb NF IE Nc qz)
  (q6:codeIn K IE "plus"=true)
  (k6:keepIn K (.ref f6)=true)
  (a7:nsIn K mainGlobals "minus"=some (some (.ref f7)))
  (l7:LkF K "minus" (top 19) f7 Hh NG Nd Nf Ng NH IF Nh NR)
  (q7:codeIn K IF "minus"=true)
  (k7:keepIn K (.ref f7)=true)
  (a8:nsIn K mainGlobals "times"=some (some (.ref f8)))
  (l8:LkF K "times" (top 20) f8 Ni NI Nj Nk Nl NJ IG Nm NS)
  (q8:codeIn K IG "times"=true)
  (k8:keepIn K (.ref f8)=true)
  (a9:nsIn K mainGlobals "over"=some (some (.ref f9)))
  (l9:LkF K "over" (top 21) f9 Nn NK No Np Nq NL IH Nr NT)
  (q9:codeIn K IH "over"=true)
  (k9:keepIn K (.ref f9)=true)
  (gG:nsIn K mainGlobals "under"=some (some (.ref sI)))
  (NY:LkF K "under" (top 22) sI ub CH uc ud ue CI lZ uf E9)
  (hG:codeIn K lZ "under"=true)
  (NZ:keepIn K (.ref sI)=true)
  (gH:nsIn K mainGlobals "far_side"=some (some (.ref sJ)))
  (N0:LkF K "far_side" (top 43) sJ ug CJ uh ui uj CL ma uk Fa)
  (hI:codeIn K ma "far_side"=true)
  (N1:keepIn K (.ref sJ)=true)
  (gI:nsIn K mainGlobals "have_in_common"=some (some (.ref iT)))
  (N2:LkF K "have_in_common" (top 45) iT hX CM ul um uo CN mh uq Fb)
  (dm:codeIn K mh "have_in_common"=true)
  (N3:keepIn K (.ref iT)=true)
  (gJ:nsIn K mainGlobals "touches"=some (some (.ref sK)))
  (N4:LkF K "touches" (top 47) sK ur CO ut uu uv CP mi uw Fc)
  (eC:codeIn K mi "touches"=true)
  (N5:keepIn K (.ref sK)=true)
  (gK:nsIn K mainGlobals "are_beside"=some (some (.ref sL)))
  (N6:LkF K "are_beside" (top 48) sL ux CQ uy uz uA CS mj uB Fd)
  (fA:codeIn K mj "are_beside"=true)
  (qO:keepIn K (.ref sL)=true)
  (gL:nsIn K mainGlobals "are_at_a_corner"=some (some (.ref sM)))
  (N7:LkF K "are_at_a_corner" (top 49) sM uC CT uD uE uF CU ml uG Fe)
  (o8:codeIn K ml "are_at_a_corner"=true)
  (N8:keepIn K (.ref sM)=true)
  (gM:nsIn K mainGlobals "place_at"=some (some (.ref sN)))
  (N9:LkF K "place_at" (top 28) sN uH CV uI uJ uK CW mn uL Ff)
  (iC:codeIn K mn "place_at"=true)
  (Oa:keepIn K (.ref sN)=true)
  (gO:nsIn K mainGlobals "box_at"=some (some (.ref sO)))
  (sA:LkF K "box_at" (top 50) sO uM CY uN uO uP CZ mr uQ Fg)
  (o9:codeIn K mr "box_at"=true)
  (Ob:keepIn K (.ref sO)=true)
  (gP:nsIn K mainGlobals "near_going"=some (some (.ref sP)))
  (Oc:LkF K "near_going" (top 51) sP uR C0 uS uT uU C1 mv uV Fh)
  (pd:codeIn K mv "near_going"=true)
  (Od:keepIn K (.ref sP)=true)
  (Oe:nsIn K mainGlobals "far_going"=some (some (.ref sQ)))
  (Of:LkF K "far_going" (top 52) sQ uW C2 uX uY uZ C3 mw va Fi)
  (pe:codeIn K mw "far_going"=true)
  (Og:keepIn K (.ref sQ)=true)
  (Oh:nsIn K mainGlobals "with_near_going"=some (some (.ref sR)))
  (Oi:LkF K "with_near_going" (top 53) sR vc C4 vd ve vf C5 mx vg Fj)
  (iD:codeIn K mx "with_near_going"=true)
  (Oj:keepIn K (.ref sR)=true)
  (Ol:nsIn K mainGlobals "with_far_going"=some (some (.ref sS)))
  (Om:LkF K "with_far_going" (top 54) sS vh C6 vk vn vp C7 my vq Fk)
  (On:codeIn K my "with_far_going"=true)
  (Oo:keepIn K (.ref sS)=true)
  (Op:nsIn K mainGlobals "mixed"=some (some (.ref sT)))
  (Oq:LkF K "mixed" (top 30) sT vt C8 vv vw vx C9 mz vy Fl)
  (pq:codeIn K mz "mixed"=true)
  (Os:keepIn K (.ref sT)=true)
  (Ot:nsIn K mainGlobals "behind"=some (some (.ref sU)))
  (Ou:LkF K "behind" (top 31) sU vz Db vA vB vC Dc mD vD Fm)
  (pA:codeIn K mD "behind"=true)
  (Ov:keepIn K (.ref sU)=true)
  (Ow:nsIn K mainGlobals "turned_about"=some (some (.ref sV)))
  (Ox:LkF K "turned_about" (top 56) sV vE Dd vF vG vH De mE vI Fo)
  (pB:codeIn K mE "turned_about"=true)
  (qP:keepIn K (.ref sV)=true)
  (Oy:nsIn K mainGlobals "parted"=some (some (.ref sW)))
  (sB:LkF K "parted" (top 67) sW vJ Dg vK vL vM Dh mF vN Fp)
  (pD:codeIn K mF "parted"=true)
  (Oz:keepIn K (.ref sW)=true)
  (OA:nsIn K mainGlobals "joint_moment"=some (some (.ref sX)))
  (OB:LkF K "joint_moment" (top 29) sX vO Di vP vQ vR Dj mG vS Fq)
  (pE:codeIn K mG "joint_moment"=true)
  (OC:keepIn K (.ref sX)=true)
  (OD:findIn K (.ref C_Plane) "one_of"=some (some (.ref pN)))
  (OE:isFn K (.ref pN)=true)
  (OF:K.lookup pN=some ⟨vT,Dk,.func (fnOf "one_of" "Plane.one_of" (zK (zQ (top 69) 1)) (zI (zQ (top 69) 1)) (zD (zQ (top 69) 1)) .none vU vV vW Dl mH vX),Fr⟩)
  (pF:codeIn K mH "Plane.one_of"=true)
  (OG:keepIn K (.ref pN)=true)
  (OH:findIn K (.ref C_Plane) "other_of"=some (some (.ref pO)))
  (OI:isFn K (.ref pO)=true)
  (OJ:K.lookup pO=some ⟨vY,Dm,.func (fnOf "other_of" "Plane.other_of" (zK (zQ (top 69) 2)) (zI (zQ (top 69) 2)) (zD (zQ (top 69) 2)) .none vZ v7 v8 Dn mI v9),Fs⟩)
  (pG:codeIn K mI "Plane.other_of"=true)
  (OK:keepIn K (.ref pO)=true)
  (OL:findIn K (.ref C_Plane) "joint_of"=some (some (.ref pP)))
  (OM:isFn K (.ref pP)=true)
  (sD:K.lookup pP=some ⟨wc,Do,.func (fnOf "joint_of" "Plane.joint_of" (zK (zQ (top 69) 3)) (zI (zQ (top 69) 3)) (zD (zQ (top 69) 3)) .none we wf wg Dq mJ wj),Ft⟩)
  (pI:codeIn K mJ "Plane.joint_of"=true)
  (ON:keepIn K (.ref pP)=true)
  (OO:findIn K (.ref C_Plane) "meet_at"=some (some (.ref pQ)))
  (OP:isFn K (.ref pQ)=true)
  (OQ:K.lookup pQ=some ⟨wk,Dr,.func (fnOf "meet_at" "Plane.meet_at" (zK (zQ (top 69) 8)) (zI (zQ (top 69) 8)) (zD (zQ (top 69) 8)) .none wn wo wp Ds mK wq),Fv⟩)
  (pJ:codeIn K mK "Plane.meet_at"=true)
  (OR:keepIn K (.ref pQ)=true)
  (OS:findIn K (.ref C_Plane) "close_at_a_corner"=some (some (.ref pR)))
  (OT:isFn K (.ref pR)=true)
  (OU:K.lookup pR=some ⟨wr,Dt,.func (fnOf "close_at_a_corner" "Plane.close_at_a_corner" (zK (zQ (top 69) 9)) (zI (zQ (top 69) 9)) (zD (zQ (top 69) 9)) .none wu ww wx Du mL wy),Fw⟩)
  (pL:codeIn K mL "Plane.close_at_a_corner"=true)
  (OV:keepIn K (.ref pR)=true)
  (OW:findIn K (.ref C_Plane) "is_sooner"=some (some (.ref pS)))
  (OX:isFn K (.ref pS)=true)
  (OY:K.lookup pS=some ⟨wA,Dv,.func (fnOf "is_sooner" "Plane.is_sooner" (zK (zQ (top 69) 6)) (zI (zQ (top 69) 6)) (zD (zQ (top 69) 6)) .none wB wC wD Dw mM wE),Fx⟩)
  (OZ:codeIn K mM "Plane.is_sooner"=true)
  (O0:keepIn K (.ref pS)=true)
  (O1:findIn K (.ref C_Plane) "is_coming"=some (some (.ref pT)))
  (O2:isFn K (.ref pT)=true)
  (O3:K.lookup pT=some ⟨wF,Dx,.func (fnOf "is_coming" "Plane.is_coming" (zK (zQ (top 69) 7)) (zI (zQ (top 69) 7)) (zD (zQ (top 69) 7)) .none wG wH wI Dy mO wJ),Fy⟩)
  (O4:codeIn K mO "Plane.is_coming"=true)
  (O5:keepIn K (.ref pT)=true)
  (O6:findIn K (.ref C_Plane) "look_ahead"=some (some (.ref pU)))
  (O7:isFn K (.ref pU)=true)
  (O8:K.lookup pU=some ⟨wK,Dz,.func (fnOf "look_ahead" "Plane.look_ahead" (zK (zQ (top 69) 5)) (zI (zQ (top 69) 5)) (zD (zQ (top 69) 5)) .none wL wM wN DA mP wO),Fz⟩)
  (O9:codeIn K mP "Plane.look_ahead"=true)
  (oC:keepIn K (.ref pU)=true)
  (Pa:findIn K (.ref C_Plane) "bodies_at"=some (some (.ref pV)))
  (Pb:isFn K (.ref pV)=true)
  (Pc:K.lookup pV=some ⟨wP,DB,.func (fnOf "bodies_at" "Plane.bodies_at" (zK (zQ (top 69) 4)) (zI (zQ (top 69) 4)) (zD (zQ (top 69) 4)) .none wQ wR wS DC mQ wT),FA⟩)
  (Pd:codeIn K mQ "Plane.bodies_at"=true)
  (Pe:keepIn K (.ref pV)=true)
  (Pf:findIn K (.ref C_Plane) "meetings"=some (some (.ref pW)))
  (Pg:isFn K (.ref pW)=true)
  (Ph:K.lookup pW=some ⟨wU,DD,.func (fnOf "meetings" "Plane.meetings" (zK (zQ (top 69) 10)) (zI (zQ (top 69) 10)) (zD (zQ (top 69) 10)) .none wW wX wY DE mR wZ),FC⟩)
  (Pi:codeIn K mR "Plane.meetings"=true)
  (Pj:keepIn K (.ref pW)=true)
  (Pk:findIn K (.ref C_Plane) "boxes_met"=some (some (.ref pX)))
  (Pl:isFn K (.ref pX)=true)
  (Pn:K.lookup pX=some ⟨w5,DF,.func (fnOf "boxes_met" "Plane.boxes_met" (zK (zQ (top 69) 11)) (zI (zQ (top 69) 11)) (zD (zQ (top 69) 11)) .none w6 w9 xa DG mS xb),FD⟩)
  (Po:codeIn K mS "Plane.boxes_met"=true)
  (Pp:keepIn K (.ref pX)=true)
  (Pq:findIn K (.ref C_Plane) "has_two_meetings"=some (some (.ref pY)))
  (Ps:isFn K (.ref pY)=true)
  (Pt:K.lookup pY=some ⟨xf,DH,.func (fnOf "has_two_meetings" "Plane.has_two_meetings" (zK (zQ (top 69) 13)) (zI (zQ (top 69) 13)) (zD (zQ (top 69) 13)) .none xg xh xi DI mT xj),FE⟩)
  (Pu:codeIn K mT "Plane.has_two_meetings"=true)
  (Pw:keepIn K (.ref pY)=true)
  (Px:findIn K (.ref C_Plane) "is_hemmed_in"=some (some (.ref pZ)))
  (Py:isFn K (.ref pZ)=true)
  (Pz:K.lookup pZ=some ⟨xk,DJ,.func (fnOf "is_hemmed_in" "Plane.is_hemmed_in" (zK (zQ (top 69) 14)) (zI (zQ (top 69) 14)) (zD (zQ (top 69) 14)) .none xl xm xn DK mU xo),FF⟩)
  (PB:codeIn K mU "Plane.is_hemmed_in"=true)
  (PC:keepIn K (.ref pZ)=true)
  (PD:findIn K (.ref C_Plane) "has_a_corner"=some (some (.ref qa)))
  (PF:isFn K (.ref qa)=true)
  (PJ:K.lookup qa=some ⟨xp,DL,.func (fnOf "has_a_corner" "Plane.has_a_corner" (zK (zQ (top 69) 15)) (zI (zQ (top 69) 15)) (zD (zQ (top 69) 15)) .none xt xu xv DM mV xw),FG⟩)
  (PK:codeIn K mV "Plane.has_a_corner"=true)
  (PL:keepIn K (.ref qa)=true)
  (PM:findIn K (.ref C_Plane) "is_crowded"=some (some (.ref qb)))
  (PN:isFn K (.ref qb)=true)
  (PP:K.lookup qb=some ⟨xx,DN,.func (fnOf "is_crowded" "Plane.is_crowded" (zK (zQ (top 69) 12)) (zI (zQ (top 69) 12)) (zD (zQ (top 69) 12)) .none xy xz xA DO mW xB),FI⟩)
  (PQ:codeIn K mW "Plane.is_crowded"=true)
  (PR:keepIn K (.ref qb)=true)
  (PU:findIn K (.ref C_Plane) "part"=some (some (.ref f42)))
  (PV:isFn K (.ref f42)=true)
  (PX:K.lookup f42=some ⟨xC,DP,.func (fnOf "part" "Plane.part" (zK (zQ (top 69) 17)) (zI (zQ (top 69) 17)) (zD (zQ (top 69) 17)) .none xD xE xF DQ mX xG),FJ⟩)
  (PY:codeIn K mX "Plane.part"=true)
  (PZ:keepIn K (.ref f42)=true)
  (P0:findIn K (.ref C_Plane) "go_on"=some (some (.ref qc)))
  (P1:isFn K (.ref qc)=true)
  (P2:K.lookup qc=some ⟨xH,DR,.func (fnOf "go_on" "Plane.go_on" (zK (zQ (top 69) 16)) (zI (zQ (top 69) 16)) (zD (zQ (top 69) 16)) .none xI xJ xL DS mY xM),FK⟩)
  (P3:codeIn K mY "Plane.go_on"=true)
  (P4:keepIn K (.ref qc)=true)
  (P5:nsIn K mainGlobals "walls_of"=some (some (.ref sY)))
  (P6:LkF K "walls_of" (top 66) sY xN DT xO xP xQ DU mZ xR FL)
  (P7:codeIn K mZ "walls_of"=true)
  (P8:keepIn K (.ref sY)=true)
  (P9:nsIn K mainGlobals "all_pairs"=some (some (.ref sZ)))
  (Qa:LkF K "all_pairs" (top 68) sZ xS DV xT xU xV DW m5 xW FM)
  (Qb:codeIn K m5 "all_pairs"=true)
  (Qc:keepIn K (.ref sZ)=true)
  (Qd:findIn K (.ref C_Plane) "__init__"=some (some (.ref qd)))
  (Qe:isFn K (.ref qd)=true)
  (Qf:K.lookup qd=some ⟨xX,DX,.func (fnOf "__init__" "Plane.__init__" (zK (zQ (top 69) 0)) (zI (zQ (top 69) 0)) (zD (zQ (top 69) 0)) .none xY xZ x8 DY m6 x9),FN⟩)
  (Qg:codeIn K m6 "Plane.__init__"=true)
  (Qh:keepIn K (.ref qd)=true)
  (Qi:nsIn K mainGlobals "end_word"=some (some (.ref tf)))
  (Qj:LkF K "end_word" (top 58) tf Aa DZ Ab Ac Ad Ea m7 Ae FO)
  (Qk:codeIn K m7 "end_word"=true)
  (Ql:keepIn K (.ref tf)=true)
  (Qm:nsIn K mainGlobals "run_along"=some (some (.ref tj)))
  (Qn:LkF K "run_along" (top 59) tj Af Eb Ag Ah Ai Ec m9 Aj FP)
  (Qo:codeIn K m9 "run_along"=true)
  (Qp:keepIn K (.ref tj)=true)
  (Qq:nsIn K mainGlobals "is_fraction"=some (some (.ref tm)))
  (Qr:LkF K "is_fraction" (top 16) tm Ak Ed Al Am An Ee nc Ao FR)
  (Qs:codeIn K nc "is_fraction"=true)
  (Qt:keepIn K (.ref tm)=true)
  (Qu:nsIn K mainGlobals "is_breadth"=some (some (.ref tu)))
  (Qv:LkF K "is_breadth" (top 40) tu Ap Ef Aq As At Eg nh Au FS)
  (Qw:codeIn K nh "is_breadth"=true)
  (Qx:keepIn K (.ref tu)=true)
  (Qy:nsIn K mainGlobals "is_weight"=some (some (.ref tw)))
  (Qz:LkF K "is_weight" (top 34) tw Av Eh Aw Ax Ay Ei ni Az FT)
  (QA:codeIn K ni "is_weight"=true)
  (QB:keepIn K (.ref tw)=true)
  (QC:nsIn K mainGlobals "is_box"=some (some (.ref tz)))
  (QD:LkF K "is_box" (top 41) tz AA Ej AB AC AD Ek nk AE FU)
  (QE:codeIn K nk "is_box"=true)
  (QF:keepIn K (.ref tz)=true)
  (QG:nsIn K mainGlobals "is_room"=some (some (.ref tD)))
  (QH:LkF K "is_room" (top 42) tD AF El AG AH AI Em nr AJ FV)
  (QI:codeIn K nr "is_room"=true)
  (QJ:keepIn K (.ref tD)=true)
  (QK:nsIn K mainGlobals "is_within"=some (some (.ref tE)))
  (QL:LkF K "is_within" (top 44) tE AK En AL AM AN Eo nv AO FW)
  (QM:codeIn K nv "is_within"=true)
  (QN:keepIn K (.ref tE)=true)
  (QO:nsIn K mainGlobals "overlap"=some (some (.ref tF)))
  (QP:LkF K "overlap" (top 46) tF AQ Ep AR AS AT Es ny AU FX)
  (QQ:codeIn K ny "overlap"=true)
  (QR:keepIn K (.ref tF)=true)
  (QS:nsIn K mainGlobals "refuse_boxes"=some (some (.ref tG)))
  (QT:LkF K "refuse_boxes" (top 65) tG AV Et AW AX AY Eu nA AZ FY)
  (QU:codeIn K nA "refuse_boxes"=true)
  (QV:keepIn K (.ref tG)=true)
  (QW:nsIn K mainGlobals "refuse_number_of_moments"=some (some (.ref tH)))
  (QX:LkF K "refuse_number_of_moments" (top 27) tH A0 Ev A1 A2 A3 Ew nC A4 FZ)
  (QY:codeIn K nC "refuse_number_of_moments"=true)
  (QZ:keepIn K (.ref tH)=true)
  (Q0:nsIn K mainGlobals "run_in"=some (some (.ref tJ)))
  (Q2:LkF K "run_in" (top 70) tJ A5 Ex A6 A7 A8 Ey nD A9 Ga)
  (Q3:codeIn K nD "run_in"=true)
  (Q4:keepIn K (.ref tJ)=true)
  (Q5:nsIn K mainGlobals "_law_cell"=some (some (.ref tK)))
  (Q6:LkF K "_law_cell" (top 72) tK Ba Ez Bb Bc Be EA nE Bf Gb)
  (Q7:codeIn K nE "_law_cell"=true)
  (Q8:keepIn K (.ref tK)=true)
  (Q9:nsIn K mainGlobals "_law_mix"=some (some (.ref tL)))
  (G7:LkF K "_law_mix" (top 73) tL Bg EB Bh Bi Bj EC nF Bk Gc)
  (Ra:codeIn K nF "_law_mix"=true)
  (Rb:keepIn K (.ref tL)=true)
  (Rc:nsIn K mainGlobals "_law_box"=some (some (.ref tM)))
  (Re:LkF K "_law_box" (top 74) tM Bl ED Bm Bn Bo EE nG Bp Gd)
  (Rf:codeIn K nG "_law_box"=true)
  (Rg:keepIn K (.ref tM)=true)
  (Rh:nsIn K mainGlobals "_law_take"=some (some (.ref tN)))
  (Ri:LkF K "_law_take" (top 75) tN Br EF Bs Bt Bu EG nH Bv Ge)
  (Rj:codeIn K nH "_law_take"=true)
  (Rk:keepIn K (.ref tN)=true)
  (Rl:nsIn K mainGlobals "_law_fit"=some (some (.ref tO)))
  (Rm:LkF K "_law_fit" (top 76) tO Bw EH By Bz BA EI nI BB Gf)
  (Rn:codeIn K nI "_law_fit"=true)
  (Ro:keepIn K (.ref tO)=true)
  (Rp:nsIn K mainGlobals "_law_plus"=some (some (.ref tP)))
  (qH:LkF K "_law_plus" (top 77) tP BC EJ BD BE BF EK nJ BG Gg)
  (Rq:codeIn K nJ "_law_plus"=true)
  (Rr:keepIn K (.ref tP)=true)
  (Rs:nsIn K mainGlobals "_law_minus"=some (some (.ref tQ)))
  (Ru:LkF K "_law_minus" (top 78) tQ BI EL BJ BK BL EM nK BM Gh)
  (Rv:codeIn K nK "_law_minus"=true)
  (Rw:keepIn K (.ref tQ)=true)
  (Rx:nsIn K mainGlobals "_law_less"=some (some (.ref tR)))
  (Ry:LkF K "_law_less" (top 79) tR BN EN BO BP BQ EO nL BR Gi)
  (Rz:codeIn K nL "_law_less"=true)
  (RA:keepIn K (.ref tR)=true)
  (RB:nsIn K mainGlobals "_law_room"=some (some (.ref tS)))
  (RC:LkF K "_law_room" (top 81) tS BS EQ BT BU BV ER nM BW Gj)
  (RD:codeIn K nM "_law_room"=true)
  (RE:keepIn K (.ref tS)=true)
  (RF:nsIn K mainGlobals "_law_apart"=some (some (.ref tT)))
  (RG:LkF K "_law_apart" (top 82) tT BX ES BY BZ B0 ET nN B1 Gk)
  (RH:codeIn K nN "_law_apart"=true)
  (RI:keepIn K (.ref tT)=true)
  (RJ:nsIn K mainGlobals "_law_boxes"=some (some (.ref tU)))
  (RK:LkF K "_law_boxes" (top 83) tU B2 EU B5 B6 B7 EV nO B8 Gm)
  (RL:codeIn K nO "_law_boxes"=true)
  (RM:keepIn K (.ref tU)=true)
  (RN:nsIn K mainGlobals "_law_told"=some (some (.ref tV)))
  (RO:LkF K "_law_told" (top 84) tV B9 EW Ca Cb Cc EX nP Cd Gn)
  (RP:codeIn K nP "_law_told"=true)
  (RQ:keepIn K (.ref tV)=true)
  (RS:nsIn K mainGlobals "_law_first_over"=some (some (.ref tW)))
  (RT:LkF K "_law_first_over" (top 85) tW Ce EY Cf Cg Ch EZ nQ Ci Go)
  (RU:codeIn K nQ "_law_first_over"=true)
  (oi:keepIn K (.ref tW)=true)
  (RV:nsIn K mainGlobals "_law_beyond"=some (some (.ref tX)))
  (RW:LkF K "_law_beyond" (top 86) tX Cj E1 Ck Cl Cm E2 nR Cn Gp)
  (RX:codeIn K nR "_law_beyond"=true)
  (RY:keepIn K (.ref tX)=true)
  (RZ:nsIn K mainGlobals "_law_odd"=some (some (.ref tY)))
  (R0:LkF K "_law_odd" (top 80) tY Co E3 Cp Cq Cr E4 nU Ct Gq)
  (R1:codeIn K nU "_law_odd"=true)
  (R3:keepIn K (.ref tY)=true)
  (R4:nsIn K mainGlobals "_law_none"=some (some (.ref tZ)))
  (R5:LkF K "_law_none" (top 87) tZ Cu E5 Cv Cw Cy E6 nV Cz Gr)
  (R6:codeIn K nV "_law_none"=true)
  (R7:keepIn K (.ref tZ)=true)
  (II:nsIn K mainGlobals "law"=some (some (.ref ua)))
  (IJ:LkF K "law" (top 88) ua CB E7 CC CD CF E8 nW CG Gs)
  (oX:codeIn K nW "law"=true)
  (R8:keepIn K (.ref ua)=true) :
  ∃ fa,mg "law"=some (.ref fa)/\∃ fd:FuncData,(∀ (s:Shared) (u:Value),BindsTo s fd ⟨[u],[]⟩ [("script",u)])/\∀ base:Heap,K.In base->base.Ns mainGlobals mg->FnOk P w K mg base (CXE P w) 12 fa fd ["script"] (spLaw K):=by
 have T:Tx K mg C_KnockError (clsAt [C_NoBox,C_TooMany,C_NoBody,C_NoMoment,C_Overlap,C_NoWorld,C_Crowd,C_Plane]):=⟨mg_none_of X G b_isinstance,mg_none_of X G b_int,mg_none_of X G b_bool,mg_none_of X G b_tuple,mg_none_of X G b_list,mg_none_of X G b_abs,mg_none_of X G b_len,mg_none_of X G b_divmod,mg_none_of X G b_range,mg_none_of X G b_max,mg_none_of X G b_min,mg_none_of X G b_all,mg_none_of X G b_any,mg_none_of X G b_ValueError,mg_none_of X G b_set,mg_of X G c_KnockError,mg_of X G c_NoBox,mg_of X G c_TooMany,mg_of X G c_NoBody,mg_of X G c_NoMoment,mg_of X G c_Overlap,mg_of X G c_NoWorld,mg_of X G c_Crowd,refs_ok chk,rd,fc,gs,n_Overlap_one,n_Overlap_other,n_NoWorld_at,n_Crowd_moment,n_Crowd_place,n_Crowd_numbers,s_NoBox_KnockError,s_Overlap_KnockError,s_TooMany_KnockError,mg_of X G c_Plane,⟨pg_Plane,hd_Plane,po_Plane,sa_Plane⟩,mk_Plane,kp_Plane,n_Plane_walls,n_Plane_goings,n_Plane_now,n_Plane_gone_through,n_Plane_joints,n_Plane_coming,n_Plane_due,⟨_,mg_of X G i_LONG_BITS⟩,x_KnockError,a_NoBox,a_Overlap,a_TooMany,⟨_,mg_of X G c_NOUGHT,sqt_const z_NOUGHT⟩,⟨_,mg_of X G i_ACROSS⟩,⟨_,mg_of X G i_ALONG⟩,⟨_,mg_of X G i_SIZES⟩,⟨_,mg_of X G i_SPEEDS⟩,⟨_,mg_of X G c_ALL,sqt_const z_ALL⟩,⟨_,mg_of X G c_WORDS,sqt2 z_WORDS⟩,⟨_,mg_of X G i_NEAR_WALL⟩,⟨_,mg_of X G i_FAR_WALL⟩,⟨_,mg_of X G i_MOST_WEIGHT⟩,⟨_,mg_of X G i_MOST_BOXES⟩,⟨_,mg_of X G i_MOST_MOMENTS⟩⟩;have D0:=dfi_mk (ps:=["self","one","other"]) a0 t0 l0 q0 T.o_Overlap T.p_Overlap (len3 λ_ _ _=>rfl)
 have D1:=dfi_mk (ps:=["self","at"]) a1 t1 l1 q1 T.o_NoWorld T.p_NoWorld (len2 λ_ _=>rfl)
 have D2:=dfi_mk (ps:=["self","moment","place","numbers"]) a2 t2 l2 q2 T.o_Crowd T.p_Crowd (len4 λ_ _ _ _=>rfl)
 have D3:=za (ps:=["thing"]) X G a3 l3 q3 k3 (len1 λ_=>rfl)
 have D4:=za (ps:=["one","other"]) X G a4 l4 q4 k4 (len2 λ_ _=>rfl)
 have D5:=df_mkD (ps:=["top","bottom"]) X G a5 l5 q5 k5 g5 (len2 λ_ _=>⟨_,rfl,rfl⟩)
 have D6:=za (ps:=["one","other"]) X G a6 l6 q6 k6 (len2 λ_ _=>rfl)
 have D7:=za (ps:=["one","other"]) X G a7 l7 q7 k7 (len2 λ_ _=>rfl)
 have D8:=za (ps:=["one","other"]) X G a8 l8 q8 k8 (len2 λ_ _=>rfl)
 have D9:=za (ps:=["one","other"]) X G a9 l9 q9 k9 (len2 λ_ _=>rfl)
 have R9:=za (ps:=["one","other"]) X G gG NY hG NZ (len2 λ_ _=>rfl)
 have Sa:=za (ps:=["box","way"]) X G gH N0 hI N1 (len2 λ_ _=>rfl)
 have Sb:=za (ps:=["one","other","way"]) X G gI N2 dm N3 (len3 λ_ _ _=>rfl)
 have Sc:=za (ps:=["one","other","way"]) X G gJ N4 eC N5 (len3 λ_ _ _=>rfl)
 have Sd:=za (ps:=["one","other","way"]) X G gK N6 fA qO (len3 λ_ _ _=>rfl)
 have Se:=za (ps:=["one","other"]) X G gL N7 o8 N8 (len2 λ_ _=>rfl)
 have Sf:=za (ps:=["body","moment"]) X G gM N9 iC Oa (len2 λ_ _=>rfl)
 have Sg:=za (ps:=["box","moment"]) X G gO sA o9 Ob (len2 λ_ _=>rfl)
 have Sh:=za (ps:=["box","way"]) X G gP Oc pd Od (len2 λ_ _=>rfl)
 have Si:=za (ps:=["box","way"]) X G Oe Of pe Og (len2 λ_ _=>rfl)
 have Sj:=za (ps:=["box","way","going"]) X G Oh Oi iD Oj (len3 λ_ _ _=>rfl)
 have Sk:=za (ps:=["box","way","going"]) X G Ol Om On Oo (len3 λ_ _ _=>rfl)
 have Sl:=za (ps:=["own","far","weight","mass","share"]) X G Op Oq pq Os (len5 λ_ _ _ _ _=>rfl)
 have Sm:=za (ps:=["one","other","share"]) X G Ot Ou pA Ov (len3 λ_ _ _=>rfl)
 have Sn:=za (ps:=["number"]) X G Ow Ox pB qP (len1 λ_=>rfl)
 have So:=za (ps:=["own","far"]) X G Oy sB pD Oz (len2 λ_ _=>rfl)
 have Sq:=za (ps:=["one","other"]) X G OA OB pE OC (len2 λ_ _=>rfl)
 have Sr:=yL (ps:=["self","pair","boxes"]) OD OE OF pF OG (len3 λ_ _ _=>rfl)
 have Ss:=yL (ps:=["self","pair","boxes"]) OH OI OJ pG OK (len3 λ_ _ _=>rfl)
 have Su:=yL (ps:=["self","pair"]) OL OM sD pI ON (len2 λ_ _=>rfl)
 have Sv:=yL (ps:=["self","pair","moment"]) OO OP OQ pJ OR (len3 λ_ _ _=>rfl)
 have Sw:=yL (ps:=["self","pair"]) OS OT OU pL OV (len2 λ_ _=>rfl)
 have Sx:=yL (ps:=["self","moment"]) OW OX OY OZ O0 (len2 λ_ _=>rfl)
 have Sy:=yL (ps:=["self","pair"]) O1 O2 O3 O4 O5 (len2 λ_ _=>rfl)
 have Sz:=yL (ps:=["self"]) O6 O7 O8 O9 oC (len1 λ_=>rfl)
 have SA:=yL (ps:=["self","moment"]) Pa Pb Pc Pd Pe (len2 λ_ _=>rfl)
 have SB:=yL (ps:=["self"]) Pf Pg Ph Pi Pj (len1 λ_=>rfl)
 have SC:=yL (ps:=["self"]) Pk Pl Pn Po Pp (len1 λ_=>rfl)
 have SD:=yL (ps:=["self"]) Pq Ps Pt Pu Pw (len1 λ_=>rfl)
 have SE:=yL (ps:=["self","boxes"]) Px Py Pz PB PC (len2 λ_ _=>rfl)
 have SF:=yL (ps:=["self","boxes"]) PD PF PJ PK PL (len2 λ_ _=>rfl)
 have SG:=yL (ps:=["self"]) PM PN PP PQ PR (len1 λ_=>rfl)
 have SH:=yL (ps:=["self","pair"]) PU PV PX PY PZ (len2 λ_ _=>rfl)
 have SI:=yL (ps:=["self"]) P0 P1 P2 P3 P4 (len1 λ_=>rfl)
 have SJ:=za (ps:=["room"]) X G P5 P6 P7 P8 (len1 λ_=>rfl)
 have SK:=za (ps:=["count"]) X G P9 Qa Qb Qc (len1 λ_=>rfl)
 have SL:=yL (ps:=["self","room","boxes"]) Qd Qe Qf Qg Qh (len3 λ_ _ _=>rfl)
 have SM:=za (ps:=["course","most"]) X G Qi Qj Qk Ql (len2 λ_ _=>rfl)
 have SN:=za (ps:=["course","most"]) X G Qm Qn Qo Qp (len2 λ_ _=>rfl)
 have SO:=za (ps:=["thing"]) X G Qq Qr Qs Qt (len1 λ_=>rfl)
 have SQ:=za (ps:=["thing"]) X G Qu Qv Qw Qx (len1 λ_=>rfl)
 have SR:=za (ps:=["thing"]) X G Qy Qz QA QB (len1 λ_=>rfl)
 have SS:=za (ps:=["thing"]) X G QC QD QE QF (len1 λ_=>rfl)
 have ST:=za (ps:=["thing"]) X G QG QH QI QJ (len1 λ_=>rfl)
 have SU:=za (ps:=["box","room"]) X G QK QL QM QN (len2 λ_ _=>rfl)
 have SV:=za (ps:=["one","other"]) X G QO QP QQ QR (len2 λ_ _=>rfl)
 have SW:=za (ps:=["room","boxes"]) X G QS QT QU QV (len2 λ_ _=>rfl)
 have SX:=za (ps:=["most"]) X G QW QX QY QZ (len1 λ_=>rfl)
 have SY:=za (ps:=["room","boxes","most"]) X G Q0 Q2 Q3 Q4 (len3 λ_ _ _=>rfl)
 have SZ:=za (ps:=["script","k"]) X G Q5 Q6 Q7 Q8 (len2 λ_ _=>rfl)
 have S0:=za (ps:=["cell","k"]) X G Q9 G7 Ra Rb (len2 λ_ _=>rfl)
 have S1:=za (ps:=["script","k"]) X G Rc Re Rf Rg (len2 λ_ _=>rfl)
 have S2:=za (ps:=["box","many"]) X G Rh Ri Rj Rk (len2 λ_ _=>rfl)
 have S3:=za (ps:=["top","bottom"]) X G Rl Rm Rn Ro (len2 λ_ _=>rfl)
 have S4:=za (ps:=["one","other"]) X G Rp qH Rq Rr (len2 λ_ _=>rfl)
 have S5:=za (ps:=["one","other"]) X G Rs Ru Rv Rw (len2 λ_ _=>rfl)
 have S6:=za (ps:=["one","other"]) X G Rx Ry Rz RA (len2 λ_ _=>rfl)
 have S7:=za (ps:=["box"]) X G RB RC RD RE (len1 λ_=>rfl)
 have S8:=za (ps:=["one","other"]) X G RF RG RH RI (len2 λ_ _=>rfl)
 have S9:=za (ps:=["box","room"]) X G RJ RK RL RM (len2 λ_ _=>rfl)
 have Ta:=za (ps:=["room","boxes","most"]) X G RN RO RP RQ (len3 λ_ _ _=>rfl)
 have Tb:=za (ps:=["boxes"]) X G RS RT RU oi (len1 λ_=>rfl)
 have Tc:=za (ps:=["box","room","one"]) X G RV RW RX RY (len3 λ_ _ _=>rfl)
 have Td:=za (ps:=["box"]) X G RZ R0 R1 R3 (len1 λ_=>rfl)
 have Te:=za (ps:=["box","room","boxes","odd"]) X G R4 R5 R6 R7 (len4 λ_ _ _ _=>rfl)
 have Tf:=za (ps:=["script"]) X G II IJ oX R8 (len1 λ_=>rfl)
 refine law_end X G II IJ (λ_=>rfl) λbase kb nb=>?_
 have F0:=ok_Overlap___init__ (P:=P) (w:=w) (base:=base) D0 T;have F1:=ok_NoWorld___init__ (P:=P) (w:=w) (base:=base) D1 T;have F2:=ok_Crowd___init__ (P:=P) (w:=w) (base:=base) D2 T;have F3:=ok_is_whole (P:=P) (w:=w) (base:=base) D3 T;have F4:=ok_common_divisor (P:=P) (w:=w) (base:=base) D4 T;have F5:=ok_fraction (P:=P) (w:=w) (base:=base) D5 T F3 F4;have F6:=ok_plus (P:=P) (w:=w) (base:=base) D6 T F4;have F7:=ok_minus (P:=P) (w:=w) (base:=base) D7 T F6;have F8:=ok_times (P:=P) (w:=w) (base:=base) D8 T F4;have F9:=ok_over (P:=P) (w:=w) (base:=base) D9 T F8;have qe:=ok_under (P:=P) (w:=w) (base:=base) R9 T;have qf:=ok_far_side (P:=P) (w:=w) (base:=base) Sa T F6;have Gv:=ok_have_in_common (P:=P) (w:=w) (base:=base) Sb T qe qf;have IK:=ok_touches (P:=P) (w:=w) (base:=base) Sc T qf;have Tg:=ok_are_beside (P:=P) (w:=w) (base:=base) Sd T IK Gv;have Th:=ok_are_at_a_corner (P:=P) (w:=w) (base:=base) Se T IK;have Ti:=ok_place_at (P:=P) (w:=w) (base:=base) Sf T F6 F8;have IL:=ok_box_at (P:=P) (w:=w) (base:=base) Sg T Ti;have IM:=ok_near_going (P:=P) (w:=w) (base:=base) Sh T;have IN:=ok_far_going (P:=P) (w:=w) (base:=base) Si T qf;have IO:=ok_with_near_going (P:=P) (w:=w) (base:=base) Sj T;have Tj:=ok_with_far_going (P:=P) (w:=w) (base:=base) Sk T F7 IO;have Tk:=ok_mixed (P:=P) (w:=w) (base:=base) Sl T F5 F8 F6;have Tl:=ok_behind (P:=P) (w:=w) (base:=base) Sm T Tk;have Tm:=ok_turned_about (P:=P) (w:=w) (base:=base) Sn T F7;have Tn:=ok_parted (P:=P) (w:=w) (base:=base) So T F7 F6 Tm Tl;have To:=ok_joint_moment (P:=P) (w:=w) (base:=base) Sq T F7 F9;have qg:=ok_Plane_one_of (P:=P) (w:=w) (base:=base) Sr T;have qh:=ok_Plane_other_of (P:=P) (w:=w) (base:=base) Ss T;have IP:=ok_Plane_joint_of (P:=P) (w:=w) (base:=base) Su T IN qg IM qh To;have Tp:=ok_Plane_meet_at (P:=P) (w:=w) (base:=base) Sv T IL qg qh Gv;have IQ:=ok_Plane_close_at_a_corner (P:=P) (w:=w) (base:=base) Sw T;have Tq:=ok_Plane_is_sooner (P:=P) (w:=w) (base:=base) Sx T qe;have IR:=ok_Plane_is_coming (P:=P) (w:=w) (base:=base) Sy T;have IS:=ok_Plane_look_ahead (P:=P) (w:=w) (base:=base) Sz T Tq Tp IQ IR;have IT:=ok_Plane_bodies_at (P:=P) (w:=w) (base:=base) SA T IL;have Tr:=ok_Plane_meetings (P:=P) (w:=w) (base:=base) SB T;have IU:=ok_Plane_boxes_met (P:=P) (w:=w) (base:=base) SC T;have Ts:=ok_Plane_has_two_meetings (P:=P) (w:=w) (base:=base) SD T IU;have Tt:=ok_Plane_is_hemmed_in (P:=P) (w:=w) (base:=base) SE T Tg qg qh;have Tu:=ok_Plane_has_a_corner (P:=P) (w:=w) (base:=base) SF T IU Th IR IQ;have Tv:=ok_Plane_is_crowded (P:=P) (w:=w) (base:=base) SG T IT Ts Tt Tu;have Tw:=ok_Plane_part (P:=P) (w:=w) (base:=base) SH T qg qh IN IM Tj IO Tn IP;have Ty:=ok_Plane_go_on (P:=P) (w:=w) (base:=base) SI T Tw IS;have Tz:=ok_walls_of (P:=P) (w:=w) (base:=base) SJ T;have TB:=ok_all_pairs (P:=P) (w:=w) (base:=base) SK T
 have TC:=ok_Plane___init__ (P:=P) (w:=w) (base:=base) SL T Tz TB IP IS;have TD:=ok_end_word (P:=P) (w:=w) (base:=base) SM T Tv;have TF:=ok_run_along (P:=P) (w:=w) (base:=base) SN T TD Tr Ty IT;have IV:=ok_is_fraction (P:=P) (w:=w) (base:=base) SO T F3 F4;have IW:=ok_is_breadth (P:=P) (w:=w) (base:=base) SQ T IV qe;have TH:=ok_is_weight (P:=P) (w:=w) (base:=base) SR T F3;have TJ:=ok_is_box (P:=P) (w:=w) (base:=base) SS T IV IW TH;have TK:=ok_is_room (P:=P) (w:=w) (base:=base) ST T IW;have TM:=ok_is_within (P:=P) (w:=w) (base:=base) SU T qe qf;have TN:=ok_overlap (P:=P) (w:=w) (base:=base) SV T Gv;have TQ:=ok_refuse_boxes (P:=P) (w:=w) (base:=base) SW T TK TJ TM TN F0;have TR:=ok_refuse_number_of_moments (P:=P) (w:=w) (base:=base) SX T F3;have TU:=ok_run_in (P:=P) (w:=w) (base:=base) SY T TQ TR TC TF;have TV:=ok_law_cell (P:=P) (w:=w) (base:=base) SZ T;have TW:=ok_law_mix (P:=P) (w:=w) (base:=base) S0 T;have TX:=ok_law_box (P:=P) (w:=w) (base:=base) S1 T TV TW;have iW:=ok_law_take (P:=P) (w:=w) (base:=base) S2 T;have nX:=ok_law_fit (P:=P) (w:=w) (base:=base) S3 T;have Gw:=ok_law_plus (P:=P) (w:=w) (base:=base) S4 T nX;have TY:=ok_law_minus (P:=P) (w:=w) (base:=base) S5 T nX;have IX:=ok_law_less (P:=P) (w:=w) (base:=base) S6 T;have TZ:=ok_law_room (P:=P) (w:=w) (base:=base) S7 T iW nX;have IY:=ok_law_apart (P:=P) (w:=w) (base:=base) S8 T IX Gw;have T0:=ok_law_boxes (P:=P) (w:=w) (base:=base) S9 T iW nX IX Gw IY;have T1:=ok_law_told (P:=P) (w:=w) (base:=base) Ta T TU;have T2:=ok_law_first_over (P:=P) (w:=w) (base:=base) Tb T IY;have T3:=ok_law_beyond (P:=P) (w:=w) (base:=base) Tc T iW nX Gw TY;have T4:=ok_law_odd (P:=P) (w:=w) (base:=base) Td T iW;have T5:=ok_law_none (P:=P) (w:=w) (base:=base) Te T iW T3;have T6:=ok_law (P:=P) (w:=w) (base:=base) Tf T TX TZ T0 iW T4 T1 T5 T2;exact T6
end Prf
namespace Kw
open PySem PySem.Spec PyProof.Rows L2
theorem walk_kwX {pn:Str} {l:PySem.W.OpenLaw} {k:Nat} {q:Program} {loose:List Str} {XP:(Str->Option Value)->Heap->Prop} {IZ:List Addr} {n0 t0:Nat} {d:DefRec} {K:Params->PySem.W.Frag}
  (hn:l.most=some 63) (hdf:d.params.defaults=[]) (hr:Room k callerA) (hK:∀ P,IZ=(K P).map (·.1)) (hnm:d.name="law")
  (F:∀ (w:World) (mg:Str->Option Value) (h:Heap),(K w.params).In h->h.Ns mainGlobals mg->∃ fa,mg "law"=some (.ref fa)/\∃ fd:FuncData,(∀ (s:Shared) (u:Value),BindsTo s fd ⟨[u],[]⟩ [(pn,u)])/\
   ∀ base:Heap,(K w.params).In base->base.Ns mainGlobals mg->FnOk l.prog w (K w.params) mg base (CXE l.prog w) k fa fd [pn] (spLaw (K w.params))) :
  PySem.W.WalkX q loose XP (PySem.W.X.obsZ IZ) (PySem.W.X.valZ K n0 t0) l.row.toRowW d [] (λf vs=>PySem.call f vs):=by
 intro w s₀ s₁ mg mb G Y fa o pm cd doc dV kV ho hd hcd hD hmg hg args vals as L hpre hlay hrd hwl hlo;exact walk_kw (YP:=λw h=>(K w.params).In h) hn hdf hr (λ_ _ z=>z) hnm F w s₀ s₁ mg mb G (PySem.W.InK.keeps w _ _ (PySem.W.X.z_facts hK Y).2.1 L.keeps) fa o pm cd doc dV kV ho hd hcd hD hmg hg args vals as hpre hlay hrd hwl hlo
end Kw
noncomputable def PySem.W.Fast.tw16673717869750932795:PySem.Program:=PySem.Challenge.pw_knockwright_k72_boxes_refused
theorem PySem.W.Fast.te16673717869750932795:PySem.Challenge.pw_knockwright_k72_boxes_refused=PySem.W.Fast.tw16673717869750932795:=rfl
namespace PySem.W.Fast
def tw17037275260832607920:=True
def tw711350825914400599:=True
def tw7131363750432502242:=True
def tw13045402662817650845:=True
def tw6606082452005024088:=True
def tw6983668665066211070:=True
def tw7866666857220314841:=True
def tw12292622468211207170:=True
def tw5622764914107626212:=True
def tw5644653024259264817:=True
def tw7154033755161893919:=True
def tw9586790969995366256:=True
def tw14153360479276809849:=True
def tw14567698095024673924:=True
def tw8787179857579310470:=True
def tw8354203650476595063:=True
def tw14856685833806366226:=True
def tw15207583017634692063:=True
def tw15964737553690376408:=True
def tw12899163814645330760:=True
def tw16100493444340437121:=True
def tw15279215012927229895:=True
def tw13259333100790963756:=True
def tw12207414455245056177:=True
def tw14276078530407454093:=True
def tw16176836151512225056:=True
def tw8311302839950375697:=True
def tw16099828406302984922:=True
def tw16755699153821899992:=True
def tw8072030091013037740:=True
def tw17585122410428925945:=True
def tw2450810447145912264:=True
def tw6087079769442176934:=True
def tw9484146392003790136:=True
def tw3356548020743259393:=True
def tw788856225165036858:=True
def tw12980032074432771389:=True
def tw17654044398673767082:=True
def tw12510948304111554846:=True
def tw14098833260685391388:=True
def tw4764619589914181687:=True
def tw2823511859259163045:=True
def tw12751540424491178445:=True
def tw13738414456333016574:=True
def tw12976567887260941856:=True
def tw7503371548164015983:=True
def tw7161230773059231632:=True
def tw2520220134148507495:=True
def tw16085151940202859593:=True
def tw7606361987734646506:=True
def tw8305570460122509794:=True
def tw9066747682098373091:=True
def tw16020442127254984795:=True
def tw5565405194720556131:=True
def tw7383037836927169679:=True
def tw513274502971376173:=True
def tw2485180968911859366:=True
def tw8339779049250261596:=True
def tw17971813615971226155:=True
def tw14677484743964341150:=True
def tw16216729663837373698:=True
def tw7361224416172525405:=True
def tw5608875500045628810:=True
def tw5891781032250908021:=True
def tw18271530353894042158:=True
def tw5202810623555347526:=True
def tw2142435107853844799:=True
def tw11008057475033532675:=True
def tw9198424590212419127:=True
def tw6534174614623601262:=True
def tw12339721129242284486:=True
def tw17779805377793066138:=True
def tw6665094539208919701:=True
def tw10128959754968812657:=True
def tw12894463751270340431:=True
def tw18195796590534601852:=True
def tw18315858909858341112:=True
def tw8352996836725065488:=True
def tw11228693643876235993:=True
def tw655869924134403135:=True
def tw5983787636970284426:=True
def tw16985915539114168774:=True
def tw15747139638884690091:=True
def tw13151526582909282255:=True
def tw17638443281717813533:=True
def tw7674614377364916556:=True
def tw14664901714209981149:=True
def tw2175270692972828588:=True
def tw14374092685796060428:=True
def tw9100023027010002607:=True
def tw10530164187032397061:=True
def tw1911073576956741228:=True
def tw17487381684366109406:=True
def tw11449293105370104344:=True
def tw18336529509896579271:=True
def tw18094007137643403855:=True
def tw1539190642966262686:=True
def tw7475028527925866157:=True
def tw17244932522348446869:=True
def tw6379848075415067619:=True
def tw516666843697079635:=True
def tw913205647220344868:=True
def tw15965603652836553903:=True
def tw5731393264192515432:=True
def tw17605493188021535267:=True
def tw14751739679466495300:=True
def tw7318789305347452121:=True
def tw12244920379960198146:=True
def tw8295481324353740189:=True
def tw12501014459939700042:=True
def tw13098885225568080343:=True
def tw10225654695938254336:=True
def tw11257403086935459084:=True
def tw12876286390439005827:=True
def tw14994051274381625449:=True
def tw7285149142679958224:=True
def tw17047453999517126160:=True
def tw11436102717224593982:=True
def tw3875381136382675092:=True
def tw7491987492873993454:=True
def tw15582211671170286448:=True
def tw1176655169842385117:=True
def tw15595558286670813433:=True
def tw13580012318926900079:=True
def tw414938847717209774:=True
def tw10840605432203731607:=True
def tw13438976895886981244:=True
def tw12816694558862842364:=True
def tw1613250950598951310:=True
def tw2242993909244497800:=True
def tw18282390089748983413:=True
def tw6985501097978147461:=True
def tw3178548104120422110:=True
def tw14240711936732955997:=True
def tw17567773186303083562:=True
def tw5809334441345282399:=True
def tw701525261205130091:=True
def tw2560343462103147307:=True
def tw4888107487656257598:=True
def tw15220481304258051179:=True
def tw4672477969467590884:=True
def tw17488063932427515633:=True
def tw12895026257494846918:=True
def tw8992685065297911585:=True
def tw17018031422142748142:=True
def tw8287886245240256723:=True
def tw7415866005796344188:=True
def tw12714402554128729689:=True
def tw5244234508838737322:=True
def tw9695905863916030715:=True
def tw17878194142352069690:=True
def tw16240668966549998341:=True
def tw481851378500205787:=True
def tw11400060322717833916:=True
def tw14442490021664134963:=True
def tw10819377261396350046:=True
def tw9925656803437073399:=True
def tw17781392164346931974:=True
def tw16110681416915015502:=True
def tw11743577503625141456:=True
def tw11075591872914089373:=True
def tw14769034046462374035:=True
def tw8227307563908489637:=True
def tw15973228683842424934:=True
def tw5662848618316876845:=True
def tw16080658226845305054:=True
def tw6798715774640715559:=True
def tw4503646579613101930:=True
def tw14561787208293507915:=True
def tw13538905645649876889:=True
def tw8128620964030271576:=True
def tw4479444178892289760:=True
def tw871502175142558220:=True
def tw16904077648323576685:=True
def tw6134724329644071968:=True
def tw4346951183247332842:=True
def tw9460677397236978890:=True
def tw1225607854018768312:=True
def tw1868691371428377044:=True
def tw14843718652593604072:=True
def tw11313788031142264784:=True
def tw7558456068913870104:=True
def tw9712243775291468521:=True
def tw1099702527565062518:=True
def tw6767697451837414957:=True
def tw8295754201672230767:=True
def tw8445358959922111341:=True
def tw11185286915257487211:=True
def tw11913109623687069917:=True
def tw10680595915421537048:=True
def tw5991063553726379871:=True
def tw7570090906579464842:=True
def tw16083939974784589524:=True
def tw13266580712467591527:=True
def tw13004073867042582544:=True
def tw16834708667335130352:=True
def tw2085611619837587398:=True
def tw1019149260268689415:=True
def tw15633471058816051788:=True
def tw7072862327886153061:=True
def tw16278527119558217588:=True
def tw9521204132415194591:=True
def tw12755615837900975604:=True
def tw17223542995609854793:=True
def tw11986071126858603540:=True
def tw9300270342409179466:=True
def tw14657119773521167154:=True
def tw11458519003560135956:=True
def tw14814711236536024255:=True
def tw4765462571308377034:=True
def tw9603073923034772952:=True
def tw10109828337316995212:=True
def tw14284460898597359402:=True
def tw5698140044461451722:=True
def tw5799535216528444352:=True
def tw14256603310257568329:=True
def tw11052469282180274281:=True
def tw10338533107262639212:=True
def tw4000836680649563594:=True
def tw12815825166428574457:=True
def tw5045116139209498178:=True
def tw13062309150944712864:=True
def tw11934418450061828629:=True
def tw4361570189074308346:=True
def tw855989120692612833:=True
def tw835584280800202414:=True
def tw14531506152191951192:=True
def tw9527518204309274990:=True
def tw10656700697354349062:=True
def tw8574229455776842436:=True
def tw4037483321009237003:=True
def tw860255878550071050:=True
def tw434722441475633654:=True
def tw16441130859385846659:=True
def tw8018930166007334816:=True
def tw4185063082862999153:=True
def tw4066318700126345595:=True
def tw3925726027859465690:=True
def tw11224207569172596214:=True
def tw14930552739011831252:=True
def tw12958740870116659984:=True
def tw12625680362013492434:=True
def tw13088712697249680833:=True
def tw6062726361185681889:=True
def tw11135925014895825006:=True
def tw4715874130148033977:=True
def tw15840772262414150005:=True
def tw15374766574228327837:=True
def tw243048509981950422:=True
def tw2500571667155096219:=True
def tw2124123509477174198:=True
def tw15092411858653914108:=True
def tw6282941887209100736:=True
def tw6958078658688652305:=True
def tw11921561258218365129:=True
def tw10138603598322187505:=True
def tw2580873249824252431:=True
def tw881472027860207171:=True
def tw23188201811960244:=True
def tw3804489134080315172:=True
def tw9697423752494778031:=True
def tw2290895298396640252:=True
def tw2558706163378114268:=True
def tw8993187695759648972:=True
def tw11992990815604064049:=True
def tw9300259134704866602:=True
def tw2766082164440708831:=True
def tw16468392858178373266:=True
def tw9025955499046320509:=True
def tw1720543678562073412:=True
def tw16235029402513967652:=True
def tw13045885075292736894:=True
def tw16198895093668700563:=True
def tw6725319265859501339:=True
def tw10215038326466279403:=True
def tw9550573070490930169:=True
def tw9163514303569814764:=True
def tw16694788676117183770:=True
def tw9380952996703459992:=True
def tw9935189026056733930:=True
def tw17281421926578590999:=True
def tw4859907260503737198:=True
def tw14284682008775496760:=True
def tw10710766855436192292:=True
def tw8540105254462945861:=True
def tw7081868164559880067:=True
def tw7249191597385639428:=True
def tw9469376577866662963:=True
def tw1843395805416647785:=True
def tw10601936622571599240:=True
def tw16084362910903106081:=True
def tw15319970136014686706:=True
def tw9604501575805146423:=True
def tw6761696401032637939:=True
def tw7528052109463339069:=True
def tw566318071582897480:=True
def tw15478085722026031578:=True
def tw16004891226624980362:=True
def tw11785769124802086750:=True
def tw16640583906885388637:=True
def tw17683792108747045973:=True
def tw1479175238345516617:=True
def tw852193146867215190:=True
def tw3191235952012845734:=True
def tw16371265210643957668:=True
def tw5207842683413049278:=True
def tw16374060609210561193:=True
def tw5045890031559893272:=True
def tw17859599007452717355:=True
def tw1932855210261207315:=True
def tw450545667345932724:=True
def tw241509235292781994:=True
def tw10158005966703882072:=True
def tw6947982993297246690:=True
def tw8681615292557976969:=True
def tw17855063757321850907:=True
def tw13974164621511914650:=True
def tw11655432663538211188:=True
def tw1681158894079723422:=True
def tw729646101053416698:=True
def tw7902677669308502338:=True
def tw13288054481295530330:=True
def tw13542146941090050732:=True
def tw8415380464381272705:=True
def tw14966065244964584547:=True
def tw12390309701283093095:=True
def tw7379462229520329924:=True
def tw6628446652904175753:=True
def tw6957568496861399640:=True
def tw3819102529260148300:=True
def tw6221045950795555884:=True
def tw14681716042987145131:=True
def tw12223336704605806447:=True
def tw16242150163396105869:=True
def tw7271524700252477302:=True
def tw3063998198624998640:=True
def tw2122628813079857877:=True
def tw17221579290323865617:=True
def tw12245489095419304537:=True
def tw10228348860911564719:=True
def tw1962952229370318482:=True
def tw2228321267261347509:=True
def tw12413024337937243239:=True
def tw2250456459401059714:=True
def tw9848143834339627167:=True
def tw2589624668411633845:=True
def tw10097127296754406649:=True
def tw10866885853557410176:=True
def tw13628621471590854973:=True
def tw14034618117516738916:=True
def tw3676322316302040438:=True
def tw7801481872780536915:=True
def tw12757296345475683090:=True
def tw12140218841516594760:=True
def tw14702992904618970003:=True
def tw17372881805358595676:=True
def tw15708572302394942109:=True
def tw7822969409398498252:=True
def tw5909219892798732156:=True
def tw234184958267627809:=True
def tw11224038335987002311:=True
def tw18273028605474764447:=True
def tw5644002292936615533:=True
def tw101242271876737715:=True
def tw13380805085523701800:=True
def tw1261427317487688532:=True
def tw14559632616841612959:=True
def tw17194556782679726358:=True
def tw10413334570336884795:=True
def tw16463522124108094056:=True
def tw17350683756990756796:=True
def tw18095930780921366066:=True
def tw17233488157879116638:=True
def tw4894608117618119081:=True
def tw12940695567480965688:=True
def tw14516972198248691226:=True
def tw15331063084882248703:=True
def tw2338410182291878190:=True
def tw10115955108178283758:=True
def tw9878797432753049462:=True
def tw13419752726652321966:=True
def tw8320480238921822187:=True
def tw3498454140736651661:=True
def tw11187012347570172048:=True
def tw8093873323810058523:=True
def tw9317801940619754762:=True
def tw12139233249441775309:=True
def tw5825527957606180134:=True
def tw18431785835075363992:=True
def tw11689900819810883966:=True
def tw2715350558464074400:=True
def tw16939404426952524053:=True
def tw4037785195392766262:=True
def tw16167003911999267469:=True
def tw16385069045580595238:=True
def tw2768726652388797725:=True
def tw18230793209888570658:=True
def tw13733201129624263970:=True
def tw18249110055550658008:=True
def tw1532936532492507813:=True
def tw15608492874876357547:=True
def tw7881746954456545948:=True
def tw10145483852384893029:=True
def tw12339164344292982445:=True
def tw989482192577242973:=True
def tw17874300622041651091:=True
def tw2946458432781106868:=True
def tw11603737706610313597:=True
def tw2644453912837830241:=True
def tw12531425674411041320:=True
def tw663450813795947232:=True
def tw2281238438833188949:=True
def tw1969903634442490150:=True
def tw12528728545010641176:=True
def tw10337123729997620666:=True
def tw2501639594559056110:=True
def tw3789763533639515803:=True
def tw2869646847822098805:=True
def tw17755468535065762491:=True
def tw2306192670258862851:=True
def tw5745316895925656319:=True
def tw15743249851219457041:=True
def tw974329168044746996:=True
def tw16824725216284722263:=True
def tw8037890637733824178:=True
def tw17001237113199163573:=True
def tw11309910344388513934:=True
def tw15640646781535795068:=True
def tw10198407116847576556:=True
def tw4607934889889189715:=True
def tw12987379354151103276:=True
def tw10451182452057234558:=True
def tw17927936664498432992:=True
def tw10238524923727994127:=True
def tw14769993937129663254:=True
def tw11508413484016354751:=True
def tw14717136468074842188:=True
def tw17626606288978468118:=True
def tw8169108630848059221:=True
def tw15036976315762106407:=True
def tw11328998567682496163:=True
def tw3397873708474914273:=True
def tw14934831360022724041:=True
def tw13523512708901978008:=True
def tw2649611117099992280:=True
def tw2058897080400946170:=True
def tw4708896890840786144:=True
def tw18288146567805591459:=True
def tw16341145333700362358:=True
def tw487896304848887694:=True
def tw8930767416415364518:=True
def tw11621037345390236628:=True
def tw7698526886472825575:=True
def tw16285654957176663665:=True
def tw3080942505233266088:=True
def tw10483858758272498953:=True
def tw4504902784892216666:=True
def tw4995549108066802915:=True
def tw10261391970481067120:=True
def tw15460327086507155515:=True
def tw13524155706527352465:=True
def tw9843766533455918886:=True
def tw8865655425508517470:=True
def tw10300727350549370614:=True
def tw14948273903542441840:=True
def tw14559283186745288764:=True
def tw8357323673368984582:=True
def tw17726884327632700854:=True
def tw18350039035112672132:=True
def tw17873425195395773523:=True
def tw15529198430122965003:=True
def tw18024305242141341600:=True
def tw18003725497099177050:=True
def tw1137320332496253652:=True
def tw1066188374392604089:=True
def tw15826516726255981966:=True
def tw2055873936390353624:=True
def tw313599330327025616:=True
def tw14266460803457813844:=True
def tw16976073721760255225:=True
def tw2750489499119560572:=True
def tw4734652135638347352:=True
def tw12594126338831215753:=True
def tw7872551253634260731:=True
def tw9375410811323090961:=True
def tw3419104720696658127:=True
def tw2322448478647409793:=True
def tw17279547838422806927:=True
def tw15198999391227381123:=True
def tw9374620832382086909:=True
def tw17811828945287148636:=True
def tw4734378822834819284:=True
def tw16904865206139645557:=True
def tw5667414168598283337:=True
def tw9993692181838816484:=True
def tw4500668467817638070:=True
def tw17547471541867508129:=True
def tw4018225334539098732:=True
def tw8872068556729857845:=True
def tw6042570433247770471:=True
def tw2423674711614355330:=True
def tw13982481163022169366:=True
def tw10980299818154772381:=True
def tw1415464020136674606:=True
def tw7645047129489372708:=True
def tw1367521481839716937:=True
def tw9550611753291646750:=True
def tw6402087763384469312:=True
def tw7195861342188675314:=True
def tw10461870319368542934:=True
def tw1099470221242387771:=True
def tw4646818239135828469:=True
def tw11237352684185513724:=True
def tw9073400678506113040:=True
def tw14594533525103832555:=True
def tw13484961252013630296:=True
def tw15987462446082239050:=True
def tw16744121754830031389:=True
def tw9589000752750219717:=True
def tw6462919063561498507:=True
def tw11618443365071323504:=True
def tw5447095441394725938:=True
def tw10398644831893091115:=True
def tw5183006669388307160:=True
def tw13918043836951692314:=True
def tw13443820092801888713:=True
def tw14463287283852469122:=True
def tw747881239529150834:=True
def tw70943417984929475:=True
def tw16275960748428056042:=True
def tw9077464102558707781:=True
def tw6117822442949468187:=True
def tw12091779858926842705:=True
def tw9393527323878236871:=True
def tw11866864280128739356:=True
def tw201522860757673256:=True
def tw2845205762355147882:=True
def tw3296225516282581082:=True
def tw2982917107662353945:=True
def tw236972396501914514:=True
def tw4147264684947084906:=True
def tw5120382720070313256:=True
def tw10766130549606408822:=True
def tw14458870075170970994:=True
def tw1600552054825765636:=True
def tw6616150794577409539:=True
def tw10787570567604809797:=True
def tw9470522329501803909:=True
def tw8407021292181406009:=True
def tw1187642103011534375:=True
def tw5428954155572419460:=True
def tw9992526357318601693:=True
def tw10790946126148382386:=True
def tw3620947003793780624:=True
def tw4591412826932156425:=True
def tw14417334840811357612:=True
def tw8582824565114955683:=True
def tw3727738888629149739:=True
def tw1777032492410677460:=True
def tw11514490662338232159:=True
def tw9403216526621267152:=True
def tw13154282944346933230:=True
def tw16310104270110003534:=True
def tw8648565801745782064:=True
def tw4073619005128204118:=True
def tw1859245072198282464:=True
def tw14170611966318116273:=True
def tw11481174875177327354:=True
def tw10629117889753640405:=True
def tw12139589571161317192:=True
def tw3716084466354273002:=True
def tw10184164360973844666:=True
def tw10404236769930578121:=True
def tw811669636576940954:=True
def tw16644483250554683558:=True
def tw12385508985109369355:=True
def tw11859690828135409971:=True
def tw6153129301449459606:=True
def tw5700639760262176079:=True
def tw3153725671162523596:=True
def tw6834827744649177204:=True
def tw5753207825785931559:=True
def tw8225532881206705230:=True
def tw16834241821248733186:=True
def tw2418082517886306312:=True
def tw7422496443590058380:=True
def tw14616811387788157570:=True
def tw5590109218788691391:=True
def tw924079987319458778:=True
def tw9044384589067693382:=True
def tw13119113071666740800:=True
def tw6115970520483854524:=True
def tw15580547368974413537:=True
def tw7510490026107823676:=True
def tw6102153086122654355:=True
def tw4443966376835155743:=True
def tw3209984825388291240:=True
def tw15090023446089308774:=True
def tw4272378653904869790:=True
def tw16064296108336894884:=True
def tw6907887705769210982:=True
def tw12665056232083854914:=True
def tw12183501291770341285:=True
def tw10035101091845903813:=True
def tw8033624354126093889:=True
def tw3527433678552032656:=True
def tw16732233562515915220:=True
def tw17641195420969250166:=True
def tw9792770384623050305:=True
def tw1921687560249845444:=True
def tw420874459078387594:=True
def tw5568260292170814005:=True
def tw9317754505552770601:=True
def tw7009433550172942743:=True
def tw8534616610969490545:=True
def tw10405542848209185630:=True
def tw4439899274295700963:=True
def tw7146182320708606493:=True
def tw13591942818332594178:=True
def tw17490414191975455446:=True
def tw11853796420064679324:=True
def tw4495009702676189595:=True
def tw14568469511221986897:=True
def tw16610828619023427959:=True
def tw9110857798057520221:=True
def tw18428455872149543984:=True
def tw4992814949580596720:=True
def tw13465931246735190887:=True
def tw2935903812700479119:=True
def tw4016114231259247882:=True
def tw904432125144959311:=True
def tw2089548513505797342:=True
def tw13454077627892759459:=True
def tw856943524800063039:=True
def tw5603656139457085369:=True
def tw222489171398861297:=True
def tw12757399162743385738:=True
def tw2409614088470789792:=True
def tw15331208215794559342:=True
def tw4553804423599420202:=True
def tw5633131521234072632:=True
def tw796770225636864804:=True
def tw11093404665171716748:=True
def tw7988219846197336609:=True
def tw15895819046908564650:=True
def tw2512599662569736142:=True
def tw9734365575177535824:=True
def tw4642704811283714209:=True
def tw13808172382254379306:=True
def tw2301214356101487697:=True
def tw7785400964154387243:=True
def tw11128099064641643552:=True
def tw6604465266052095162:=True
def tw650796084979618027:=True
def tw4368741618757256026:=True
def tw16044034050528443025:=True
def tw8268466867229157732:=True
def tw6906655223984868277:=True
def tw12764947809942072364:=True
def tw9920215113997125635:=True
def tw7058460747238896627:=True
def tw10776139366347389830:=True
def tw10909413947673792392:=True
def tw12187201990121442246:=True
def tw237731681108226852:=True
def tw7632000723763296624:=True
def tw10283150237659979220:=True
def tw201528033570173300:=True
def tw10528491973868776588:=True
def tw16338215057051338287:=True
def tw383343725700912450:=True
def tw3316075995299238254:=True
def tw13251451274139605017:=True
def tw14984520935725534920:=True
def tw12929494217322110033:=True
def tw11782142455371998632:=True
def tw2593804385904349249:=True
def tw16118032393022963538:=True
def tw15363887636202421675:=True
def tw16165154620185878538:=True
def tw3618011947764001884:=True
def tw9946955544974433398:=True
def tw3255228676834542993:=True
def tw14889396361653707423:=True
def tw2533718183614872113:=True
def tw558945408527962877:=True
def tw12080393845577171955:=True
def tw2899806699425632603:=True
def tw3686550172242727680:=True
def tw18347387259079915574:=True
def tw13357261756930473813:=True
end PySem.W.Fast
open PySem PySem.W PyProof.Rows
set_option maxRecDepth 100000 in
set_option maxHeartbeats 0 in
theorem PySem.Challenge.cw_knockwright_k72_boxes_refused_holds : PySem.Challenge.rw_knockwright_k72_boxes_refused.Holds := by
 w_on; o_law; z_head; (case hw=>w_witness2)
 refine Kw.walk_kwX (pn:="script") (l:=PySem.Challenge.rw_knockwright_k72_boxes_refused) (k:=12) rfl rfl ⟨rfl,by decide,by decide⟩ (λ_=>by kernel_rfl) rfl ?F
 case F=>
  intro w mg h KX G;apply Prf.all_mk KX G
  any_goals first|k_is|(unfold Prf.LkF;k_is)|kernel_rfl|k_exc|kit_is
end
