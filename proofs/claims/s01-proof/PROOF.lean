import PyProof.Rows.All
import Wide.All
import OpenK.AllK
import Wide.FinOn
import PyProof.EqAt
import PyProof.EqKinds
import PyProof.TupleCall
import KE.BitLaws
import Open.SpecLaws
import KE.OsHead
import KE.OsGo
import KE.IntBitsLaws
import PySem.Challenge.RW_exactstep_s01_answers
set_option Elab.async false
set_option linter.all false
set_option maxRecDepth 100000
set_option maxHeartbeats 4000000
namespace L2
open PySem PySem.Spec PyProof.Rows
noncomputable abbrev Key:=Sum Int Str
noncomputable def zS:Key->Value->Bool
 |.inl k,v=>Value.isInt k v
 |.inr x,v=>Value.isStrOf x v
noncomputable def Rf(w:World):Key->Int
 |.inl k=>hashInt k
 |.inr x=>hashStr w x
theorem dZ:∀ {k:Key} {v:Value},zS k v=true->(∃ i t,k=Sum.inl i/\v=Value.int i t)\/(∃ x t,k=Sum.inr x/\v=Value.str x t)
 |
  .inl i,v,h=>by
  obtain ⟨t,e⟩:=Value.isInt_shape (k:=i) (v:=v) h;exact .inl ⟨i,t,rfl,e⟩
 |
  .inr x,v,h=>by
  obtain ⟨t,e⟩:=Value.isStrOf_shape (x:=x) (v:=v) h;exact .inr ⟨x,t,rfl,e⟩
theorem GH(i:Int)(t:Tok):zS (.inl i) (.int i t)=true:=by simp [zS,Value.isInt]
theorem GI(x:Str)(t:Tok):zS (.inr x) (.str x t)=true:=by simp [zS,Value.isStrOf]
theorem Mz(a b:Int):decide ((Sum.inl a:Key)=Sum.inl b)=(a == b):=by
 by_cases e:a=b
 . subst e;simp
 . have h:¬ (Sum.inl a:Key)=Sum.inl b:=fun q=>e (Sum.inl.inj q);rw [decide_eq_false h];exact (beq_eq_false_iff_ne.mpr e).symm
theorem MA(a b:Str):decide ((Sum.inr a:Key)=Sum.inr b)=decide (a=b):=by
 by_cases e:a=b
 . subst e;simp
 . have h:¬ (Sum.inr a:Key)=Sum.inr b:=fun q=>e (Sum.inr.inj q);rw [decide_eq_false h,decide_eq_false e]
theorem MB(a:Int)(b:Str):decide ((Sum.inl a:Key)=Sum.inr b)=false:=decide_eq_false (fun q=>nomatch q)
theorem MC(a:Str)(b:Int):decide ((Sum.inr a:Key)=Sum.inl b)=false:=decide_eq_false (fun q=>nomatch q)
noncomputable def f9(prog:Program)(w:World):PySem.KeyKind prog w Key where
 is:=zS
 hash:=Rf w
 inj:=fun v a b ha hb=>by
  rcases dZ ha with ⟨i,t,rfl,rfl⟩|⟨x,t,rfl,rfl⟩
  . rcases dZ hb with ⟨j,u,rfl,e⟩|⟨y,u,rfl,e⟩
    . injection e with e1 _;rw [e1]
    . exact nomatch e
  . rcases dZ hb with ⟨j,u,rfl,e⟩|⟨y,u,rfl,e⟩
    . exact nomatch e
    . injection e with e1 _;rw [e1]
 byValue:=fun k v h=>by
  rcases dZ h with ⟨i,t,rfl,rfl⟩|⟨x,t,rfl,rfl⟩<;>rfl
 pyHash:=fun hv h=>by
  rcases dZ hv with ⟨i,t,rfl,rfl⟩|⟨x,t,rfl,rfl⟩
  . exact wpAny_pyHash_int h
  . exact wpAny_pyHash_str h
 eqBool:=fun hu hv h=>by
  rcases dZ hu with ⟨i,t,rfl,rfl⟩|⟨x,t,rfl,rfl⟩
  . rcases dZ hv with ⟨j,u,rfl,rfl⟩|⟨y,u,rfl,rfl⟩
    . rw [Mz] at h;exact wpAny_eqBool_int h
    . rw [MB] at h;exact SeqAt.EqAt.int_str i t y u _ _ _ _ h
  . rcases dZ hv with ⟨j,u,rfl,rfl⟩|⟨y,u,rfl,rfl⟩
    . rw [MC] at h;exact SeqAt.EqAt.str_int x t j u _ _ _ _ h
    . rw [MA] at h;exact wpAny_eqBool_str h
 «strs»:=fun k x t v h=>by
  rcases dZ h with ⟨i,u,rfl,e⟩|⟨y,u,rfl,e⟩
  . exact nomatch e
  . injection e with e1 _
    subst e1;cases v<;>rfl
theorem Cj(prog:Program)(w:World)(i:Int)(t:Tok):(f9 prog w).is (.inl i) (.int i t)=true:=GH i t
theorem Ck(prog:Program)(w:World)(x:Str)(t:Tok):(f9 prog w).is (.inr x) (.str x t)=true:=GI x t
end L2
namespace L2
open PySem PySem.Spec PyProof.Rows
inductive V where
 |non|bl (b:Bool)|int (i:Int)|str (x:Str)|DV (b:Array UInt8)|QB (b:UInt64)|ref (a:Addr)|ty (n:String)
 deriving DecidableEq
noncomputable def RelV:V->Value->Prop
 |.non,u=>u=Value.none
 |.bl b,u=>u=Value.bool b
 |.int i,u=>∃ t,u=Value.int i t
 |.str x,u=>∃ t,u=Value.str x t
 |.DV b,u=>∃ t,u=Value.bytes b t
 |.QB b,u=>∃ t,u=Value.float b t
 |.ref a,u=>u=Value.ref a
 |.ty n,u=>u=Value.type n
noncomputable abbrev Vals:List V->List Value->Prop:=Paired RelV
theorem Vals.length{xs:List V}{us:List Value}(r:Vals xs us):xs.length=us.length:=Paired.length r
theorem Vals.get:∀ {xs:List V} {us:List Value} {i:Nat} {x:V},Vals xs us->xs[i]?=some x->∃ u,us[i]?=some u/\RelV x u
 |_,_,_,_,.nil,e=>by simp at e
 |_,_,0,_,.cons r _,e=>by simp at e;subst e;exact ⟨_,rfl,r⟩
 |
  _,_,i+1,x,.cons _ t,e=>by
  obtain ⟨u,h1,h2⟩:=Vals.get (i:=i) (x:=x) t (by simpa using e);exact ⟨u,by simpa using h1,h2⟩
theorem Vals.set{x:V}{u:Value}(r:RelV x u):∀ {xs:List V} {us:List Value} (i:Nat),Vals xs us->Vals (xs.set i x) (us.set i u)
 |_,_,_,.nil=>.nil
 |_,_,0,.cons _ t=>.cons r t
 |_,_,i+1,.cons q t=>.cons q (Vals.set r i t)
theorem Vals.append:∀ {xs ys:List V} {us ws:List Value},Vals xs us->Vals ys ws->Vals (xs++ys) (us++ws)
 |_,_,_,_,.nil,s=>s
 |_,_,_,_,.cons r t,s=>.cons r (Vals.append t s)
theorem Vals.take:∀ {xs:List V} {us:List Value} (n:Nat),Vals xs us->Vals (xs.take n) (us.take n)
 |_,_,0,_=>.nil
 |_,_,_+1,.nil=>.nil
 |_,_,n+1,.cons r t=>.cons r (Vals.take n t)
theorem Vals.drop:∀ {xs:List V} {us:List Value} (n:Nat),Vals xs us->Vals (xs.drop n) (us.drop n)
 |_,_,0,r=>r
 |_,_,_+1,.nil=>.nil
 |_,_,n+1,.cons _ t=>Vals.drop n t
noncomputable def qB:Option V->Option Value->Prop
 |some v,some u=>RelV v u
 |none,none=>True
 |_,_=>False
noncomputable def KV{κ:Type}:List (κ × V)->List (κ × Value)->Prop:=Paired fun (p:κ × V) (q:κ × Value)=>p.1=q.1/\RelV p.2 q.2
noncomputable def kV:Key->V
 |.inl i=>.int i
 |.inr x=>.str x
inductive HO where
 |lst (xs:List V)
 |tup (xs:List V)
 |dK (kvs:List (Key × V))|dT (kvs:List (List Key × V))
 |set (S:Int->Bool) (n:Nat)
 |ins (C dx:Addr) (fs:List (Str × V))
 |own (x:Addr)
 |xd (fs:List (Str × V))
 |met (f x:Addr)
 |Rg (lo hi:Int)
 |n_ (o:Obj) (u:HO)
 |MD (ps:Array Value)
 |ext (φ:Heap->Prop)
noncomputable abbrev Hp:=Addr->Option HO
noncomputable def upd(H:Hp)(a:Addr)(o:HO):Hp:=fun b=>if b=a then some o else H b
theorem ao{H:Hp}{a:Addr}{o:HO}:upd H a o a=some o:=by unfold upd;rw [if_pos rfl]
theorem aJ{H:Hp}{a b:Addr}{o:HO}(h:b≠a):upd H a o b=H b:=by unfold upd;rw [if_neg h]
theorem c6{H:Hp}{a:Addr}{o u:HO}:upd (upd H a o) a u=upd H a u:=by
 funext b;unfold upd;split<;>rfl
theorem Ox{H:Hp}{a b:Addr}{o u:HO}(h:H a=some o)(h':H b=some u)(d:o≠u):a≠b:=by
 intro e;subst e;rw [h] at h';exact d (Option.some.inj h')
theorem bg{H:Hp}{a b:Addr}{o:HO}(h:H a=some o)(h':H b=none):a≠b:=by
 intro e;subst e;rw [h] at h';cases h'
section
variable (P:Program)(w:World)
noncomputable def eU(H:Hp)(h:Heap)(a:Addr):HO->Prop
 |.lst xs=>xs.length<=sizeLine/\∃ (its:List Value) (n:Nat),Vals xs its/\h.get? a=some {cls:=.type "list",data:=.seq its.toArray n}
 |.tup xs=>xs.length<=sizeLine/\∃ its:List Value,Vals xs its/\IsTup h a its.toArray
 |.dK kvs=>kvs.length<=sizeLine/\(a == sysModules)=false/\∃ vs,KV kvs vs/\h.DictOf (f9 P w) a vs
 |.dT kvs=>kvs.length<=sizeLine/\(a == sysModules)=false/\∃ xs:List (List Key × Addr × Value),
  Paired (fun (p:List Key × V) (q:List Key × Addr × Value)=>p.1=q.1/\H q.2.1=some (.tup (p.1.map kV))/\RelV p.2 q.2.2) kvs xs/\
  ∃ o es ep,h.get? a=some o/\o.ExactDict/\o.data=.dict es ep/\es.toList=xs.map (entryOfKey (tupleKind (f9 P w)))/\(xs.map (·.1)).Nodup
 |.set S n=>h.SetOf (intKind P w) a S n
 |.ins C dx fs=>H dx=some (.own a)/\fs.length<=1000/\dx≠a/\h.get? a=some (PySem.W.instObj C dx)/\
  ∃ mA,h.Ns1 dx mA/\(∀ f,qB (fs.lookup f) (mA f))/\PySem.Within mA (fs.map (·.1))
 |.own _=>∃ o,h.get? a=some o
 |.xd fs=>∃ mA,h.Ns1 a mA/\∀ f,qB (fs.lookup f) (mA f)
 |.Rg lo hi=>∃ t u v,h.get? a=some {cls:=.type "range",data:=.fields #[.int lo t,.int hi u,.int 1 v]}
 |.n_ o u=>h.get? a=some o/\eU H h a u
 |.MD ps=>h.get? a=some {cls:=.none,data:=.fields ps}
 |.met f x=>h.get? a=some (PySem.W.methodObj (.ref f) (.ref x))
 |.ext φ=>φ h/\(∃ o,h.get? a=some o)/\∀ h1 h2:Heap,φ h1->(∀ o,h1.get? a=some o->h2.get? a=some o)->φ h2
noncomputable def oW(H:Hp)(h:Heap):Prop:=∀ a o,H a=some o->eU P w H h a o
end
section
variable {P:Program}{w:World}{H H':Hp}{h h':Heap}{a:Addr}{o:HO}
theorem eU.lt(x:eU P w H h a o):a<h.objs.size:=by
 cases o with
 |lst xs=>obtain ⟨_,_,_,_,e⟩:=x;exact Heap.lt_size e
 |tup xs=>obtain ⟨_,_,_,p⟩:=x;exact p.lt
 |dK kvs=>obtain ⟨_,_,_,_,o,_,_,e,_⟩:=x;exact Heap.lt_size e
 |dT kvs=>obtain ⟨_,_,_,_,o,_,_,e,_⟩:=x;exact Heap.lt_size e
 |set S n=>obtain ⟨o,_,_,_,e,_⟩:=x;exact Heap.lt_size e
 |ins C dx fs=>obtain ⟨_,_,_,e,_⟩:=x;exact Heap.lt_size e
 |own y=>obtain ⟨_,e⟩:=x;exact Heap.lt_size e
 |xd fs=>obtain ⟨_,⟨_,_,_,e,_⟩,_⟩:=x;exact Heap.lt_size e
 |Rg lo hi=>obtain ⟨_,_,_,e⟩:=x;exact Heap.lt_size e
 |n_ ob u=>obtain ⟨e,_⟩:=x;exact Heap.lt_size e
 |MD ps=>exact Heap.lt_size (show h.get? a=some _ from x)
 |met f y=>exact Heap.lt_size (show h.get? a=some _ from x)
 |ext φ=>obtain ⟨_,⟨_,e⟩,_⟩:=x;exact Heap.lt_size e
theorem Paired.ME{α β:Type}{F G:α->β->Prop}:∀ {l₁:List α} {l₂:List β},Paired F l₁ l₂->(∀ a b,F a b->G a b)->Paired G l₁ l₂
 |_,_,.nil,_=>.nil
 |_,_,.cons r t,f=>.cons (f _ _ r) (Paired.ME t f)
theorem eU.stay(x:eU P w H h a o)(k:∀ b u,(b=a\/H b=some (.own a))->h.get? b=some u->h'.get? b=some u)
 (ho:∀ b,H b=some (.own a)->H' b=some (.own a)) (ht:∀ b xs,H b=some (.tup xs)->H' b=some (.tup xs)):eU P w H' h' a o:=by
 induction o with
 |lst xs=>obtain ⟨z,its,n,r,e⟩:=x;exact ⟨z,its,n,r,k _ _ (.inl rfl) e⟩
 |tup xs=>obtain ⟨z,its,r,ob,e,c⟩:=x;exact ⟨z,its,r,ob,k _ _ (.inl rfl) e,c⟩
 |dK kvs=>obtain ⟨z,y,vs,r,ob,es,ep,e,c⟩:=x;exact ⟨z,y,vs,r,ob,es,ep,k _ _ (.inl rfl) e,c⟩
 |
  dT kvs=>
  obtain ⟨z,y,xs,r,ob,es,ep,e,c⟩:=x;exact ⟨z,y,xs,Paired.ME r fun p q z=>⟨z.1,ht _ _ z.2.1,z.2.2⟩,ob,es,ep,k _ _ (.inl rfl) e,c⟩
 |set S n=>obtain ⟨ob,es,ep,t,e,c⟩:=x;exact ⟨ob,es,ep,t,k _ _ (.inl rfl) e,c⟩
 |
  ins C dx fs=>
  obtain ⟨d,z,ne,e,mA,⟨od,es,ep,e2,c⟩,r⟩:=x;exact ⟨ho _ d,z,ne,k _ _ (.inl rfl) e,mA,⟨od,es,ep,k _ _ (.inr d) e2,c⟩,r⟩
 |own y=>obtain ⟨ob,e⟩:=x;exact ⟨ob,k _ _ (.inl rfl) e⟩
 |xd fs=>obtain ⟨mA,⟨od,es,ep,e,c⟩,r⟩:=x;exact ⟨mA,⟨od,es,ep,k _ _ (.inl rfl) e,c⟩,r⟩
 |Rg lo hi=>obtain ⟨t,u,v,e⟩:=x;exact ⟨t,u,v,k _ _ (.inl rfl) e⟩
 |n_ ob u ih=>obtain ⟨e,q⟩:=x;exact ⟨k _ _ (.inl rfl) e,ih q⟩
 |
  MD ps=>
  have e:h.get? a=some {cls:=.none,data:=.fields ps}:=x;show h'.get? a=some {cls:=.none,data:=.fields ps};exact k a _ (.inl rfl) e
 |
  met f y=>
  have e:h.get? a=some (PySem.W.methodObj (.ref f) (.ref y)):=x;show h'.get? a=some (PySem.W.methodObj (.ref f) (.ref y));exact k a _ (.inl rfl) e
 |ext φ=>obtain ⟨p,⟨o,e⟩,st⟩:=x;exact ⟨st _ _ p fun o q=>k _ _ (.inl rfl) q,⟨o,k _ _ (.inl rfl) e⟩,st⟩
theorem oW.lt(x:oW P w H h)(e:H a=some o):a<h.objs.size:=(x a o e).lt
theorem oW.fresh(x:oW P w H h)(e:h.objs.size<=a):H a=none:=by
 cases q:H a with
 |none=>rfl
 |some u=>exact absurd (Nat.lt_of_lt_of_le (x.lt q) e) (Nat.lt_irrefl _)
theorem oW.kept(x:oW P w H h)(k:∀ b u,h.get? b=some u->h'.get? b=some u):oW P w H h':=fun a o e=>
 (x a o e).stay (fun b u _ q=>k b u q) (fun _ q=>q) fun _ _ q=>q
theorem oW.laid(x:oW P w H h)(k:∀ b u,h.get? b=some u->h'.get? b=some u)(hp:h.objs.size<=a)(new:eU P w (upd H a o) h' a o):oW P w (upd H a o) h':=fun b u e=>by
 have hn:=x.fresh hp;by_cases hb:b=a
 . subst hb;rw [ao] at e;cases e;exact new
 . rw [aJ hb] at e;exact (x b u e).stay (fun c v _ q=>k c v q) (fun c q=>by rw [aJ (bg q hn)];exact q) fun c xs q=>by rw [aJ (bg q hn)];exact q
end
noncomputable def Rd(H:Hp)(a:Addr)(u:HO):Prop:=H a=some u\/∃ o,H a=some (.n_ o u)
theorem Rd.ok{P:Program}{w:World}{H:Hp}{h:Heap}{a:Addr}{u:HO}(r:Rd H a u)(x:oW P w H h):eU P w H h a u:=by
 rcases r with r|⟨o,r⟩
 . exact x a u r
 . obtain ⟨_,q⟩:=x a _ r;exact q
noncomputable def L5:Option HO->Prop
 |some (.lst _)=>True
 |some (.dK _)=>True
 |some (.dT _)=>True
 |some (.set _ _)=>True
 |some (.ins _ _ _)=>True
 |some (.ext _)=>True
 |_=>False
section
variable {P:Program}{w:World}{H:Hp}{h h':Heap}{x e:Addr}{o':HO}
theorem oW.write(ok:oW P w H h)(mu:L5 (H x))(he:e=x\/H e=some (.own x))(k:∀ b u,b≠e->h.get? b=some u->h'.get? b=some u)(Oa:∃ u,h'.get? e=some u)
 (new:eU P w (upd H x o') h' x o'):oW P w (upd H x o') h':=fun b u q=>by
 have Oz:∀ c y,H c=some (.own y)->c≠x:=fun c y r z=>by subst z;rw [r] at mu;exact mu
 have Rh:∀ c xs,H c=some (.tup xs)->c≠x:=fun c xs r z=>by subst z;rw [r] at mu;exact mu
 by_cases hb:b=x
 . subst hb;rw [ao] at q;cases q;exact new
 . rw [aJ hb] at q;by_cases MF:b=e
   . have q':H b=some (.own x):=by
      rcases he with z|z
      . exact absurd (MF.trans z) hb
      . rw [MF];exact z
     rw [q] at q';cases q';obtain ⟨v,hv⟩:=Oa;exact ⟨v,by rw [MF];exact hv⟩
   . refine (ok b u q).stay (fun c v hc r=>k c v ?_ r) (fun c r=>by rw [aJ (Oz c b r)];exact r) fun c xs r=>by rw [aJ (Rh c xs r)];exact r
     rcases hc with rfl|hc
     . exact MF
     . rintro rfl;rcases he with z|z
       . exact Oz c b hc z
       . rw [hc] at z;cases z;exact hb rfl
end
structure Un(fs ex:List Addr)(H H':Hp)(h h':Heap):Prop where
 keep:∀ b o,h.get? b=some o->H b=none->b ∉ fs->b ∉ ex->h'.get? b=some o
 slot:∀ b o,h.get? b=some o->H b=none->b∈fs->b ∉ ex->∃ sl,h'.get? b=some {o with slots:=sl}
 free:∀ b o,h.get? b=some o->H b=none->b ∉ ex->H' b=none
 there:∀ b o,h.get? b=some o->b ∉ ex->∃ o',h'.get? b=some o'
 tups:∀ b xs,H b=some (.tup xs)->H' b=some (.tup xs)
 xj:∀ b o u,H b=some (.n_ o u)->H' b=some (.n_ o u)
 AW:∀ b ps,H b=some (.MD ps)->∃ more,H' b=some (.MD (ps++more))
section
variable {fs fs' ex ex':List Addr}{H H1 H2:Hp}{h h1 h2 h':Heap}{a x e:Addr}{o:HO}
theorem Un.any(u:Un fs ex H H1 h h1){b:Addr}{ob:Obj}(q:h.get? b=some ob)(n:H b=none)(hx:b ∉ ex):∃ sl,h1.get? b=some {ob with slots:=sl}:=by
 by_cases hb:b∈fs
 . exact u.slot b ob q n hb hx
 . exact ⟨ob.slots,u.keep b ob q n hb hx⟩
theorem Un.kept(k:∀ b u,h.get? b=some u->h'.get? b=some u):Un fs ex H H h h':=
 ⟨fun b ob q _ _ _=>k b ob q,fun b ob q _ _ _=>⟨ob.slots,k b ob q⟩,fun _ _ _ n _=>n,fun b ob q _=>⟨ob,k b ob q⟩,fun _ _ q=>q,fun _ _ _ q=>q,fun _ ps q=>⟨#[],by rw [q];simp⟩⟩
theorem Un.refl:Un fs ex H H h h:=Un.kept fun _ _ q=>q
theorem Un.laid(k:∀ b u,h.get? b=some u->h'.get? b=some u)(hp:h.objs.size<=a)(hn:H a=none):Un fs ex H (upd H a o) h h' where
 keep:=fun b u q _ _ _=>k b u q
 slot:=fun b u q _ _ _=>⟨u.slots,k b u q⟩
 free:=fun b u q n _=>by rw [aJ (Nat.ne_of_lt (Nat.lt_of_lt_of_le (Heap.lt_size q) hp))];exact n
 there:=fun b u q _=>⟨u,k b u q⟩
 tups:=fun b xs q=>by rw [aJ (bg q hn)];exact q
 xj:=fun b u xs q=>by rw [aJ (bg q hn)];exact q
 AW:=fun b ps q=>⟨#[],by rw [aJ (bg q hn),q];simp⟩
theorem Un.write(mu:L5 (H x))(he:e=x\/H e=some (.own x))(k:∀ b u,b≠e->h.get? b=some u->h'.get? b=some u)(Oa:∃ u,h'.get? e=some u):Un fs ex H (upd H x o) h h':=by
 have hx:∀ b,H b=none->b≠x:=fun b n z=>by subst z;rw [n] at mu;exact mu
 have hb:∀ b,H b=none->b≠e:=fun b n z=>by
  subst z;rcases he with r|r
  . exact hx b n r
  . rw [n] at r;cases r
 have hm:∀ b u,H b=some u->¬ L5 (some u)->b≠x:=fun b u q nm z=>by subst z;rw [q] at mu;exact nm mu
 refine ⟨fun b u q n _ _=>k b u (hb b n) q,fun b u q n _ _=>⟨u.slots,k b u (hb b n) q⟩,fun b u q n _=>by rw [aJ (hx b n)];exact n,fun b u q _=>?_,
  fun b xs q=>by rw [aJ (hm b _ q fun z=>z)];exact q,fun b u xs q=>by rw [aJ (hm b _ q fun z=>z)];exact q,fun b ps q=>⟨#[],by rw [aJ (hm b _ q fun z=>z),q];simp⟩⟩
 by_cases MF:b=e
 . subst MF;exact Oa
 . exact ⟨u,k b u MF q⟩
end
noncomputable def QC(h:Heap)(H:Hp):List Addr:=(List.range h.objs.size).filter fun a=>(H a).isSome
noncomputable def AX(h:Heap)(H:Hp):Heap:=PySem.W.hideAll h (QC h H)
theorem GJ(h:Heap)(H:Hp):(AX h H).objs.size=h.objs.size:=PySem.W.hideAll_size _ _
theorem Ip{h:Heap}{H:Hp}{b:Addr}{o:Obj}(e:h.get? b=some o)(n:H b=none):(AX h H).get? b=some o:=
 PySem.W.hideAll_get _ e fun hm=>by
  have q:(H b).isSome=true:=(List.mem_filter.mp hm).2;rw [n] at q;simp at q
theorem KC{h:Heap}{H:Hp}{b:Addr}{o:Obj}(e:(AX h H).get? b=some o):h.get? b=some o/\H b=none:=by
 have e':h.get? b=some o:=PySem.W.of_hideAll (QC h H) e;refine ⟨e',?_⟩;cases q:H b with
 |none=>rfl
 |
  some x=>
  have hm:b∈QC h H:=List.mem_filter.mpr ⟨List.mem_range.mpr (Heap.lt_size e'),by simp [q]⟩;have z:(AX h H).get? b=none:=PySem.W.hideAll_none (QC h H) hm;rw [z] at e;cases e
noncomputable def KD(g h:Heap)(L:Addr):List (Addr × Obj):=(List.range h.objs.size).filterMap fun a=>if a=L\/(g.get? a).isSome=true then none else (h.get? a).map fun o=>(a,o)
noncomputable def rest(g h:Heap)(L d:Addr):List (Addr × Obj):=(KD g h L).filter fun p=>decide (p.1≠d)
end L2
namespace L2
open PySem PySem.Spec PyProof.Rows
structure Mod(K:PySem.W.Frag)(mg:Str->Option Value)(base:Heap):Prop where
 OA:K.In base
 glob:base.Ns mainGlobals mg
 blt:∃ mb,base.Ns builtinsNs mb/\∀ x:Str,x≠"__name__"->mb x=bootBuiltins x
 nolimit:base.NoLimit
 seer:base.NoSeer
structure Cx where
 prog:Program
 w:World
 K:PySem.W.Frag
 mg:Str->Option Value
 base:Heap
 A:Around
 N:List Str
 zT:Shared
 MG:Hp
 env:Env
 outer:List Env
 stack:List Env
 ex:List Addr
 fn:Str->Bool
 calm:Bool
 pn:List (Addr × Obj)
 xe:Value->Shared->Prop
noncomputable def frs(l:List Env):List Addr:=l.filterMap (·.frame)
noncomputable abbrev Cx.fs(X:Cx):List Addr:=frs X.outer
noncomputable def Ob(sc:Scope)(x:Str):Prop:=sc.names.lookup x=some .local\/sc.names.lookup x=some .cell\/sc.names.lookup x=some .free
noncomputable def Loc(sc:Scope)(x:Str):Prop:=sc.names.lookup x=some .local\/sc.names.lookup x=some .cell
noncomputable def Look(env:Env)(h:Heap)(m:Str->Option Value)(x:Str)(u:Value):Prop:=
 (env.kindOf x=some .local/\m x=some u)\/((env.kindOf x=some .cell\/env.kindOf x=some .free)/\∃ c,env.cells.lookup x=some c/\h.IsCell c (some u))
structure Cx.Ok(X:Cx):Prop where
 mod:Mod X.K X.mg X.base
 kind:X.env.scope.kind=.function
 glob:X.env.globals=mainGlobals
 blt:X.env.builtins=builtinsNs
 above:X.zT.heap.objs.size<=X.env.locals
 inj:∀ x y c,X.env.cells.lookup x=some c->X.env.cells.lookup y=some c->x=y
 has:∀ x,(X.env.kindOf x=some .cell\/X.env.kindOf x=some .free)->∃ c,X.env.cells.lookup x=some c
 OB:∀ x c,X.fn x=true->X.env.cells.lookup x=some c->X.zT.heap.objs.size<=c
 hd:X.calm=true->X.A.handled=none
 frames:X.A.frames=some X.stack
 stk:X.stack=X.outer\/(X.stack=X.env::X.outer/\X.env.frame=some X.env.locals)
 QD:∀ b∈X.ex,b≠X.env.locals/\∀ x c,X.env.cells.lookup x=some c->c≠b
 bs:∀ b o,X.base.get? b=some o->X.zT.heap.get? b=some o/\X.MG b=none
 Ks:X.base.objs.size<=X.zT.heap.objs.size
 Iq:∀ b o,X.base.get? b=some o->b ∉ X.ex
 Ir:∀ b∈X.ex,b ∉ X.fs
 wc:X.zT.heap.FunFrames X.base X.outer
 MH:∀ b∈X.fs,X.MG b=none
 top:∃ env l,X.stack=env::l/\env.scope.isGenerator=false/\env.scope.isCoroutine=false/\env.builtins=builtinsNs/\env.globals=mainGlobals
 tree:X.prog.given.tree=none
structure Inv(X:Cx)(pins:List (Addr × Obj))(σ:List (Option V))(H:Hp)(s:Shared):Prop where
 ok:X.Ok
 os:s.os=X.zT.os
 bare:AllBare s.gens
 base:Un X.fs X.ex X.MG H X.zT.heap s.heap
 loc:∃ m,s.heap.Ns X.env.locals m/\∀ (i:Nat) (x:Str) (v:V),X.N[i]?=some x->σ[i]?=some (some v)->Ob X.env.scope x->∃ u,RelV v u/\Look X.env s.heap m x u
 cell:∀ x c,X.env.cells.lookup x=some c->∃ v,s.heap.IsCell c v
 free:H X.env.locals=none
 mS:∀ x c,X.env.cells.lookup x=some c->H c=none
 pin:∀ p∈X.pn++pins,s.heap.get? p.1=some p.2/\H p.1=none/\p.1≠X.env.locals/\p.1 ∉ X.fs/\∀ v,p.2.data≠.cell v
 hok:oW X.prog X.w H s.heap
 len:σ.length=X.N.length
section
variable {X:Cx}{pins:List (Addr × Obj)}{σ:List (Option V)}{H H':Hp}{s:Shared}{h':Heap}
theorem Cx.Ok.Ri(ok:X.Ok){b:Addr}{o:Obj}(e:X.base.get? b=some o):b ∉ X.fs:=fun hb=>by
 have:=(ok.wc.mem hb).1;rw [e] at this;cases this
theorem Inv.bs(I:Inv X pins σ H s):∀ b o,X.base.get? b=some o->s.heap.get? b=some o/\H b=none:=fun b o e=>
 ⟨I.base.keep b o (I.ok.bs b o e).1 (I.ok.bs b o e).2 (I.ok.Ri e) (I.ok.Iq b o e),I.base.free b o (I.ok.bs b o e).1 (I.ok.bs b o e).2 (I.ok.Iq b o e)⟩
theorem Inv.bk(I:Inv X pins σ H s):∀ b o,X.base.get? b=some o->s.heap.get? b=some o:=fun b o e=>(I.bs b o e).1
theorem Inv.mod(I:Inv X pins σ H s):Mod X.K X.mg X.base:=I.ok.mod
theorem Inv.Fx(I:Inv X pins σ H s):X.K.In s.heap:=I.ok.mod.OA.keeps I.bk
theorem Inv.nolimit(I:Inv X pins σ H s):s.heap.NoLimit:=I.ok.mod.nolimit.keeps I.bk
theorem Inv.fr(I:Inv X pins σ H s):∃ m,Fr X.base X.env.locals s.heap m:=
 let ⟨m,hn,_⟩:=I.loc
 ⟨m,hn,I.bk,Nat.le_trans I.ok.Ks I.ok.above⟩
theorem Inv.lt(I:Inv X pins σ H s):X.env.locals<s.heap.objs.size:=let ⟨_,hn,_⟩:=I.loc;hn.lt
theorem Inv.sz(I:Inv X pins σ H s):X.zT.heap.objs.size<=s.heap.objs.size:=Nat.le_trans I.ok.above (Nat.le_of_lt I.lt)
theorem Inv.Rj(I:Inv X pins σ H s){a:Addr}(h:s.heap.objs.size<=a):a ∉ X.fs:=fun hb=>by
 obtain ⟨_,o,ho,_⟩:=I.ok.wc.mem hb;exact absurd (Nat.lt_of_lt_of_le (Heap.lt_size ho) (Nat.le_trans I.sz h)) (Nat.lt_irrefl _)
theorem Inv.MI(I:Inv X pins σ H s):∀ x c,X.env.cells.lookup x=some c->c≠X.env.locals:=fun x c e z=>by
 obtain ⟨v,o,ho,hd⟩:=I.cell x c e;obtain ⟨m,⟨o',es,ep,ho',hd',_⟩,_⟩:=I.loc;rw [z,ho'] at ho;cases ho;rw [hd'] at hd;cases hd
theorem Inv.wc(I:Inv X pins σ H s):s.heap.FunFrames X.base X.outer:=by
 have all:∀ (l:List Env),(∀ b∈frs l,b∈X.fs)->X.zT.heap.FunFrames X.base l->s.heap.FunFrames X.base l:=by
  intro l
  induction l with
  |nil=>intro _ _;trivial
  |
   cons env r ih=>
   intro hs hl;obtain ⟨hk,⟨L,o,hf,hn,ho,hd⟩,hr⟩:=hl;have hL:L∈X.fs:=hs L (by unfold frs;rw [List.filterMap_cons,hf];exact List.mem_cons_self);obtain ⟨sl,e⟩:=I.base.slot L o ho (I.ok.MH L hL) hL fun z=>I.ok.Ir L z hL;exact ⟨hk,⟨L,_,hf,hn,e,hd⟩,ih (fun b hb=>hs b (by unfold frs;rw [List.filterMap_cons,hf];exact List.mem_cons_of_mem _ hb)) hr⟩
 exact all X.outer (fun _ hb=>hb) I.ok.wc
theorem Inv.stack(I:Inv X pins σ H s):s.heap.FunFrames X.base X.stack:=by
 rcases I.ok.stk with e|⟨e,hf⟩
 . rw [e];exact I.wc
 . rw [e];obtain ⟨m,hn,_⟩:=I.loc;refine .cons (by rw [I.ok.kind];decide) hf hn ?_ I.wc;exact Heap.get?_none_of_le (Nat.le_trans I.ok.Ks I.ok.above)
theorem Inv.DY(I:Inv X pins σ H s):∀ b∈frs X.stack,b∈X.env.locals::X.fs:=fun b hb=>by
 rcases I.ok.stk with e|⟨e,hf⟩
 . rw [e] at hb;exact List.mem_cons_of_mem _ hb
 . rw [e] at hb;unfold frs at hb;rw [List.filterMap_cons,hf] at hb;exact hb
theorem Inv.Fy(I:Inv X pins σ H s):∀ b∈frs X.stack,H b=none:=fun b hb=>by
 rcases List.mem_cons.mp (I.DY b hb) with e|hb
 . rw [e];exact I.free
 . obtain ⟨_,o,ho,_⟩:=I.ok.wc.mem hb;exact I.base.free b o ho (I.ok.MH b hb) fun z=>I.ok.Ir b z hb
theorem Inv.step{g':Array GenState}{t':Nat}{d':Drawn}{ch:List Addr}(I:Inv X pins σ H s)
 (hch:∀ b∈ch,(b∈X.ex\/X.zT.heap.objs.size<=b)/\b≠X.env.locals/\(∀ x c,X.env.cells.lookup x=some c->c≠b)/\∀ p∈X.pn++pins,p.1≠b)
 (keep:∀ b o,b≠X.env.locals->b ∉ X.fs->b ∉ ch->s.heap.get? b=some o->H b=none->h'.get? b=some o)
 (slot:∀ b o,b≠X.env.locals->b∈X.fs->b ∉ ch->s.heap.get? b=some o->H b=none->∃ sl,h'.get? b=some {o with slots:=sl}) (free:∀ b o,b ∉ ch->s.heap.get? b=some o->H b=none->H' b=none)
 (there:∀ b o,b ∉ ch->s.heap.get? b=some o->∃ o',h'.get? b=some o')
 (tups:∀ b xs,H b=some (.tup xs)->H' b=some (.tup xs)) (xj:∀ b o u,H b=some (.n_ o u)->H' b=some (.n_ o u)) (AW:∀ b ps,H b=some (.MD ps)->∃ more,H' b=some (.MD (ps++more)))
 (ns:∀ m,s.heap.Ns X.env.locals m->h'.Ns X.env.locals m) (hok:oW X.prog X.w H' h') (hg:AllBare g') :
 Inv X pins σ H' {s with heap:=h',gens:=g',drawn:=d',toks:=t'}:=by
 have TH:∀ b o,X.zT.heap.get? b=some o->b≠X.env.locals:=fun b o e=>Nat.ne_of_lt (Nat.lt_of_lt_of_le (Heap.lt_size e) I.ok.above);have QE:∀ b o,X.zT.heap.get? b=some o->b ∉ X.ex->b ∉ ch:=fun b o e hx hb=>by
  rcases (hch b hb).1 with z|z
  . exact hx z
  . exact absurd (Nat.lt_of_lt_of_le (Heap.lt_size e) z) (Nat.lt_irrefl _)
 have cellK:∀ x c,X.env.cells.lookup x=some c->∀ v,s.heap.IsCell c v->h'.IsCell c v:=fun x c e v ⟨o,ho,hd⟩=>by
  have OC:c ∉ ch:=fun z=>(hch c z).2.2.1 x c e rfl;by_cases hc:c∈X.fs
  . obtain ⟨sl,q⟩:=slot c o (I.MI x c e) hc OC ho (I.mS x c e);exact ⟨_,q,hd⟩
  . exact ⟨o,keep c o (I.MI x c e) hc OC ho (I.mS x c e),hd⟩
 refine ⟨I.ok,I.os,hg,⟨fun b o e n hb hx=>?_,fun b o e n hb hx=>?_,fun b o e n hx=>?_,fun b o e hx=>?_,fun b xs e=>tups b xs (I.base.tups b xs e),fun b o xs e=>xj b o xs (I.base.xj b o xs e),fun b ps e=>?_⟩,?_,fun x c e=>?_,?_,fun x c e=>?_,fun p hp=>?_,hok,I.len⟩
 . exact keep b o (TH b o e) hb (QE b o e hx) (I.base.keep b o e n hb hx) (I.base.free b o e n hx)
 . obtain ⟨sl,e1⟩:=I.base.slot b o e n hb hx;obtain ⟨UA,e2⟩:=slot b _ (TH b o e) hb (QE b o e hx) e1 (I.base.free b o e n hx);exact ⟨UA,e2⟩
 . obtain ⟨o',e1⟩:=I.base.there b o e hx;exact free b o' (QE b o e hx) e1 (I.base.free b o e n hx)
 . obtain ⟨o',e1⟩:=I.base.there b o e hx;exact there b o' (QE b o e hx) e1
 . obtain ⟨m1,e1⟩:=I.base.AW b ps e;obtain ⟨m2,e2⟩:=AW b _ e1;exact ⟨m1++m2,by rw [e2,Array.append_assoc]⟩
 . obtain ⟨m,hn,hl⟩:=I.loc;refine ⟨m,ns m hn,fun i x v e1 e2 e3=>?_⟩;obtain ⟨u,r,l⟩:=hl i x v e1 e2 e3;refine ⟨u,r,?_⟩;rcases l with l|⟨k,c,e,z⟩
   . exact .inl l
   . exact .inr ⟨k,c,e,cellK x c e _ z⟩
 . obtain ⟨v,z⟩:=I.cell x c e;exact ⟨v,cellK x c e v z⟩
 . obtain ⟨m,⟨o,_,_,ho,_⟩,_⟩:=I.loc;exact free _ o (fun z=>(hch _ z).2.1 rfl) ho I.free
 . obtain ⟨v,o,ho,hd⟩:=I.cell x c e;exact free c o (fun z=>(hch c z).2.2.1 x c e rfl) ho (I.mS x c e)
 . obtain ⟨e,n,ne,nf,d⟩:=I.pin p hp;have OC:p.1 ∉ ch:=fun z=>(hch p.1 z).2.2.2 p hp rfl;exact ⟨keep p.1 p.2 ne nf OC e n,free p.1 p.2 OC e n,ne,nf,d⟩
theorem Inv.un{t':Nat}(I:Inv X pins σ H s)(u:Un X.fs [] H H' s.heap h')(hok:oW X.prog X.w H' h'):Inv X pins σ H' {s with heap:=h',toks:=t'}:=by
 obtain ⟨m,⟨o,es,ep,ho,r⟩,_⟩:=id I.loc;obtain ⟨sl,hL⟩:=u.any ho I.free (by simp);exact I.step (g':=s.gens) (d':=s.drawn) (ch:=[]) (fun _ z=>nomatch z) (fun b o _ hb _ e n=>u.keep b o e n hb (by simp)) (fun b o _ hb _ e n=>u.slot b o e n hb (by simp)) (fun b o _ e n=>u.free b o e n (by simp)) (fun b o _ e=>u.there b o e (by simp)) u.tups u.xj u.AW (fun m' hm=>by
  obtain ⟨o',es',Rk,ho',r'⟩:=hm;rw [ho] at ho';cases ho';exact ⟨_,es',Rk,hL,r'⟩) hok I.bare
theorem Inv.call{g':Array GenState}{t':Nat}{d':Drawn}{ch:List Addr}(I:Inv X pins σ H s)(u:Un (frs X.stack) ch H H' s.heap h')(hok:oW X.prog X.w H' h')(hg:AllBare g')
 (hch:∀ b∈ch,(b∈X.ex\/X.zT.heap.objs.size<=b)/\b≠X.env.locals/\(∀ x c,X.env.cells.lookup x=some c->c≠b)/\∀ p∈X.pn++pins,p.1≠b) :
 Inv X pins σ H' {s with heap:=h',gens:=g',drawn:=d',toks:=t'}:=by
 obtain ⟨m,⟨o,es,ep,ho,r⟩,_⟩:=id I.loc;obtain ⟨sl,hL⟩:=u.any ho I.free fun z=>(hch _ z).2.1 rfl;exact I.step (ch:=ch) hch (fun b o hL hb hc e n=>u.keep b o e n (fun z=>(List.mem_cons.mp (I.DY b z)).elim hL hb) hc) (fun b o _ _ hc e n=>u.any e n hc) (fun b o hc e n=>u.free b o e n hc) (fun b o hc e=>u.there b o e hc) u.tups u.xj u.AW (fun m' hm=>by
  obtain ⟨o',es',Rk,ho',r'⟩:=hm;rw [ho] at ho';cases ho';exact ⟨_,es',Rk,hL,r'⟩) hok hg
theorem Inv.turned{t':Nat}{it:Addr}(I:Inv X pins σ H s)(k:∀ b o,b≠it->s.heap.get? b=some o->h'.get? b=some o)(hn:H it=none)(hL:it≠X.env.locals)
 (h1:it∈X.ex\/X.zT.heap.objs.size<=it) (h2:∀ x c,X.env.cells.lookup x=some c->c≠it) (h3:∀ p∈X.pn++pins,p.1≠it):Inv X pins σ H {s with heap:=h',toks:=t'}:=by
 have L6:∀ b u,H b=some u->b≠it:=fun b u e z=>by rw [z,hn] at e;cases e
 refine I.step (g':=s.gens) (d':=s.drawn) (ch:=[it]) (fun b hb=>?_) (fun b o _ _ hc e _=>k b o (fun z=>hc (by simp [z])) e) (fun b o _ _ hc e _=>⟨o.slots,k b o (fun z=>hc (by simp [z])) e⟩) (fun _ _ _ _ n=>n)
  (fun b o hc e=>⟨o,k b o (fun z=>hc (by simp [z])) e⟩) (fun _ _ e=>e) (fun _ _ _ e=>e) (fun b ps e=>⟨#[],by rw [e];simp⟩) (fun m hm=>?_) (fun b u e=>?_) I.bare
 . have e:b=it:=by simpa using hb
   subst e;exact ⟨h1,hL,h2,h3⟩
 . obtain ⟨o,es,ep,ho,r⟩:=hm;exact ⟨o,es,ep,k _ o (Ne.symm hL) ho,r⟩
 . refine (I.hok b u e).stay (fun c v hc q=>k c v ?_ q) (fun _ q=>q) fun _ _ q=>q;rcases hc with z|z
   . rw [z];exact L6 b u e
   . exact L6 c _ z
theorem Inv.tok(I:Inv X pins σ H s)(t:Nat):Inv X pins σ H {s with toks:=t}:=I.un (h':=s.heap) (t':=t) Un.refl I.hok
theorem Inv.kept{t':Nat}(I:Inv X pins σ H s)(k:∀ b u,s.heap.get? b=some u->h'.get? b=some u):Inv X pins σ H {s with heap:=h',toks:=t'}:=I.un (Un.kept k) (I.hok.kept k)
theorem Inv.laid{a:Addr}{o:HO}{t':Nat}(I:Inv X pins σ H s)(k:∀ b u,s.heap.get? b=some u->h'.get? b=some u)(hp:s.heap.objs.size<=a)(new:eU X.prog X.w (upd H a o) h' a o) :
 Inv X pins σ (upd H a o) {s with heap:=h',toks:=t'}:=I.un (Un.laid k hp (I.hok.fresh hp)) (I.hok.laid k hp new)
theorem Inv.write{x e:Addr}{o:HO}{t':Nat}(I:Inv X pins σ H s)(mu:L5 (H x))(he:e=x\/H e=some (.own x))(k:∀ b u,b≠e->s.heap.get? b=some u->h'.get? b=some u)(Oa:∃ u,h'.get? e=some u)
 (new:eU X.prog X.w (upd H x o) h' x o):Inv X pins σ (upd H x o) {s with heap:=h',toks:=t'}:=I.un (Un.write mu he k Oa) (I.hok.write mu he k Oa new)
theorem Inv.weak{σ':List (Option V)}(I:Inv X pins σ H s)(hl:σ'.length=σ.length)(w:∀ (i:Nat) v,σ'[i]?=some (some v)->σ[i]?=some (some v)):Inv X pins σ' H s:=
 ⟨I.ok,I.os,I.bare,I.base,let ⟨m,hn,hl'⟩:=I.loc;⟨m,hn,fun i x v e1 e2 e3=>hl' i x v e1 (w i v e2) e3⟩,I.cell,I.free,I.mS,I.pin,I.hok,hl.trans I.len⟩
theorem Inv.FA{L7:List (Addr × Obj)}(I:Inv X pins σ H s)(h:∀ p∈L7,s.heap.get? p.1=some p.2/\H p.1=none/\p.1≠X.env.locals/\p.1 ∉ X.fs/\∀ v,p.2.data≠.cell v):Inv X L7 σ H s:=
 ⟨I.ok,I.os,I.bare,I.base,I.loc,I.cell,I.free,I.mS,fun p hp=>(List.mem_append.mp hp).elim (fun z=>I.pin p (List.mem_append_left _ z)) (h p),I.hok,I.len⟩
theorem xm{N:List Str}(hN:N.Nodup){i j:Nat}{x:Str}(a:N[i]?=some x)(b:N[j]?=some x):i=j:=by
 obtain ⟨h1,e1⟩:=List.getElem?_eq_some_iff.mp a;obtain ⟨h2,e2⟩:=List.getElem?_eq_some_iff.mp b;exact (List.getElem_inj hN).mp (e1.trans e2.symm)
theorem zU{M:Model}{A:Around}{E:Value->Shared->Prop}{i:Nat}{x:Str}{v:V}{u:Value}{Q:Unit->Shared->Prop}(I:Inv X pins σ H s)(hN:X.N.Nodup)(hi:X.N[i]?=some x)(hx:Loc X.env.scope x)(r:RelV v u)
 (h:∀ s',Inv X pins (σ.set i (some v)) H s'->(∃ a,Heap.SameBut a s.heap s'.heap/\(a=X.env.locals\/X.env.cells.lookup x=some a))->Q () s') (hf:X.fn x=true\/X.env.scope.names.lookup x=some .local:=by first|exact .inl rfl|exact .inr rfl|assumption):wpAny M A (storeName X.env x u) Q E s:=by
 obtain ⟨m,hn,hl⟩:=id I.loc;have hcls:(X.env.scope.kind == .class || (X.env.scope.kind == .module && X.env.locals != X.env.globals))=false:=by rw [I.ok.kind];rfl
 have hiσ:i<σ.length:=by rw [I.len];exact (List.getElem?_eq_some_iff.mp hi).1
 have MI:=I.MI;have tracked:∀ {a:Addr} {h':Heap},(∃ o,s.heap.get? a=some o/\H a=none)->Heap.SameBut a s.heap h'->oW X.prog X.w H h':=fun {a h'} ha hs b ob e=>by
  obtain ⟨_,_,hfree⟩:=ha;refine (I.hok b ob e).stay (fun c w' hc q=>(hs.2 c ?_).trans q) (fun _ q=>q) fun _ _ q=>q;rintro rfl;rcases hc with rfl|hc
  . rw [hfree] at e;cases e
  . rw [hfree] at hc;cases hc
 rcases hx with hk|hk
 . refine wpAny_storeName_local hk hn (fun h' hn' hs=>?_) hcls;obtain ⟨oL,_,_,UB,_⟩:=id hn;refine h _ ⟨I.ok,I.os,I.bare,⟨fun b o e n hb hx=>?_,fun b o e n hb hx=>?_,I.base.free,fun b o e hx=>?_,I.base.tups,I.base.xj,I.base.AW⟩,⟨_,hn',fun j y v' e1 e2 e3=>?_⟩,fun y c e=>?_,I.free,I.mS,fun p hp=>?_,tracked ⟨oL,UB,I.free⟩ hs,by simpa using I.len⟩ ⟨_,hs,.inl rfl⟩
   . exact (hs.2 b (Nat.ne_of_lt (Nat.lt_of_lt_of_le (Heap.lt_size e) I.ok.above))).trans (I.base.keep b o e n hb hx)
   . obtain ⟨sl,e1⟩:=I.base.slot b o e n hb hx;exact ⟨sl,(hs.2 b (Nat.ne_of_lt (Nat.lt_of_lt_of_le (Heap.lt_size e) I.ok.above))).trans e1⟩
   . obtain ⟨o',e1⟩:=I.base.there b o e hx;exact ⟨o',(hs.2 b (Nat.ne_of_lt (Nat.lt_of_lt_of_le (Heap.lt_size e) I.ok.above))).trans e1⟩
   . by_cases hj:j=i
     . subst hj;rw [hi] at e1;cases e1;rw [List.getElem?_set_self hiσ] at e2;cases e2;exact ⟨u,r,.inl ⟨hk,by simp⟩⟩
     . rw [List.getElem?_set_ne (Ne.symm hj)] at e2;obtain ⟨u',r',q⟩:=hl j y v' e1 e2 e3;refine ⟨u',r',?_⟩;rcases q with ⟨k,e⟩|⟨k,c,e,z⟩
       . refine .inl ⟨k,?_⟩;have:y≠x:=fun e=>hj (xm hN e1 (e ▸ hi));simp [this,e]
       . exact .inr ⟨k,c,e,z.sameBut hs (MI y c e)⟩
   . obtain ⟨w',z⟩:=I.cell y c e;exact ⟨w',z.sameBut hs (MI y c e)⟩
   . obtain ⟨e,n,ne,nf,d⟩:=I.pin p hp;exact ⟨(hs.2 p.1 ne).trans e,n,ne,nf,d⟩
 . have hfn:X.fn x=true:=by
    rcases hf with z|z
    . exact z
    . rw [z] at hk;cases hk
   obtain ⟨c,hc⟩:=I.ok.has x (.inl hk);obtain ⟨w',z⟩:=I.cell x c hc;refine wpAny_storeName_cell I.ok.kind hk hc z (fun h' hc' hs=>?_);obtain ⟨oc,hoc,Rm⟩:=id z;refine h {s with heap:=h'} ⟨I.ok,I.os,I.bare,⟨fun b o e n hb hx=>?_,fun b o e n hb hx=>?_,I.base.free,fun b o e hx=>?_,I.base.tups,I.base.xj,I.base.AW⟩,⟨m,hn.sameBut hs (Ne.symm (MI x c hc)),fun j y v' e1 e2 e3=>?_⟩,fun y c' e=>?_,I.free,I.mS,fun p hp=>?_,tracked ⟨oc,hoc,I.mS x c hc⟩ hs,by simpa using I.len⟩ ⟨c,hs,.inr hc⟩
   . exact (hs.2 b (Nat.ne_of_lt (Nat.lt_of_lt_of_le (Heap.lt_size e) (I.ok.OB x c hfn hc)))).trans (I.base.keep b o e n hb hx)
   . obtain ⟨sl,e1⟩:=I.base.slot b o e n hb hx;exact ⟨sl,(hs.2 b (Nat.ne_of_lt (Nat.lt_of_lt_of_le (Heap.lt_size e) (I.ok.OB x c hfn hc)))).trans e1⟩
   . obtain ⟨o',e1⟩:=I.base.there b o e hx;exact ⟨o',(hs.2 b (Nat.ne_of_lt (Nat.lt_of_lt_of_le (Heap.lt_size e) (I.ok.OB x c hfn hc)))).trans e1⟩
   . by_cases hj:j=i
     . subst hj;rw [hi] at e1;cases e1;rw [List.getElem?_set_self hiσ] at e2;cases e2;exact ⟨u,r,.inr ⟨.inl hk,c,hc,hc'⟩⟩
     . rw [List.getElem?_set_ne (Ne.symm hj)] at e2;obtain ⟨u',r',q⟩:=hl j y v' e1 e2 e3;refine ⟨u',r',?_⟩;rcases q with q|⟨k,c',e,z'⟩
       . exact .inl q
       . refine .inr ⟨k,c',e,z'.sameBut hs ?_⟩;rintro rfl;exact hj (xm hN e1 (I.ok.inj _ _ _ e hc ▸ hi))
   . by_cases hcc:c'=c
     . subst hcc;exact ⟨_,hc'⟩
     . obtain ⟨w2,z2⟩:=I.cell y c' e;exact ⟨w2,z2.sameBut hs hcc⟩
   . obtain ⟨e,n,ne,nf,d⟩:=I.pin p hp;refine ⟨(hs.2 p.1 ?_).trans e,n,ne,nf,d⟩;intro q;rw [q,hoc] at e;have q':oc=p.2:=Option.some.inj e;exact d w' (by rw [<-q'];exact Rm)
theorem xo{M:Model}{A:Around}{E:Value->Shared->Prop}{i:Nat}{x:Str}{v:V}{u:Value}{Q:Unit->Shared->Prop}(I:Inv X pins σ H s)(hN:X.N.Nodup)(hi:X.N[i]?=some x)(hx:Loc X.env.scope x)(r:RelV v u)
 (h:∀ s',Inv X pins (σ.set i (some v)) H s'->Q () s') (hf:X.fn x=true\/X.env.scope.names.lookup x=some .local:=by first|exact .inl rfl|exact .inr rfl|assumption):wpAny M A (storeName X.env x u) Q E s:=
 zU I hN hi hx r (fun s' I' _=>h s' I') hf
theorem Inv.OD{s':Shared}{ch:List Addr}(I:Inv X pins σ H s)(ho:s'.os=s.os)(u:Un (frs X.stack) ch H H' s.heap s'.heap)(hok:oW X.prog X.w H' s'.heap)(hg:AllBare s'.gens)
 (hch:∀ b∈ch,(b∈X.ex\/X.zT.heap.objs.size<=b)/\b≠X.env.locals/\(∀ x c,X.env.cells.lookup x=some c->c≠b)/\∀ p∈X.pn++pins,p.1≠b):Inv X pins σ H' s':=by
 obtain ⟨h',g',d',t',o'⟩:=s';have e:o'=s.os:=ho;subst e;exact I.call (g':=g') (t':=t') (d':=d') u hok hg hch
end
noncomputable abbrev XK:=Value->Option Addr->Hp->Prop
noncomputable abbrev St:=List (Option V)
noncomputable abbrev VK:=V->Hp->Prop
noncomputable abbrev TE:=St->Hp->VK->Prop
noncomputable abbrev TT:=St->Hp->(Bool->Hp->Prop)->Prop
noncomputable abbrev TA:=St->Hp->(List V->Hp->Prop)->Prop
structure Ends where
 nx:St->Hp->Prop
 rt:VK
 bk:St->Hp->Prop:=fun _ _=>False
 ct:St->Hp->Prop:=fun _ _=>False
noncomputable abbrev TS:=Ends->St->Hp->Prop
noncomputable def EP(X:Cx)(pins:List (Addr × Obj))(σ:St)(Q:VK)(u:Value)(s':Shared):Prop:=∃ v H',Inv X pins σ H' s'/\RelV v u/\Q v H'
noncomputable def TP(X:Cx)(pins:List (Addr × Obj))(σ:St)(Q:Bool->Hp->Prop)(b:Bool)(s':Shared):Prop:=∃ H',Inv X pins σ H' s'/\Q b H'
noncomputable def AP(X:Cx)(pins:List (Addr × Obj))(σ:St)(Q:List V->Hp->Prop)(us:List Value)(s':Shared):Prop:=∃ vs H',Inv X pins σ H' s'/\Vals vs us/\Q vs H'
noncomputable def SP(X:Cx)(pins:List (Addr × Obj))(D:Ends)(f:Flow)(s':Shared):Prop:=
 match f with
 |.next=>∃ σ' H',Inv X pins σ' H' s'/\D.nx σ' H'
 |.brk=>∃ σ' H',Inv X pins σ' H' s'/\D.bk σ' H'
 |.cont=>∃ σ' H',Inv X pins σ' H' s'/\D.ct σ' H'
 |.ret u=>∃ v σ' H',Inv X pins σ' H' s'/\RelV v u/\D.rt v H'
noncomputable def PE(X:Cx)(e:Expr)(t:TE):Prop:=
 ∀ (pins:List (Addr × Obj)) (s:Shared) (σ:St) (H:Hp) (Q:VK),Inv X pins σ H s->t σ H Q->wpAny (model X.prog X.w) X.A (eval e X.env) (EP X pins σ Q) X.xe s
noncomputable def PT(X:Cx)(e:Expr)(t:TT):Prop:=
 ∀ (pins:List (Addr × Obj)) (s:Shared) (σ:St) (H:Hp) (Q:Bool->Hp->Prop),Inv X pins σ H s->t σ H Q->wpAny (model X.prog X.w) X.A (isTrue e X.env (eval e X.env)) (TP X pins σ Q) X.xe s
noncomputable def PW(X:Cx)(e:Expr)(t:TT):Prop:=
 ∀ (whole:Sem Value) (pins:List (Addr × Obj)) (s:Shared) (σ:St) (H:Hp) (Q:Bool->Hp->Prop),Inv X pins σ H s->t σ H Q->wpAny (model X.prog X.w) X.A (isTrue e X.env whole) (TP X pins σ Q) X.xe s
theorem PW.pt{X:Cx}{e:Expr}{t:TT}(h:PW X e t):PT X e t:=h _
noncomputable def PA(X:Cx)(es:List Expr)(t:TA):Prop:=
 ∀ (pos:Pos) (pins:List (Addr × Obj)) (s:Shared) (σ:St) (H:Hp) (Q:List V->Hp->Prop),Inv X pins σ H s->t σ H Q->wpAny (model X.prog X.w) X.A (spliced (backTo pos (starEach es X.env))) (AP X pins σ Q) X.xe s
noncomputable def PS(X:Cx)(st:Stmt)(t:TS):Prop:=
 ∀ (pins:List (Addr × Obj)) (s:Shared) (σ:St) (H:Hp) (D:Ends),Inv X pins σ H s->t D σ H->wpAny (model X.prog X.w) X.A (exec st X.env) (SP X pins D) X.xe s
noncomputable def Cm(X:Cx)(st:List Stmt)(t:TS):Prop:=
 ∀ (pins:List (Addr × Obj)) (s:Shared) (σ:St) (H:Hp) (D:Ends),Inv X pins σ H s->t D σ H->wpAny (model X.prog X.w) X.A (execs st X.env) (SP X pins D) X.xe s
theorem fc{α:Type}{t:Sem α}{Q Q':α->Shared->Prop}{M:Model}{A:Around}{E:Value->Shared->Prop}{s:Shared}(h:wpAny M A t Q E s)(hQ:∀ a s,Q a s->Q' a s):wpAny M A t Q' E s:=wpAny_mono h hQ fun _ _ x=>x
end L2
namespace L2
open PySem PySem.Spec PyProof.Rows
section
variable {X:Cx}
theorem bin{a b:Expr}{ta tb:TE}(ha:PE X a ta)(hb:PE X b tb){pins:List (Addr × Obj)}{s:Shared}{σ:St}{H:Hp}{R:V->V->Hp->Prop}(I:Inv X pins σ H s)(h:ta σ H fun x H1=>tb σ H1 fun y H2=>R x y H2)
 {α:Type} {Q:α->Shared->Prop} {f:Value->Value->Sem α}
 (hf:∀ v u s2 x y H2,Inv X pins σ H2 s2->RelV x v->RelV y u->R x y H2->wpAny (model X.prog X.w) X.A (f v u) Q X.xe s2) :
 wpAny (model X.prog X.w) X.A (eval a X.env) (fun v s₁=>wpAny (model X.prog X.w) X.A (eval b X.env) (fun u s₂=>wpAny (model X.prog X.w) X.A (f v u) Q X.xe s₂) X.xe s₁) X.xe s:=by
 refine fc (ha pins s σ H _ I h) fun v s1 ⟨x,H1,I1,r1,q1⟩=>?_;refine fc (hb pins s1 σ H1 _ I1 q1) fun u s2 ⟨y,H2,I2,r2,q2⟩=>?_;exact hf v u s2 x y H2 I2 r1 r2 q2
noncomputable def KG(i:Nat):TE:=fun σ H Q=>∃ v,σ[i]?=some (some v)/\Q v H
noncomputable def tC(v:V):TE:=fun _ H Q=>Q v H
theorem MJ{i:Nat}{x:Str}{pos:Pos}(hN:X.N[i]?=some x)(hv:Ob X.env.scope x)(hd:(x == ("__debug__":Str))=false:=by decide)(hcd:(x == ("__classdict__":Str))=false:=by decide):PE X (.Name x pos) (KG i):=by
 intro pins s σ H Q I h;obtain ⟨v,e,h⟩:=h;obtain ⟨m,hn,hl⟩:=I.loc;obtain ⟨u,r,l⟩:=hl i x v hN e hv;have fin:EP X pins σ Q u s:=⟨v,H,I,r,h⟩
 rcases l with ⟨hk,hm⟩|⟨hk,c,hc,hcell⟩
 . exact wpAny_Name (wpAny_loadName_local I.ok.kind hk hn hm fin) hd
 . rcases hk with hk|hk
   . exact wpAny_Name (wpAny_loadName_cell I.ok.kind hk hc hcell fin) hd
   . exact wpAny_Name (wpAny_loadName_free I.ok.kind hk hc hcell fin hcd) hd
theorem ay{i j pos}:PE X (.Constant (.int i) j pos) (tC (.int i)):=fun _ _ _ H _ I h=>wpAny_Constant_int ⟨.int i,H,I.tok _,⟨_,rfl⟩,h⟩
theorem FD{b j pos}:PE X (.Constant (.bool b) j pos) (tC (.bl b)):=fun _ _ _ H _ I h=>Constant_bool ⟨.bl b,H,I,rfl,h⟩
theorem bF{j pos}:PE X (.Constant .none j pos) (tC .non):=fun _ _ _ H _ I h=>Constant_none ⟨.non,H,I,rfl,h⟩
noncomputable def Gl(X:Cx)(x:Str):Prop:=X.env.kindOf x=some .globalImplicit
theorem wW{E:Value->Shared->Prop}{pins:List (Addr × Obj)}{s:Shared}{σ:St}{H:Hp}{x:Str}{u:Value}{pos:Pos}{Q:Value->Shared->Prop}(I:Inv X pins σ H s)(hg:Gl X x)(hm:X.mg x=some u)(h:Q u s)
 (hd:(x == ("__debug__":Str))=false:=by decide):wpAny (model X.prog X.w) X.A (eval (.Name x pos) X.env) Q E s:=
 Calls.Name_function_global I.ok.kind hg (Calls.loadGlobal_global (by rw [I.ok.glob];exact I.mod.glob.keeps I.bk) hm h) hd
theorem uh{E:Value->Shared->Prop}{pins:List (Addr × Obj)}{s:Shared}{σ:St}{H:Hp}{x:Str}{u:Value}{pos:Pos}{Q:Value->Shared->Prop}(I:Inv X pins σ H s)(hg:Gl X x)(hm:X.mg x=none)(hv:bootBuiltins x=some u)(h:Q u s)
 (hn:x≠"__name__":=by decide) (hd:(x == ("__debug__":Str))=false:=by decide):wpAny (model X.prog X.w) X.A (eval (.Name x pos) X.env) Q E s:=by
 obtain ⟨mb,h1,h2⟩:=I.mod.blt;exact Calls.Name_function_global I.ok.kind hg (Calls.loadGlobal_builtin (by rw [I.ok.glob];exact I.mod.glob.keeps I.bk) hm (by rw [I.ok.blt];exact h1.keeps I.bk) ((h2 x hn).trans hv) h) hd
theorem FE{x:Str}{v:V}{u:Value}{pos:Pos}(hg:Gl X x)(hm:X.mg x=some u)(r:RelV v u)(hd:(x == ("__debug__":Str))=false:=by decide):PE X (.Name x pos) (tC v):=
 fun _ _ _ H _ I h=>wW I hg hm ⟨v,H,I,r,h⟩ hd
variable {a b:Expr}{ta tb:TE}{pos:Pos}
noncomputable def PC(X:Cx)(op:CmpOp)(a b:Expr)(t:TE):Prop:=
 ∀ (pins:List (Addr × Obj)) (s:Shared) (σ:St) (H:Hp) (Q:VK),Inv X pins σ H s->t σ H Q->
  wpAny (model X.prog X.w) X.A (eval a X.env) (fun v s₁=>wpAny (model X.prog X.w) X.A (eval b X.env) (fun u s₂=>wpAny (model X.prog X.w) X.A (compareOp op v u) (EP X pins σ Q) X.xe s₂) X.xe s₁) X.xe s
theorem Iu(b:Expr){op:CmpOp}(h:op≠.In)(h2:op≠.NotIn):behindInMarks op b=false:=by
 have e1:(op == CmpOp.In)=false:=by cases op<;>first|rfl|exact absurd rfl h
 have e2:(op == CmpOp.NotIn)=false:=by cases op<;>first|rfl|exact absurd rfl h2
 cases b<;>simp [behindInMarks,e1,e2]
noncomputable def tB(t:TE):TT:=fun σ H Q=>t σ H fun x H1=>∃ c,x=.bl c/\Q c H1
theorem MK{op:CmpOp}{t:TE}(h:PC X op a b t)(h1:behindInMarks op b=false:=by first|exact Iu _ (by decide) (by decide)|rfl):PT X (.Compare a [op] [b] pos) (tB t):=by
 intro pins s σ H Q I hw;refine wpAny_isTrue_Compare1 (fc (h pins s σ H _ I hw) fun v s1 h1=>fc h1 fun u s2 h2=>fc h2 fun c s3 ⟨x,H1,I1,r1,q1⟩=>?_) h1;obtain ⟨d,rfl,q⟩:=q1;cases r1;exact wpAny_truthy_bool ⟨H1,I1,q⟩
theorem jB{e:Expr}{t:TE}(h:PE X e t)(he:∀ whole,isTrue e X.env whole=(do let v <-whole;standAt e.pos;holding [v] (truthy v)):=by intro _;rfl):PT X e (tB t):=by
 intro pins s σ H Q I hw;refine isTrue_plain (fc (h pins s σ H _ I hw) fun v s1 ⟨x,H1,I1,r1,q1⟩=>?_) (he _);obtain ⟨d,rfl,q⟩:=q1;cases r1;exact wpAny_truthy_bool ⟨H1,I1,q⟩
variable {tA QF:TT}{rest:List Expr}
noncomputable def Rn(t u:TT):TT:=fun σ H Q=>t σ H fun c H1=>if c=true then u σ H1 Q else Q false H1
noncomputable def UC(t u:TT):TT:=fun σ H Q=>t σ H fun c H1=>if c=true then Q true H1 else u σ H1 Q
noncomputable def Ro(t:TT):TT:=fun σ H Q=>t σ H fun c H1=>Q (!c) H1
theorem FF(ha:PT X a tA):PW X (.BoolOp .And [a] pos) tA:=by
 intro wh pins s σ H Q I h;refine isTrue_and (fc (ha pins s σ H Q I h) fun c s1 e=>?_);cases c with
 |true=>exact isTrue_and_nil e
 |false=>exact e
theorem ig(ha:PT X a tA):PW X (.BoolOp .Or [a] pos) tA:=by
 intro wh pins s σ H Q I h;refine isTrue_or (fc (ha pins s σ H Q I h) fun c s1 e=>?_);cases c with
 |false=>exact isTrue_or_nil e
 |true=>exact e
theorem Iv(ha:PT X a tA)(hb:PW X (.BoolOp .And (b::rest) pos) QF):PW X (.BoolOp .And (a::b::rest) pos) (Rn tA QF):=by
 intro wh pins s σ H Q I h;refine isTrue_and (fc (ha pins s σ H _ I h) fun c s1 ⟨H1,I1,q1⟩=>?_);cases c with
 |true=>exact hb wh pins s1 σ H1 Q I1 q1
 |false=>exact ⟨H1,I1,q1⟩
theorem ju(ha:PT X a tA)(hb:PW X (.BoolOp .Or (b::rest) pos) QF):PW X (.BoolOp .Or (a::b::rest) pos) (UC tA QF):=by
 intro wh pins s σ H Q I h;refine isTrue_or (fc (ha pins s σ H _ I h) fun c s1 ⟨H1,I1,q1⟩=>?_);cases c with
 |true=>exact ⟨H1,I1,q1⟩
 |false=>exact hb wh pins s1 σ H1 Q I1 q1
theorem lU(ha:PT X a tA):PT X (.UnaryOp .Not a pos) (Ro tA):=by
 intro pins s σ H Q I h;exact isTrue_not (ha pins s σ H (fun c H1=>Q (!c) H1) I h)
noncomputable def OE(ta tb:TE):TE:=fun σ H Q=>ta σ H fun x H1=>∃ c,x=.bl c/\if c=true then tb σ H1 Q else Q (.bl false) H1
noncomputable def Rp(ta tb:TE):TE:=fun σ H Q=>ta σ H fun x H1=>∃ c,x=.bl c/\if c=true then Q (.bl true) H1 else tb σ H1 Q
theorem Iw{op}{t:TE}(h:PE X a t):PE X (.BoolOp op [a] pos) t:=fun pins s σ H Q I hw=>BoolOp_one (h pins s σ H Q I hw)
theorem ML(ha:PE X a ta)(hb:PE X (.BoolOp .And (b::rest) pos) tb):PE X (.BoolOp .And (a::b::rest) pos) (OE ta tb):=by
 intro pins s σ H Q I h;refine BoolOp_and (fc (ha pins s σ H _ I h) fun v s1 ⟨x,H1,I1,r1,q1⟩=>?_);obtain ⟨c,rfl,q1⟩:=q1;cases r1;refine wpAny_truthy_bool ?_;cases c with
 |true=>exact hb pins s1 σ H1 Q I1 q1
 |false=>exact ⟨.bl false,H1,I1,rfl,q1⟩
theorem OG(ha:PE X a ta)(hb:PE X (.BoolOp .Or (b::rest) pos) tb):PE X (.BoolOp .Or (a::b::rest) pos) (Rp ta tb):=by
 intro pins s σ H Q I h;refine BoolOp_or (fc (ha pins s σ H _ I h) fun v s1 ⟨x,H1,I1,r1,q1⟩=>?_);obtain ⟨c,rfl,q1⟩:=q1;cases r1;refine wpAny_truthy_bool ?_;cases c with
 |false=>exact hb pins s1 σ H1 Q I1 q1
 |true=>exact ⟨.bl true,H1,I1,rfl,q1⟩
noncomputable def UD(t:TT)(ta tb:TE):TE:=fun σ H Q=>t σ H fun c H1=>if c=true then ta σ H1 Q else tb σ H1 Q
theorem Cn{c:Expr}(hc:PT X c tA)(ha:PE X a ta)(hb:PE X b tb):PE X (.IfExp c a b pos) (UD tA ta tb):=by
 intro pins s σ H Q I h;refine wpAny_IfExp (fc (hc pins s σ H _ I h) fun d s1 ⟨H1,I1,q1⟩=>?_);cases d with
 |true=>exact ha pins s1 σ H1 Q I1 q1
 |false=>exact hb pins s1 σ H1 Q I1 q1
end
end L2
namespace L2
open PySem PySem.Spec PyProof.Rows
noncomputable def aP(K:PySem.W.Frag)(H:Hp)(a:Addr)(xs:List V):Prop:=
 Rd H a (.lst xs) ∨
  ∃ (o:Obj) (its:Array Value) (n:Nat),K.lookup a=some o/\o.cls=.type "list"/\o.dict=none/\o.data=.seq its n/\its.size<=sizeLine/\Vals xs its.toList
noncomputable def fG(K:PySem.W.Frag)(H:Hp)(a:Addr)(xs:List V):Prop:=
 Rd H a (.tup xs) ∨
  ∃ (o:Obj) (its:Array Value) (n:Nat),K.lookup a=some o/\o.cls=.type "tuple"/\o.data=.seq its n/\its.size<=sizeLine/\Vals xs its.toList
noncomputable def Rq:Value->Option V
 |.none=>some .non
 |.bool b=>some (.bl b)
 |.int i _=>some (.int i)
 |.str x _=>some (.str x)
 |.bytes b _=>some (.DV b)
 |.float b _=>some (.QB b)
 |.ref a=>some (.ref a)
 |.type n=>some (.ty n)
 |_=>none
theorem RelV.abs{x:V}{u:Value}(r:RelV x u):Rq u=some x:=by
 cases x with
 |non=>cases r;rfl
 |bl _=>cases r;rfl
 |int _=>obtain ⟨t,rfl⟩:=r;rfl
 |str _=>obtain ⟨t,rfl⟩:=r;rfl
 |DV _=>obtain ⟨t,rfl⟩:=r;rfl
 |QB _=>obtain ⟨t,rfl⟩:=r;rfl
 |ref _=>cases r;rfl
 |ty _=>cases r;rfl
theorem RelV.inj{x y:V}{u:Value}(r:RelV x u)(q:RelV y u):x=y:=Option.some.inj (r.abs.symm.trans q.abs)
theorem Vals.inj:∀ {xs ys:List V} {us:List Value},Vals xs us->Vals ys us->xs=ys
 |_,_,_,.nil,.nil=>rfl
 |_,_,_,.cons r t,.cons r' t'=>by rw [r.inj r',Vals.inj t t']
section
variable {X:Cx}{pins:List (Addr × Obj)}{σ:St}{H:Hp}{s:Shared}{a:Addr}{xs ys:List V}
theorem aP.of{K:PySem.W.Frag}(h:H a=some (.lst xs)):aP K H a xs:=.inl (.inl h)
theorem fG.of{K:PySem.W.Frag}(h:H a=some (.tup xs)):fG K H a xs:=.inl (.inl h)
theorem Inv.list(I:Inv X pins σ H s)(h:aP X.K H a xs):∃ its:List Value,Vals xs its/\PlainL s.heap a its.toArray/\xs.length<=sizeLine:=by
 rcases h with h|⟨o,its,n,hk,hc,hd,hs,hz,r⟩
 . obtain ⟨z,its,n,r,e⟩:=h.ok I.hok;exact ⟨its,r,⟨_,n,e,rfl,rfl,rfl⟩,z⟩
 . refine ⟨its.toList,r,⟨o,n,I.Fx a o hk,hc,hd,by simpa using hs⟩,?_⟩;have e:=r.length;simp only [Array.length_toList] at e;omega
theorem Inv.tuple(I:Inv X pins σ H s)(h:fG X.K H a xs):∃ its:List Value,Vals xs its/\IsTup s.heap a its.toArray/\xs.length<=sizeLine:=by
 rcases h with h|⟨o,its,n,hk,hc,hs,hz,r⟩
 . obtain ⟨z,its,r,p⟩:=h.ok I.hok;exact ⟨its,r,p,z⟩
 . refine ⟨its.toList,r,⟨o,I.Fx a o hk,hc,n,by simpa using hs⟩,?_⟩;have e:=r.length;simp only [Array.length_toList] at e;omega
theorem Inv.sf(I:Inv X pins σ H s)(h:aP X.K H a xs)(h':aP X.K H a ys):xs=ys:=by
 obtain ⟨its,r,⟨o,n,e,_,_,d⟩,_⟩:=I.list h;obtain ⟨its',r',⟨o',n',e',_,_,d'⟩,_⟩:=I.list h';rw [e] at e';cases e';rw [d] at d';injection d' with d1 _
 have:its=its':=by simpa using congrArg Array.toList d1
 subst this;exact r.inj r'
end
noncomputable abbrev Cx.wish(X:Cx)(E:Value->Shared->Prop):Cx:={X with xe:=E}
noncomputable abbrev Cx.MN(X:Cx):Cx:=X.wish fun _ _=>False
theorem Cx.Ok.wish{X:Cx}(ok:X.Ok)(E:Value->Shared->Prop):(X.wish E).Ok:=
 ⟨ok.mod,ok.kind,ok.glob,ok.blt,ok.above,ok.inj,ok.has,ok.OB,ok.hd,ok.frames,ok.stk,ok.QD,ok.bs,ok.Ks,ok.Iq,ok.Ir,ok.wc,ok.MH,ok.top,ok.tree⟩
theorem Cx.Ok.oX{X:Cx}{E:Value->Shared->Prop}(ok:(X.wish E).Ok):X.Ok:=
 ⟨ok.mod,ok.kind,ok.glob,ok.blt,ok.above,ok.inj,ok.has,ok.OB,ok.hd,ok.frames,ok.stk,ok.QD,ok.bs,ok.Ks,ok.Iq,ok.Ir,ok.wc,ok.MH,ok.top,ok.tree⟩
section
variable {X:Cx}{pins:List (Addr × Obj)}{σ:St}{H:Hp}{s:Shared}{E:Value->Shared->Prop}
theorem Inv.wish(I:Inv X pins σ H s)(E:Value->Shared->Prop):Inv (X.wish E) pins σ H s:=⟨I.ok.wish E,I.os,I.bare,I.base,I.loc,I.cell,I.free,I.mS,I.pin,I.hok,I.len⟩
theorem Inv.oX(I:Inv (X.wish E) pins σ H s):Inv X pins σ H s:=⟨I.ok.oX,I.os,I.bare,I.base,I.loc,I.cell,I.free,I.mS,I.pin,I.hok,I.len⟩
theorem SP.oX{D:Ends}{f:Flow}{s':Shared}(h:SP (X.wish E) pins D f s'):SP X pins D f s':=by
 cases f with
 |next=>obtain ⟨σ',H',I,q⟩:=h;exact ⟨σ',H',I.oX,q⟩
 |brk=>obtain ⟨σ',H',I,q⟩:=h;exact ⟨σ',H',I.oX,q⟩
 |cont=>obtain ⟨σ',H',I,q⟩:=h;exact ⟨σ',H',I.oX,q⟩
 |ret u=>obtain ⟨v,σ',H',I,r,q⟩:=h;exact ⟨v,σ',H',I.oX,r,q⟩
theorem Cm.MN{st:List Stmt}{t:TS}(h:Cm X.MN st t):Cm X st t:=fun pins s σ H D I hw=>
 wpAny_mono (h pins s σ H D (I.wish _) hw) (fun _ _ q=>q.oX) fun _ _ z=>False.elim z
end
section
variable {X:Cx}{st:Stmt}{rest:List Stmt}{t u:TS}{e:Expr}{te:TE}{pos:Pos}
noncomputable def OH:TS:=fun D σ H=>D.nx σ H
noncomputable def Rr(t u:TS):TS:=fun D σ H=>t {D with nx:=u D} σ H
theorem aF:Cm X [] OH:=fun _ _ σ H _ I h=>wpAny_execs_nil ⟨σ,H,I,h⟩
theorem ah(h1:PS X st t)(h2:Cm X rest u):Cm X (st::rest) (Rr t u):=by
 intro pins s σ H D I h;refine wpAny_execs_cons (fc (h1 pins s σ H {D with nx:=u D} I h) fun f s1 q=>?_);cases f with
 |
  next=>
  obtain ⟨σ',H',I',q⟩:=q;exact h2 pins s1 σ' H' D I' q
 |ret v=>exact q
 |brk=>exact q
 |cont=>exact q
theorem au(h1:PS X st t):Cm X [st] t:=by
 intro pins s σ H D I h;refine wpAny_execs_cons (fc (h1 pins s σ H D I h) fun f s1 q=>?_);cases f with
 |next=>exact wpAny_execs_nil q
 |ret v=>exact q
 |brk=>exact q
 |cont=>exact q
theorem Inv.quiet{pins:List (Addr × Obj)}{σ:St}{H:Hp}{s:Shared}(I:Inv X pins σ H s):interactive X.env=false:=by simp [interactive,I.ok.kind]
noncomputable def OI(te:TE):TS:=fun D σ H=>te σ H fun _ H1=>D.nx σ H1
theorem dD(he:PE X e te)(hs:swapsWith e none pos.line X.env=pure false:=by rfl):PS X (.Expr e pos) (OI te):=by
 intro pins s σ H D I h;exact wpAny_Expr_any (fc (he pins s σ H _ I h) fun v s1 ⟨x,H1,I1,r1,q1⟩=>⟨σ,H1,I1,q1⟩) I.quiet hs
noncomputable def Rt(te:TE):TS:=fun D σ H=>te σ H D.rt
theorem aA(he:PE X e te):PS X (.Return (some e) pos) (Rt te):=by
 intro pins s σ H D I h;exact wpAny_Return_some (fc (he pins s σ H _ I h) fun v s1 ⟨x,H1,I1,r1,q1⟩=>⟨x,σ,H1,I1,r1,q1⟩)
noncomputable def Ru(c:TT)(t u:TS):TS:=fun D σ H=>c σ H fun b H1=>if b=true then t D σ H1 else u D σ H1
theorem aM{c:Expr}{a b:List Stmt}{tc:TT}(hc:PT X c tc)(ha:Cm X a t)(hb:Cm X b u):PS X (.If c a b pos) (Ru tc t u):=by
 intro pins s σ H D I h;refine wpAny_If (fc (hc pins s σ H _ I h) fun d s1 ⟨H1,I1,q1⟩=>?_);cases d with
 |true=>exact ha pins s1 σ H1 D I1 q1
 |false=>exact hb pins s1 σ H1 D I1 q1
noncomputable def MO:TS:=fun _ _ _=>False
theorem GK{sts:List Stmt}:Cm X sts MO:=fun _ _ _ _ _ _ h=>h.elim
end
noncomputable abbrev TG:=V->St->Hp->(St->Hp->Prop)->Prop
noncomputable abbrev L8:=List V->St->Hp->(St->Hp->Prop)->Prop
noncomputable def PG(X:Cx)(target:Expr)(t:TG):Prop:=
 ∀ (pins:List (Addr × Obj)) (s:Shared) (σ:St) (H:Hp) (v:V) (u:Value) (Q:St->Hp->Prop),Inv X pins σ H s->RelV v u->t v σ H Q->
  wpAny (model X.prog X.w) X.A (assign target X.env u) (fun _ s'=>∃ σ' H',Inv X pins σ' H' s'/\Q σ' H') X.xe s
noncomputable def OJ(X:Cx)(ts:List Expr)(t:L8):Prop:=
 ∀ (pins:List (Addr × Obj)) (s:Shared) (σ:St) (H:Hp) (vs:List V) (us:List Value) (Q:St->Hp->Prop),Inv X pins σ H s->Vals vs us->t vs σ H Q->
  wpAny (model X.prog X.w) X.A (assignInOrder ((assignEach ts X.env).map (·.2)) us) (fun _ s'=>∃ σ' H',Inv X pins σ' H' s'/\Q σ' H') X.xe s
noncomputable abbrev MP:=V->V->V->Hp->(Hp->Prop)->Prop
noncomputable def OL(X:Cx)(t:MP):Prop:=
 ∀ (pins:List (Addr × Obj)) (s:Shared) (σ:St) (H:Hp) (o i v:V) (ov iv u:Value) (Q:Hp->Prop),Inv X pins σ H s->RelV o ov->RelV i iv->RelV v u->t o i v H Q->
  wpAny (model X.prog X.w) X.A (setItem ov iv u) (fun _ s'=>∃ H',Inv X pins σ H' s'/\Q H') X.xe s
noncomputable abbrev QG:=V->V->Hp->VK->Prop
noncomputable def TJ(X:Cx)(op:Operator)(t:QG):Prop:=
 ∀ (pins:List (Addr × Obj)) (s:Shared) (σ:St) (H:Hp) (x y:V) (v u:Value) (Q:VK),Inv X pins σ H s->RelV x v->RelV y u->t x y H Q->
  wpAny (model X.prog X.w) X.A (inplaceOp op v u) (EP X pins σ Q) X.xe s
section
variable {X:Cx}{pos:Pos}
noncomputable def e9(i:Nat):TG:=fun v σ H Q=>Q (σ.set i (some v)) H
theorem aN{i:Nat}{x:Str}(hN:X.N.Nodup)(hi:X.N[i]?=some x)(hx:Loc X.env.scope x)(hf:X.fn x=true\/X.env.scope.names.lookup x=some .local:=by first|exact .inl rfl|exact .inr rfl|assumption):PG X (.Name x pos) (e9 i):=by
 intro pins s σ H v u Q I r h;exact wpAny_assign_Name (xo I hN hi hx r (fun s' I'=>⟨_,H,I',h⟩) hf)
noncomputable def Co:L8:=fun vs σ H Q=>vs=[]/\Q σ H
noncomputable def j5(t:TG)(u:L8):L8:=fun vs σ H Q=>∃ v r,vs=v::r/\t v σ H fun σ' H'=>u r σ' H' Q
theorem ff:OJ X [] Co:=by
 intro pins s σ H vs us Q I r h;obtain ⟨e,h⟩:=h;subst e;cases r;exact assignInOrder_nil ⟨σ,H,I,h⟩
theorem bG{e:Expr}{es:List Expr}{t:TG}{u:L8}(h1:PG X e t)(h2:OJ X es u)
 (hs:(assignEach (e::es) X.env).map (·.2)=assign e X.env::(assignEach es X.env).map (·.2):=by rfl):OJ X (e::es) (j5 t u):=by
 intro pins s σ H vs us Q I r h;obtain ⟨v,vr,e1,h⟩:=h;subst e1;cases r with
 |
  cons r rr=>
  rw [hs];refine assignInOrder_cons (fc (h1 pins s σ H _ _ _ I r h) fun _ s1 ⟨σ1,H1,I1,q1⟩=>?_);exact h2 pins s1 σ1 H1 _ _ Q I1 rr q1
noncomputable def AY(K:PySem.W.Frag)(n:Nat)(t:L8):TG:=fun v σ H Q=>∃ a xs,v=.ref a/\fG K H a xs/\xs.length=n/\t xs σ H Q
theorem MQ{es:List Expr}{k:Nat}{t:L8}{n:Nat}(hc:X.calm=true)(h:OJ X es t)
 (hn:(assignEach es X.env).length=n:=by rfl) (hst:(assignEach es X.env).findIdx? (·.1)=none:=by rfl):PG X (.Tuple es k pos) (AY X.K n t):=by
 intro pins s σ H v u Q I r hw;obtain ⟨a,xs,e1,hq,hl,hw⟩:=hw;subst e1;cases r;obtain ⟨its,rv,ht,hz⟩:=I.tuple hq;refine assign_Tuple_tuple (I.ok.hd hc) ht (by simp [hn,<-hl,rv.length]) hst fun h' hx=>?_;have I1:Inv X pins σ H {s with heap:=h'}:=I.kept (t':=s.toks) fun b o e=>hx b o (Nat.ne_of_lt (Heap.lt_size e)) e;exact h pins _ σ H xs _ Q I1 (by simpa using rv) hw
noncomputable def Rv(to ti:TE)(t:MP):TG:=fun v σ H Q=>to σ H fun o H1=>ti σ H1 fun i H2=>t o i v H2 fun H3=>Q σ H3
theorem DZ{o i:Expr}{to ti:TE}{t:MP}(ho:PE X o to)(hi:PE X i ti)(hs:OL X t)
 (ha:∀ v,assign (.Subscript o i pos) X.env v=(do
  let ov <-holding [v] (eval o X.env)
  let iv <-holding [v,ov] (eval i X.env)
  standAt pos
  holding [v,ov,iv] (setItem ov iv v)
  release [v,ov,iv] []):=by intro _;rfl):PG X (.Subscript o i pos) (Rv to ti t):=by
 intro pins s σ H v u Q I r h;rw [ha];refine wpAny_bind (wpAny_holding (fc (ho pins s σ H _ I h) fun ov s1 ⟨x,H1,I1,r1,q1⟩=>?_));refine wpAny_bind (wpAny_holding (fc (hi pins s1 σ H1 _ I1 q1) fun iv s2 ⟨y,H2,I2,r2,q2⟩=>?_));refine wpAny_bind (wpAny_standAt (wpAny_bind (wpAny_holding (fc (hs pins s2 σ H2 x y v ov iv u _ I2 r1 r2 r q2) fun _ s3 ⟨H3,I3,q3⟩=>?_))));exact wpAny_release ⟨σ,H3,I3,q3⟩
noncomputable def KH(te:TE)(g:TG):TS:=fun D σ H=>te σ H fun x H1=>g x σ H1 D.nx
theorem D3{tg e:Expr}{te:TE}{g:TG}(he:PE X e te)(hg:PG X tg g)(hs:swapsWithSole [tg] e pos.line X.env=pure false:=by rfl)(hw:swappedStores [tg] e X.env=pure none:=by rfl)
 (h1:(assignEach [tg] X.env).map (·.2)=[assign tg X.env]:=by rfl):PS X (.Assign [tg] e pos) (KH te g):=by
 intro pins s σ H D I h;refine wpAny_Assign_stores (fc (he pins s σ H _ I h) fun v s1 ⟨x,H1,I1,r1,q1⟩=>?_) hs hw;rw [h1];exact fc (hg pins s1 σ H1 x v _ I1 r1 q1) fun _ s2 q=>q
theorem aI{i:Nat}{x:Str}{e:Expr}{te:TE}{pos':Pos}(hN:X.N.Nodup)(hi:X.N[i]?=some x)(hx:Loc X.env.scope x)(he:PE X e te)(hs:swapsWith e (some (.Name x pos')) pos.line X.env=pure false:=by rfl)(hf:X.fn x=true\/X.env.scope.names.lookup x=some .local:=by first|exact .inl rfl|exact .inr rfl|assumption) :
 PS X (.Assign [.Name x pos'] e pos) (KH te (e9 i)):=by
 intro pins s σ H D I h;refine wpAny_Assign_Name (fc (he pins s σ H _ I h) fun v s1 ⟨y,H1,I1,r1,q1⟩=>?_) hs;exact xo I1 hN hi hx r1 (fun s2 I2=>⟨_,H1,I2,q1⟩) hf
noncomputable def Rw(i:Nat)(te:TE)(ti:QG):TS:=fun D σ H=>∃ x,σ[i]?=some (some x)/\te σ H fun y H1=>ti x y H1 fun z H2=>D.nx (σ.set i (some z)) H2
theorem Iz{i:Nat}{x:Str}{e:Expr}{te:TE}{op:Operator}{ti:QG}{pos':Pos}(hN:X.N.Nodup)(hi:X.N[i]?=some x)(hx:Loc X.env.scope x)(he:PE X e te)(ho:TJ X op ti)(hf:X.fn x=true\/X.env.scope.names.lookup x=some .local:=by first|exact .inl rfl|exact .inr rfl|assumption) :
 PS X (.AugAssign (.Name x pos') op e pos) (Rw i te ti):=by
 intro pins s σ H D I h;obtain ⟨v,e1,h⟩:=h;obtain ⟨m,hn,hl⟩:=I.loc;have vis:Ob X.env.scope x:=by rcases hx with k|k;exact .inl k;exact .inr (.inl k)
 obtain ⟨u,r,l⟩:=hl i x v hi e1 vis;refine wpAny_AugAssign_Name ?_;have go:wpAny (model X.prog X.w) X.A (eval e X.env) (fun w s₂=>wpAny (model X.prog X.w) X.A (inplaceOp op u w) (fun r s₃=>wpAny (model X.prog X.w) X.A (storeName X.env x r) (fun _=>SP X pins D .next) X.xe s₃) X.xe s₂) X.xe s:=by
  refine fc (he pins s σ H _ I h) fun w s1 ⟨y,H1,I1,r1,q1⟩=>?_;refine fc (ho pins s1 σ H1 v y u w _ I1 r r1 q1) fun z s2 ⟨zv,H2,I2,r2,q2⟩=>?_;exact xo I2 hN hi hx r2 (fun s3 I3=>⟨_,H2,I3,q2⟩) hf
 rcases l with ⟨hk,hm⟩|⟨hk,c,hc,hcell⟩
 . exact wpAny_loadName_local I.ok.kind hk hn hm go
 . rcases hk with hk|hk
   . exact wpAny_loadName_cell I.ok.kind hk hc hcell go
   . rcases hx with k|k
     . have:X.env.scope.names.lookup x=some .free:=hk;rw [k] at this;cases this
     . have:X.env.scope.names.lookup x=some .free:=hk;rw [k] at this;cases this
noncomputable def UE(f:Int->Int->Int):QG:=fun x y H Q=>∃ i j,x=.int i/\y=.int j/\Q (.int (f i j)) H
theorem IA:TJ X .Add (UE fun i j=>i+j):=by
 intro pins s σ H x y v u Q I r1 r2 h;obtain ⟨i,j,e1,e2,q⟩:=h;subst e1;subst e2;obtain ⟨t,rfl⟩:=r1;obtain ⟨t',rfl⟩:=r2;exact iadd_int ⟨.int _,H,I.tok _,⟨_,rfl⟩,q⟩
end
section
variable {X:Cx}{pos:Pos}
noncomputable def IB(c:TT)(tb:TS):TS:=fun D σ H=>∃ W:Nat->St->Hp->Prop,(∃ m,W m σ H)/\∀ m σ H,W m σ H->
 c σ H fun b H1=>if b=true then ∃ N:St->Hp->Prop,(∀ σ' H',N σ' H'->∃ m',m'<m/\W m' σ' H')/\tb {D with nx:=N,ct:=N,bk:=D.nx} σ H1 else D.nx σ H1
theorem sj{c:Expr}{body:List Stmt}{tc:TT}{tb:TS}(hp:PassesOwn (model X.prog X.w) X.A X.env X.xe)(hc:PT X c tc)(hb:Cm X body tb):PS X (.While c body [] pos) (IB tc tb):=by
 intro pins s σ H D I h;obtain ⟨W,⟨m0,w0⟩,turn⟩:=h;refine wpAny_While (codeAny_whileLoop (fun n s'=>∃ σ' H',Inv X pins σ' H' s'/\W n σ' H') ?_ m0 ⟨σ,H,I,w0⟩);rintro n s1 ⟨σ1,H1,I1,w1⟩;refine wpAny_passesOwn hp (fc (hc pins s1 σ1 H1 _ I1 (turn n σ1 H1 w1)) fun b s2 ⟨H2,I2,q2⟩=>?_);cases b with
 |
  true=>
  obtain ⟨N,hN,q2⟩:=q2;rw [if_pos rfl];refine wpAny_passesOwn hp (fc (hb pins s2 σ1 H2 _ I2 q2) fun f s3 q3=>?_);cases f with
  |
   next=>
   obtain ⟨σ3,H3,I3,n3⟩:=q3;obtain ⟨m',hm,w3⟩:=hN σ3 H3 n3;exact ⟨m',hm,σ3,H3,I3,w3⟩
  |
   cont=>
   obtain ⟨σ3,H3,I3,n3⟩:=q3;obtain ⟨m',hm,w3⟩:=hN σ3 H3 n3;exact ⟨m',hm,σ3,H3,I3,w3⟩
  |brk=>exact q3
  |ret v=>exact q3
 |
  false=>
  rw [if_neg Bool.false_ne_true];exact wpAny_execs_nil ⟨σ1,H2,I2,q2⟩
end
structure It where
 go:Nat->Hp->Prop
 Ku:Nat->Hp->V->Hp->Prop
 stop:Nat->Hp->Prop
noncomputable def wg(X:Cx)(pins:List (Addr × Obj))(H:Hp)(b:Addr):Prop:=
 H b=none/\b≠X.env.locals/\b ∉ X.fs/\(b∈X.ex\/X.zT.heap.objs.size<=b)/\(∀ x c,X.env.cells.lookup x=some c->c≠b)/\∀ p∈X.pn++pins,p.1≠b
theorem Inv.IC{X:Cx}{pins:List (Addr × Obj)}{σ:St}{H H':Hp}{s:Shared}{b:Addr}(I:Inv X pins σ H s)(hb:s.heap.objs.size<=b)(hn:H' b=none):wg X pins H' b:=by
 refine ⟨hn,Nat.ne_of_gt (Nat.lt_of_lt_of_le I.lt hb),I.Rj hb,.inr (Nat.le_trans I.sz hb),fun x c e z=>?_,fun p hp z=>?_⟩
 . obtain ⟨v,q⟩:=I.cell x c e;exact absurd (Nat.lt_of_lt_of_le q.lt (by rw [z];exact hb)) (Nat.lt_irrefl _)
 . exact absurd (Nat.lt_of_lt_of_le (Heap.lt_size (I.pin p hp).1) (by rw [z];exact hb)) (Nat.lt_irrefl _)
structure Turn(P:Program)(w:World)(K:PySem.W.Frag)(tg:Expr)(J:It)(fp:List Addr)(it:Addr)(tn:Nat->Heap->Prop):Prop where
 mem:it∈fp
 obj:∀ i h,tn i h->∀ b∈fp,∃ o,h.get? b=some o/\∀ v,o.data≠.cell v
 keep:∀ i h h',tn i h->(∀ b∈fp,∀ o,h.get? b=some o->h'.get? b=some o)->tn i h'
 item:∀ (X:Cx),X.prog=P->X.w=w->X.K=K->X.calm=true->∀ (i:Nat) (pins:List (Addr × Obj)) (s:Shared) (σ:St) (H:Hp) (E:Value->Shared->Prop),Inv X pins σ H s->(∀ b∈fp,wg X pins H b)->tn i s.heap->J.go i H->
  wpAny (model P w) X.A (pyNext (.ref it)) (fun r s1=>∃ u,r=some u/\
   wpAny (model P w) X.A (letOwnedTupleGo tg (.ref it) u) (fun _ s2=>∃ x H',Inv X pins σ H' s2/\RelV x u/\J.Ku i H x H'/\tn (i+1) s2.heap/\∀ b∈fp,H' b=none) E s1) E s
 done:∀ (X:Cx),X.prog=P->X.w=w->X.K=K->X.calm=true->∀ (i:Nat) (pins:List (Addr × Obj)) (s:Shared) (σ:St) (H:Hp) (E:Value->Shared->Prop),Inv X pins σ H s->(∀ b∈fp,wg X pins H b)->tn i s.heap->J.stop i H->
  wpAny (model P w) X.A (pyNext (.ref it)) (fun r s1=>r=none/\Inv X pins σ H s1) E s
 self:∀ (A:Around) (i:Nat) (s:Shared) (Q:Value->Shared->Prop) (E:Value->Shared->Prop),tn i s.heap->Q (.ref it) s->wpAny (model P w) A (pyIter (.ref it)) Q E s
noncomputable abbrev TI:=St->Hp->(It->Hp->Prop)->Prop
noncomputable def TM(X:Cx)(pins:List (Addr × Obj))(σ:St)(tg:Expr)(R:It->Hp->Prop)(itv:Value)(s2:Shared):Prop:=
 ∃ (it:Addr) (fp:List Addr) (tn:Nat->Heap->Prop) (J:It) (H':Hp),itv=.ref it/\Inv X pins σ H' s2/\Turn X.prog X.w X.K tg J fp it tn/\tn 0 s2.heap/\(∀ b∈fp,wg X pins H' b)/\R J H'
noncomputable def PI(X:Cx)(tg iter:Expr)(wi:TI):Prop:=
 ∀ (pins:List (Addr × Obj)) (s:Shared) (σ:St) (H:Hp) (R:It->Hp->Prop),Inv X pins σ H s->wi σ H R->
  wpAny (model X.prog X.w) X.A (eval iter X.env) (fun v s1=>wpAny (model X.prog X.w) X.A (pyIter v) (TM X pins σ tg R) X.xe s1) X.xe s
theorem L_{M:Model}{A:Around}{E:Value->Shared->Prop}{s:Shared}{tg:Expr}{it:Addr}{u:Value}{o:Obj}{n:String}{vs:Array Value}{Q:Unit->Shared->Prop}(ho:s.heap.get? it=some o)(hc:o.cls=.type n)(hd:o.data=.fields vs)
 (hn:["enumerate","zip","dict_itemiterator","dict_reverseitemiterator","odict_iterator","itertools.zip_longest","itertools.pairwise"].contains n=false) (hQ:Q () s):wpAny M A (letOwnedTupleGo tg (.ref it) u) Q E s:=by
 unfold letOwnedTupleGo;cases tg<;>first
  |exact wpAny_pure hQ
  |(cases u<;>first
   |exact wpAny_pure hQ
   |(
    refine wpAny_bind (wpAny_load ho ?_);rw [hc,hd];show wpAny M A (if (["enumerate","zip","dict_itemiterator","dict_reverseitemiterator","odict_iterator","itertools.zip_longest","itertools.pairwise"].contains n && vs[0]? == some (rawInt _))=true then _ else _) Q E s;rw [if_neg (by intro h;rw [hn,Bool.false_and] at h;cases h)];exact wpAny_pure hQ))
noncomputable def MR(K:PySem.W.Frag)(a:Addr):It:=
 ⟨fun i H=>∃ xs x,aP K H a xs/\xs[i]?=some x,fun i H x H'=>H'=H/\∀ xs,aP K H a xs->xs[i]?=some x,fun i H=>∃ xs,aP K H a xs/\xs.length<=i⟩
noncomputable def Ie(lo:Int)(n:Nat):It:=⟨fun i _=>i<n,fun i H x H'=>H'=H/\x=.int (lo+i),fun i _=>n<=i⟩
theorem GL{P:Program}{w:World}{K:PySem.W.Frag}{tg:Expr}(a it:Addr):Turn P w K tg (MR K a) [it] it (fun i h=>h.IsListIter it a i) where
 mem:=by simp
 obj:=fun i h st b hb=>by
  have e:b=it:=by simpa using hb
  subst e;obtain ⟨o,e,c,d⟩:=st;exact ⟨o,e,fun v z=>by rw [d] at z;cases z⟩
 keep:=fun i h h' st k=>st.at fun o e=>k it (by simp) o e
 item:=by
  intro X hP hw hK hc i pins s σ H E I hf st hg;subst hP hw hK;obtain ⟨xs,x,hq,hx⟩:=hg;obtain ⟨its,rv,p,hz⟩:=I.list hq;obtain ⟨u,hu,ru⟩:=rv.get hx;obtain ⟨f0,f1,f2,f3,f4,f5⟩:=hf it (by simp);refine wpAny_pyNext_list_item st p.isList (x:=u) (by simpa using hu) fun h' st' sb=>?_;have I1:Inv X pins σ H {s with heap:=h'}:=I.turned (t':=s.toks) (fun b o hb e=>(sb.2 b hb).trans e) f0 f1 f3 f4 f5;obtain ⟨o,e,c,d⟩:=id st';exact ⟨u,rfl,L_ (s:={s with heap:=h'}) e c d (by decide) ⟨x,H,I1,ru,⟨rfl,fun ys hy=>by rw [I.sf hy hq];exact hx⟩,st',fun b hb=>(hf b hb).1⟩⟩
 done:=by
  intro X hP hw hK hc i pins s σ H E I hf st hg;subst hP hw hK;obtain ⟨xs,hq,hx⟩:=hg;obtain ⟨its,rv,p,hz⟩:=I.list hq;obtain ⟨f0,f1,f2,f3,f4,f5⟩:=hf it (by simp);have hl:=rv.length;exact wpAny_pyNext_list_end (I.ok.hd hc) st p.isList (by simp;omega) fun h' eb=>⟨rfl,I.turned (t':=s.toks) (fun b o hb e=>eb b o hb e) f0 f1 f3 f4 f5⟩
 self:=fun _ _ _ _ _ st h=>wpAny_pyIter_listiter st h
theorem D4{P:Program}{w:World}{K:PySem.W.Frag}{tg:Expr}(it:Addr)(lo:Int)(n:Nat):Turn P w K tg (Ie lo n) [it] it (fun i h=>IsRangeIter h it (lo+(i:Nat)*1) ((n:Int)-(i:Nat)) 1) where
 mem:=by simp
 obj:=fun i h st b hb=>by
  have e:b=it:=by simpa using hb
  subst e;exact ⟨_,st,fun v z=>by
   have z':Data.fields _=Data.cell v:=z;cases z'⟩
 keep:=fun i h h' st k=>k it (by simp) _ st
 item:=by
  intro X hP hw hK hc i pins s σ H E I hf st hg;subst hP hw hK;obtain ⟨f0,f1,f2,f3,f4,f5⟩:=hf it (by simp);have W:=Walks.range (prog:=X.prog) (w:=X.w) (I.ok.hd hc) it lo 1 n;refine W.item i s _ _ hg st fun v h' tk hv st' kk=>?_;obtain ⟨t,rfl⟩:=hv;have I1:Inv X pins σ H {s with heap:=h',toks:=tk}:=I.turned (fun b o hb e=>kk b o (by simpa using hb) e) f0 f1 f3 f4 f5;refine ⟨_,rfl,L_ (s:={s with heap:=h',toks:=tk}) (n:="range_iterator") st' rfl rfl (by decide) ⟨.int (lo+i),H,I1,⟨t,?_⟩,⟨rfl,rfl⟩,st',fun b hb=>(hf b hb).1⟩⟩;rw [Int.mul_one]
 done:=by
  intro X hP hw hK hc i pins s σ H E I hf st hg;subst hP hw hK;obtain ⟨f0,f1,f2,f3,f4,f5⟩:=hf it (by simp);exact wpAny_pyNext_range_end (I.ok.hd hc) st (by have:n<=i:=hg;omega) fun h' eb=>⟨rfl,I.turned (t':=s.toks) (fun b o hb e=>eb b o hb e) f0 f1 f3 f4 f5⟩
 self:=fun _ _ _ _ _ st h=>wpAny_pyIter_rangeiter st h
end L2
namespace L2
open PySem PySem.Spec PyProof.Rows
section
variable {X:Cx}{tg:Expr}
noncomputable def Ma(K:PySem.W.Frag)(tl:TE):TI:=fun σ H R=>tl σ H fun x H1=>∃ a,x=.ref a/\(∃ xs,aP K H1 a xs)/\R (MR K a) H1
theorem eW{l:Expr}{tl:TE}(hl:PE X l tl):PI X tg l (Ma X.K tl):=by
 intro pins s σ H R I h;refine fc (hl pins s σ H _ I h) fun v s1 ⟨x,H1,I1,r1,q1⟩=>?_;obtain ⟨a,e,⟨xs,hq⟩,q⟩:=q1;subst e;cases r1;obtain ⟨its,rv,p,hz⟩:=I1.list hq;refine wpAny_pyIter_list p.isList ?_;refine ⟨s1.heap.objs.size,[s1.heap.objs.size],_,_,H1,rfl,I1.kept (t':=s1.toks) fun b o e=>Heap.get?_push_of_some _ e,GL a _,⟨_,Heap.get?_push_size _ rfl,rfl,rfl⟩,fun b hb=>?_,q⟩;have e:b=s1.heap.objs.size:=by simpa using hb
 subst e;exact I1.IC (Nat.le_refl _) (I1.hok.fresh (Nat.le_refl _))
theorem Cp{pins:List (Addr × Obj)}{σ:St}{H:Hp}{s:Shared}{R:It->Hp->Prop}{E:Value->Shared->Prop}{lo hi:Int}{t u v:Tok}{tk:Nat}(I:Inv X pins σ H s)(h1:-(2 ^ 62)<=lo)(h2:lo<2 ^ 62)(h3:-(2 ^ 62)<=hi)(h4:hi<2 ^ 62)
 (q:R (Ie lo (hi-lo).toNat) H):wpAny (model X.prog X.w) X.A (pyIter (.ref s.heap.objs.size)) (TM X pins σ tg R) E {s with heap:=s.heap.push {cls:=.type "range",data:=.fields #[.int lo t,.int hi u,.int 1 v]},toks:=tk}:=by
 refine wpAny_pyIter_range (IsRange.new ..) (small_one h1 h2 h3 h4) ?_;have I1:Inv X pins σ H {s with heap:=s.heap.push {cls:=.type "range",data:=.fields #[.int lo t,.int hi u,.int 1 v]},toks:=tk}:=I.kept fun b o e=>Heap.get?_push_of_some _ e;refine ⟨(s.heap.push {cls:=.type "range",data:=.fields #[.int lo t,.int hi u,.int 1 v]}).objs.size,[(s.heap.push {cls:=.type "range",data:=.fields #[.int lo t,.int hi u,.int 1 v]}).objs.size],_,_,H,rfl,
  I1.kept (t':=tk) fun b o e=>Heap.get?_push_of_some _ e,D4 _ lo (hi-lo).toNat,?_,fun b hb=>?_,q⟩
 . have e1:lo+((0:Nat):Int)*1=lo:=by simp
   have e2:(((hi-lo).toNat:Nat):Int)-((0:Nat):Int)=Builtin.Range.rangeSize lo hi 1:=by rw [rangeSize_one];split<;>omega
   show IsRangeIter _ _ (lo+((0:Nat):Int)*1) ((((hi-lo).toNat:Nat):Int)-((0:Nat):Int)) 1;rw [e1,e2];exact Heap.get?_push_size _ rfl
 . have e:b=(s.heap.push {cls:=.type "range",data:=.fields #[.int lo t,.int hi u,.int 1 v]}).objs.size:=by simpa using hb
   subst e;exact I1.IC (Nat.le_refl _) (I1.hok.fresh (Nat.le_refl _))
noncomputable def OM(ta:TA):TI:=fun σ H R=>ta σ H fun vs H1=>∃ j:Int,vs=[.int j]/\-(2 ^ 62)<=j/\j<2 ^ 62/\R (Ie 0 j.toNat) H1
noncomputable def ON(ta:TA):TI:=fun σ H R=>ta σ H fun vs H1=>∃ i j:Int,vs=[.int i,.int j]/\(-(2 ^ 62)<=i/\i<2 ^ 62/\-(2 ^ 62)<=j/\j<2 ^ 62)/\R (Ie i (j-i).toNat) H1
theorem f_{a:Expr}{ta:TA}{p pos:Pos}(hg:Gl X "range")(hm:X.mg "range"=none)(ha:PA X [a] ta)(hs:starEach [a] X.env=[(false,eval a X.env)]:=by rfl):PI X tg (.Call (.Name "range" p) [a] [] pos) (OM ta):=by
 intro pins s σ H R I h;refine Call_ (uh I hg hm boot_range (PyProof.Rows.callWith_type1 (fc (ha pos pins s σ H _ I h) fun us s1 ⟨vs,H1,I1,r1,q1⟩=>?_) hs rfl));obtain ⟨j,e,q1,q2,q⟩:=q1;subst e;cases r1 with
 |
  cons r rr=>
  cases rr;obtain ⟨t,rfl⟩:=r;exact call_range_1 (Cp I1 (by omega) (by omega) q1 q2 (by simpa using q))
theorem GN{a b:Expr}{ta:TA}{p pos:Pos}(hg:Gl X "range")(hm:X.mg "range"=none)(ha:PA X [a,b] ta)(hs:starEach [a,b] X.env=[(false,eval a X.env),(false,eval b X.env)]:=by rfl)(hs2:starEach [b] X.env=[(false,eval b X.env)]:=by rfl) :
 PI X tg (.Call (.Name "range" p) [a,b] [] pos) (ON ta):=by
 intro pins s σ H R I h;refine Call_ (uh I hg hm boot_range (PyProof.Rows.callWith_type1 (fc (ha pos pins s σ H _ I h) fun us s1 ⟨vs,H1,I1,r1,q1⟩=>?_) (by rw [hs,hs2]) (by rw [hs2];rfl)));obtain ⟨i,j,e,⟨q1,q2,q3,q4⟩,q⟩:=q1;subst e;cases r1 with
 |
  cons r rr=>
  cases rr with
  |
   cons r' rr=>
   cases rr;obtain ⟨t,rfl⟩:=r;obtain ⟨t',rfl⟩:=r';exact call_range_2 (Cp I1 q1 q2 q3 q4 q)
noncomputable def Rx(wi:TI)(g:TG)(tb:TS):TS:=fun D σ H=>wi σ H fun J H1=>∃ W:Nat->Nat->St->Hp->Prop,(∃ m,W 0 m σ H1)/\∀ i m σ H,W i m σ H->
 (J.stop i H/\D.nx σ H)\/(J.go i H/\∃ N:St->Hp->Prop,(∀ σ' H',N σ' H'->∃ m',m'<m/\W (i+1) m' σ' H')/\∀ x H',J.Ku i H x H'->g x σ H' fun σ2 H2=>tb {D with nx:=N,ct:=N,bk:=D.nx} σ2 H2)
noncomputable def xq(fp:List Addr)(h:Heap):List (Addr × Obj):=fp.filterMap fun b=>(h.get? b).map fun o=>(b,o)
theorem qS{fp:List Addr}{h:Heap}{b:Addr}{o:Obj}(hb:b∈fp)(e:h.get? b=some o):(b,o)∈xq fp h:=List.mem_filterMap.mpr ⟨b,hb,by rw [e];rfl⟩
theorem GO{fp:List Addr}{h:Heap}{p:Addr × Obj}(hp:p∈xq fp h):p.1∈fp/\h.get? p.1=some p.2:=by
 obtain ⟨b,hb,e⟩:=List.mem_filterMap.mp hp;cases q:h.get? b with
 |none=>rw [q] at e;cases e
 |
  some o=>
  rw [q] at e;have e':(b,o)=p:=Option.some.inj e;subst e';exact ⟨hb,q⟩
theorem Inv.pinned{pins:List (Addr × Obj)}{σ:St}{H:Hp}{s:Shared}{fp:List Addr}(I:Inv X pins σ H s)(hf:∀ b∈fp,wg X pins H b)(ho:∀ b∈fp,∃ o,s.heap.get? b=some o/\∀ v,o.data≠.cell v):Inv X (pins++xq fp s.heap) σ H s:=
 I.FA fun p hp=>(List.mem_append.mp hp).elim (fun z=>I.pin p (List.mem_append_right _ z)) fun z=>by
  obtain ⟨hb,e⟩:=GO z;obtain ⟨f0,f1,f2,_⟩:=hf p.1 hb;obtain ⟨o,e',d⟩:=ho p.1 hb;rw [e] at e';cases e';exact ⟨e,f0,f1,f2,d⟩
theorem Inv.sq{pins pl:List (Addr × Obj)}{σ:St}{H:Hp}{s:Shared}(I:Inv X (pins++pl) σ H s):Inv X pins σ H s:=I.FA fun p hp=>I.pin p (List.mem_append_right _ (List.mem_append_left _ hp))
theorem eX{iter:Expr}{body:List Stmt}{wi:TI}{g:TG}{tb:TS}{pos:Pos}(hp:PassesOwn (model X.prog X.w) X.A X.env X.xe)(hc:X.calm=true)(hi:PI X tg iter wi)(hg:PG X tg g)(hb:Cm X body tb)
 (hs:∀ x,foldedSetIterable iter X.env x=pure x:=by intro _;rfl):PS X (.For tg iter body [] pos) (Rx wi g tb):=by
 intro pins s σ H D I h;refine wpAny_For (fc (hi pins s σ H _ I h) fun v s1 h1=>fc h1 fun itv s2 h2=>?_) hs;obtain ⟨it,fp,tn,J,H2,e,I2,T,st2,f2,W,⟨m0,w0⟩,turn⟩:=h2;subst e;have stat:∀ {H':Hp},(∀ b∈fp,H' b=none)->∀ b∈fp,wg X pins H' b:=fun hn b hb=>⟨hn b hb,(f2 b hb).2⟩
 refine codeAny_forLoop_any (fun n s'=>∃ i σ' H',Inv X pins σ' H' s'/\tn i s'.heap/\(∀ b∈fp,H' b=none)/\W i n σ' H') ?_ m0 ⟨0,σ,H2,I2,st2,fun b hb=>(f2 b hb).1,w0⟩;rintro n s3 ⟨i,σ3,H3,I3,st3,TN,w3⟩;rcases turn i n σ3 H3 w3 with ⟨stop,qn⟩|⟨go,N,hN,step⟩
 . refine wpAny_passesOwn hp (fc (T.done X rfl rfl rfl hc i pins s3 σ3 H3 X.xe I3 (stat TN) st3 stop) fun r s4 ⟨hr,I4⟩=>?_);subst hr;exact wpAny_execs_nil ⟨σ3,H3,I4,qn⟩
 . refine wpAny_passesOwn hp (fc (T.item X rfl rfl rfl hc i pins s3 σ3 H3 X.xe I3 (stat TN) st3 go) fun r s4 ⟨u,hr,h4⟩=>?_);subst hr;refine wpAny_passesOwn hp (fc h4 fun _ s5 ⟨x,H5,I5,r5,y5,Oc,UG⟩=>?_);have UH:=I5.pinned (stat UG) (T.obj _ _ Oc);refine wpAny_passesOwn hp (fc (hg _ s5 σ3 H5 x u _ UH r5 (step x H5 y5)) fun _ s6 ⟨σ6,H6,I6,q6⟩=>?_);refine wpAny_passesOwn hp (fc (hb _ s6 σ6 H6 _ I6 q6) fun f s7 q7=>?_);have again:∀ {σ7:St} {H7:Hp},Inv X (pins++xq fp s5.heap) σ7 H7 s7->N σ7 H7->∃ m,m<n/\∃ i σ' H',Inv X pins σ' H' s7/\tn i s7.heap/\(∀ b∈fp,H' b=none)/\W i m σ' H':=fun {σ7 H7} I7 n7=>by
    obtain ⟨m',hm,w7⟩:=hN σ7 H7 n7;refine ⟨m',hm,i+1,σ7,H7,I7.sq,T.keep _ _ _ Oc fun b hb o e=>(I7.pin (b,o) (List.mem_append_right _ (List.mem_append_right _ (qS hb e)))).1,fun b hb=>?_,w7⟩;obtain ⟨o,e,d⟩:=T.obj _ _ Oc b hb;exact (I7.pin (b,o) (List.mem_append_right _ (List.mem_append_right _ (qS hb e)))).2.1
   cases f with
   |next=>obtain ⟨σ7,H7,I7,n7⟩:=q7;exact again I7 n7
   |cont=>obtain ⟨σ7,H7,I7,n7⟩:=q7;exact again I7 n7
   |brk=>obtain ⟨σ7,H7,I7,q7⟩:=q7;exact ⟨σ7,H7,I7.sq,q7⟩
   |ret v=>obtain ⟨x7,σ7,H7,I7,r7,q7⟩:=q7;exact ⟨x7,σ7,H7,I7.sq,r7,q7⟩
end
theorem mT{K:PySem.W.Frag}{a:Addr}{xs:List V}{g:TG}{tb:TS}{D:Ends}{σ:St}{H:Hp}(Pv:Nat->St->Hp->Prop)(h0:Pv 0 σ H)(hl:∀ i σ H,i<=xs.length->Pv i σ H->aP K H a xs)
 (hs:∀ i x σ H,xs[i]?=some x->Pv i σ H->g x σ H fun σ2 H2=>tb {D with nx:=Pv (i+1),ct:=Pv (i+1),bk:=D.nx} σ2 H2) (hd:∀ σ H,Pv xs.length σ H->D.nx σ H) :
 ∃ W:Nat->Nat->St->Hp->Prop,(∃ m,W 0 m σ H)/\∀ i m σ H,W i m σ H->
  ((MR K a).stop i H/\D.nx σ H)\/((MR K a).go i H/\∃ N:St->Hp->Prop,(∀ σ' H',N σ' H'->∃ m',m'<m/\W (i+1) m' σ' H')/\∀ x H',(MR K a).Ku i H x H'->g x σ H' fun σ2 H2=>tb {D with nx:=N,ct:=N,bk:=D.nx} σ2 H2):=by
 refine ⟨fun i m σ H=>m=xs.length-i/\i<=xs.length/\Pv i σ H,⟨xs.length,by simp,Nat.zero_le _,h0⟩,?_⟩;rintro i m σ H ⟨rfl,hi,p⟩;have q:=hl i σ H hi p;by_cases hlt:i<xs.length
 . refine .inr ⟨⟨xs,xs[i],q,by simp [hlt]⟩,Pv (i+1),fun σ' H' p'=>⟨xs.length-(i+1),by omega,rfl,hlt,p'⟩,fun x H' y=>?_⟩;obtain ⟨e,y⟩:=y;subst e;exact hs i x σ _ (y xs q) p
 . have e:i=xs.length:=by omega
   subst e;exact .inl ⟨⟨xs,q,Nat.le_refl _⟩,hd σ H p⟩
theorem um{lo:Int}{n:Nat}{g:TG}{tb:TS}{D:Ends}{σ:St}{H:Hp}(Pv:Nat->St->Hp->Prop)(h0:Pv 0 σ H)
 (hs:∀ i σ H,i<n->Pv i σ H->g (.int (lo+i)) σ H fun σ2 H2=>tb {D with nx:=Pv (i+1),ct:=Pv (i+1),bk:=D.nx} σ2 H2) (hd:∀ σ H,Pv n σ H->D.nx σ H) :
 ∃ W:Nat->Nat->St->Hp->Prop,(∃ m,W 0 m σ H)/\∀ i m σ H,W i m σ H->
  ((Ie lo n).stop i H/\D.nx σ H)\/((Ie lo n).go i H/\∃ N:St->Hp->Prop,(∀ σ' H',N σ' H'->∃ m',m'<m/\W (i+1) m' σ' H')/\∀ x H',(Ie lo n).Ku i H x H'->g x σ H' fun σ2 H2=>tb {D with nx:=N,ct:=N,bk:=D.nx} σ2 H2):=by
 refine ⟨fun i m σ H=>m=n-i/\i<=n/\Pv i σ H,⟨n,by simp,Nat.zero_le _,h0⟩,?_⟩;rintro i m σ H ⟨rfl,hi,p⟩;by_cases hlt:i<n
 . refine .inr ⟨hlt,Pv (i+1),fun σ' H' p'=>⟨n-(i+1),by omega,rfl,hlt,p'⟩,fun x H' y=>?_⟩;obtain ⟨e,y⟩:=y;subst e y;exact hs i σ _ hlt p
 . have e:i=n:=by omega
   subst e;exact .inl ⟨Nat.le_refl _,hd σ H p⟩
theorem sr{c:TT}{tb:TS}{D:Ends}{σ:St}{H:Hp}(Pv:St->Hp->Prop)(μ:St->Hp->Nat)(h0:Pv σ H)
 (hs:∀ σ H,Pv σ H->c σ H fun b H1=>if b=true then tb {D with nx:=fun σ' H'=>Pv σ' H'/\μ σ' H'<μ σ H,ct:=fun σ' H'=>Pv σ' H'/\μ σ' H'<μ σ H,bk:=D.nx} σ H1 else D.nx σ H1)
 (mono:∀ σ H Q Q',(∀ b H1,Q b H1->Q' b H1)->c σ H Q->c σ H Q'):IB c tb D σ H:=by
 refine ⟨fun m σ H=>m=μ σ H/\Pv σ H,⟨_,rfl,h0⟩,?_⟩;rintro m σ H ⟨rfl,p⟩;refine mono σ H _ _ (fun b H1 q=>?_) (hs σ H p);cases b with
 |true=>exact ⟨_,fun σ' H' ⟨p',l⟩=>⟨_,l,rfl,p'⟩,q⟩
 |false=>exact q
end L2
namespace L2
open PySem PySem.Spec PyProof.Rows
noncomputable abbrev R2:=V->V->Hp->VK->Prop
noncomputable def xr(X:Cx)(f:Value->Value->Sem Value)(r:R2):Prop:=
 ∀ (pins:List (Addr × Obj)) (s:Shared) (σ:St) (H:Hp) (x y:V) (v u:Value) (Q:VK),Inv X pins σ H s->RelV x v->RelV y u->r x y H Q->
  wpAny (model X.prog X.w) X.A (f v u) (EP X pins σ Q) X.xe s
noncomputable def Ry(X:Cx)(f:Value->Sem Value)(r:V->Hp->VK->Prop):Prop:=
 ∀ (pins:List (Addr × Obj)) (s:Shared) (σ:St) (H:Hp) (x:V) (v:Value) (Q:VK),Inv X pins σ H s->RelV x v->r x H Q->
  wpAny (model X.prog X.w) X.A (f v) (EP X pins σ Q) X.xe s
noncomputable def mU(X:Cx)(f:Value)(r:List V->Hp->VK->Prop):Prop:=
 ∀ (pins:List (Addr × Obj)) (s:Shared) (σ:St) (H:Hp) (xs:List V) (us:List Value) (Q:VK),Inv X pins σ H s->Vals xs us->r xs H Q->
  wpAny (model X.prog X.w) X.A (call f us) (EP X pins σ Q) X.xe s
noncomputable def QH(r:R2)(ta tb:TE):TE:=fun σ H Q=>ta σ H fun x H1=>tb σ H1 fun y H2=>r x y H2 Q
noncomputable def UI(r:V->Hp->VK->Prop)(ta:TE):TE:=fun σ H Q=>ta σ H fun x H1=>r x H1 Q
noncomputable def rI(C:Int->Int->Prop)(g:Int->Int->V):R2:=fun x y H Q=>∃ i j,x=.int i/\y=.int j/\C i j/\Q (g i j) H
noncomputable def Mb(g:Int->Int->V):R2:=fun x y H Q=>∃ i j,x=.int i/\y=.int j/\Q (g i j) H
noncomputable def rU(g:Int->V):V->Hp->VK->Prop:=fun x H Q=>∃ i,x=.int i/\Q (g i) H
section
variable {X:Cx}{a b c:Expr}{ta tb tc:TE}{pos:Pos}
theorem MS(ha:PE X a ta)(hb:PE X b tb){pins:List (Addr × Obj)}{s:Shared}{σ:St}{H:Hp}{R:V->V->Hp->Prop}(I:Inv X pins σ H s)
 (h:ta σ H fun x H1=>tb σ H1 fun y H2=>R x y H2) {Q:Value->Shared->Prop} {f:Value->Value->Sem Value}
 (hf:∀ v u s2 x y H2,Inv X pins σ H2 s2->RelV x v->RelV y u->R x y H2->wpAny (model X.prog X.w) X.A (f v u) Q X.xe s2) :
 wpAny (model X.prog X.w) X.A (eval a X.env) (fun v s₁=>wpAny (model X.prog X.w) X.A (eval b X.env) (fun u s₂=>wpAny (model X.prog X.w) X.A (f v u) Q X.xe s₂) X.xe s₁) X.xe s:=by
 refine fc (ha pins s σ H _ I h) fun v s1 ⟨x,H1,I1,r1,q1⟩=>?_;refine fc (hb pins s1 σ H1 _ I1 q1) fun u s2 ⟨y,H2,I2,r2,q2⟩=>?_;exact hf v u s2 x y H2 I2 r1 r2 q2
theorem bC{op:Operator}{r:R2}(ho:xr X (binaryOp op) r)(ha:PE X a ta)(hb:PE X b tb):PE X (.BinOp a op b pos) (QH r ta tb):=by
 intro pins s σ H Q I h;exact wpAny_BinOp (MS ha hb I h fun v u s2 x y H2 I2 rx ry q=>ho pins s2 σ H2 x y v u Q I2 rx ry q)
theorem IE{op:UnaryOp}{r:V->Hp->VK->Prop}(ho:Ry X (unaryOp op) r)(ha:PE X a ta):PE X (.UnaryOp op a pos) (UI r ta):=by
 intro pins s σ H Q I h;exact UnaryOp_ (fc (ha pins s σ H _ I h) fun v s1 ⟨x,H1,I1,r1,q1⟩=>ho pins s1 σ H1 x v Q I1 r1 q1)
theorem Rz{f:Value->Value->Sem Value}{C:Int->Int->Prop}{g:Int->Int->Int}
 (rule:∀ (i j:Int) (t u:Tok) (s:Shared) (Q:Value->Shared->Prop) (E:Value->Shared->Prop),C i j->Q (.int (g i j) s.toks) {s with toks:=s.toks+1}->wpAny (model X.prog X.w) X.A (f (.int i t) (.int j u)) Q E s) :
 xr X f (rI C fun i j=>.int (g i j)):=by
 intro pins s σ H x y v u Q I rx ry h;obtain ⟨i,j,rfl,rfl,hc,q⟩:=h;obtain ⟨t,rfl⟩:=rx;obtain ⟨t',rfl⟩:=ry;exact rule i j t t' s _ _ hc ⟨.int (g i j),H,I.tok _,⟨_,rfl⟩,q⟩
theorem OO{f:Value->Value->Sem Value}{g:Int->Int->Int}
 (rule:∀ (i j:Int) (t u:Tok) (s:Shared) (Q:Value->Shared->Prop) (E:Value->Shared->Prop),Q (.int (g i j) s.toks) {s with toks:=s.toks+1}->wpAny (model X.prog X.w) X.A (f (.int i t) (.int j u)) Q E s) :
 xr X f (Mb fun i j=>.int (g i j)):=by
 intro pins s σ H x y v u Q I rx ry h;obtain ⟨i,j,rfl,rfl,q⟩:=h;obtain ⟨t,rfl⟩:=rx;obtain ⟨t',rfl⟩:=ry;exact rule i j t t' s _ _ ⟨.int (g i j),H,I.tok _,⟨_,rfl⟩,q⟩
theorem KI{f:Value->Value->Sem Value}{g:Int->Int->Bool}
 (rule:∀ (i j:Int) (t u:Tok) (s:Shared) (Q:Value->Shared->Prop) (E:Value->Shared->Prop),Q (.bool (g i j)) s->wpAny (model X.prog X.w) X.A (f (.int i t) (.int j u)) Q E s) :
 xr X f (Mb fun i j=>.bl (g i j)):=by
 intro pins s σ H x y v u Q I rx ry h;obtain ⟨i,j,rfl,rfl,q⟩:=h;obtain ⟨t,rfl⟩:=rx;obtain ⟨t',rfl⟩:=ry;exact rule i j t t' s _ _ ⟨.bl (g i j),H,I,rfl,q⟩
noncomputable def RA(i j:Int):Prop:=0<=j/\j<=1000000/\i.natAbs<2 ^ 64
theorem iU:xr X (binaryOp .Add) (Mb fun i j=>.int (i+j)):=OO fun _ _ _ _ _ _ _ q=>add_int q
theorem MT:xr X (binaryOp .Sub) (Mb fun i j=>.int (i-j)):=OO fun _ _ _ _ _ _ _ q=>sub_int q
theorem IG:xr X (binaryOp .Mod) (rI (fun _ j=>0<j) fun i j=>.int (i % j)):=Rz fun i j _ _ _ _ _ hc q=>by
 have h1:(0:Int)<j:=hc;exact mod_int' (by omega) (by rw [Int.fmod_eq_emod_of_nonneg i (by omega)];exact q)
theorem MU:xr X (binaryOp .LShift) (rI RA fun i j=>.int (i*2 ^ j.toNat)):=Rz fun _ _ _ _ _ _ _ hc q=>lshift_int_small hc.1 hc.2.1 hc.2.2 q
theorem UJ{f:Value->Sem Value}{g:Int->Int}
 (rule:∀ (i:Int) (t:Tok) (s:Shared) (Q:Value->Shared->Prop) (E:Value->Shared->Prop),Q (.int (g i) s.toks) {s with toks:=s.toks+1}->wpAny (model X.prog X.w) X.A (f (.int i t)) Q E s) :
 Ry X f (rU fun i=>.int (g i)):=by
 intro pins s σ H x v Q I rx h;obtain ⟨i,rfl,q⟩:=h;obtain ⟨t,rfl⟩:=rx;exact rule i t s _ _ ⟨.int (g i),H,I.tok _,⟨_,rfl⟩,q⟩
theorem D5:Ry X (unaryOp .USub) (rU fun i=>.int (-i)):=UJ fun _ _ _ _ _ q=>neg_int q
end
noncomputable def OP:V->V->Bool
 |.non,.non=>true | .non,.int _=>true | .int _,.non=>true | .non,.bl _=>true | .bl _,.non=>true | .non,.str _=>true | .str _,.non=>true
 |.int _,.int _=>true | .bl _,.bl _=>true | .str _,.str _=>true | .DV _,.DV _=>true
 |.int _,.str _=>true | .str _,.int _=>true | .bl _,.str _=>true | .str _,.bl _=>true
 |_,_=>false
noncomputable def UK:R2:=fun x y H Q=>OP x y=true/\Q (.bl (decide (x=y))) H
noncomputable def UL:R2:=fun x y H Q=>OP x y=true/\Q (.bl (!decide (x=y))) H
theorem FG{i j:Int}:decide (V.int i=V.int j)=(i == j):=by
 rw [Bool.eq_iff_iff];simp
theorem II{i j:Bool}:decide (V.bl i=V.bl j)=(i == j):=by
 rw [Bool.eq_iff_iff];simp
theorem FH{i j:Str}:decide (V.str i=V.str j)=(i == j):=by
 rw [Bool.eq_iff_iff];simp
theorem FI{i j:Array UInt8}:decide (V.DV i=V.DV j)=(i.toList == j.toList):=by
 rw [Bool.eq_iff_iff];cases i;cases j;simp
section
variable {X:Cx}{a b c:Expr}{ta tb tc:TE}{pos:Pos}
theorem cy{pins:List (Addr × Obj)}{σ:St}{H:Hp}{s:Shared}{Q:VK}{k k':Bool}(I:Inv X pins σ H s)(q:Q (.bl k) H)(e:k=k'):EP X pins σ Q (.bool k') s:=by
 subst e;exact ⟨.bl k,H,I,rfl,q⟩
theorem cU:xr X (compareOp .Eq) UK:=by
 intro pins s σ H x y v u Q I rx ry h;obtain ⟨hs,q⟩:=h;cases x with
 |
  non=>
  cases rx;cases y with
  |non=>cases ry;exact PySem.EqNone.eq_none_none (cy I q (by simp))
  |bl j=>cases ry;exact PySem.EqNone.eq_none_bool (cy I q (by simp))
  |int j=>obtain ⟨t',rfl⟩:=ry;exact PySem.EqNone.eq_none_int (cy I q (by simp))
  |str j=>obtain ⟨t',rfl⟩:=ry;exact PySem.EqNone.eq_none_str (cy I q (by simp))
  |_=>exact absurd (show false=true from hs) Bool.false_ne_true
 |
  bl i=>
  cases rx;cases y with
  |non=>cases ry;exact PySem.EqNone.eq_bool_none (cy I q (by simp))
  |bl j=>cases ry;exact eq_bool (cy I q II)
  |str j=>obtain ⟨t',rfl⟩:=ry;exact PySem.EqMixed.eq_bool_str (cy I q (by simp))
  |_=>exact absurd (show false=true from hs) Bool.false_ne_true
 |
  int i=>
  obtain ⟨t,rfl⟩:=rx;cases y with
  |non=>cases ry;exact PySem.EqNone.eq_int_none (cy I q (by simp))
  |int j=>obtain ⟨t',rfl⟩:=ry;exact eq_int (cy I q FG)
  |str j=>obtain ⟨t',rfl⟩:=ry;exact PySem.EqMixed.eq_int_str (cy I q (by simp))
  |_=>exact absurd (show false=true from hs) Bool.false_ne_true
 |
  str i=>
  obtain ⟨t,rfl⟩:=rx;cases y with
  |non=>cases ry;exact PySem.EqNone.eq_str_none (cy I q (by simp))
  |bl j=>cases ry;exact PySem.EqMixed.eq_str_bool (cy I q (by simp))
  |int j=>obtain ⟨t',rfl⟩:=ry;exact PySem.EqMixed.eq_str_int (cy I q (by simp))
  |str j=>obtain ⟨t',rfl⟩:=ry;exact eq_str (cy I q FH)
  |_=>exact absurd (show false=true from hs) Bool.false_ne_true
 |
  DV i=>
  obtain ⟨t,rfl⟩:=rx;cases y with
  |DV j=>obtain ⟨t',rfl⟩:=ry;exact PySem.W.eq_bytes (cy I q FI)
  |_=>exact absurd (show false=true from hs) Bool.false_ne_true
 |_=>cases y<;>exact absurd (show false=true from hs) Bool.false_ne_true
theorem lA:xr X (compareOp .NotEq) UL:=by
 intro pins s σ H x y v u Q I rx ry h;obtain ⟨hs,q⟩:=h;cases x with
 |
  non=>
  cases rx;cases y with
  |non=>cases ry;exact PySem.EqNone.ne_none_none (cy I q (by simp))
  |bl j=>cases ry;exact PySem.EqNone.ne_none_bool (cy I q (by simp))
  |int j=>obtain ⟨t',rfl⟩:=ry;exact PySem.EqNone.ne_none_int (cy I q (by simp))
  |str j=>obtain ⟨t',rfl⟩:=ry;exact PySem.EqNone.ne_none_str (cy I q (by simp))
  |_=>exact absurd (show false=true from hs) Bool.false_ne_true
 |
  bl i=>
  cases rx;cases y with
  |non=>cases ry;exact PySem.EqNone.ne_bool_none (cy I q (by simp))
  |bl j=>cases ry;exact ne_bool (cy I q (congrArg not II))
  |str j=>obtain ⟨t',rfl⟩:=ry;exact PySem.EqMixed.ne_bool_str (cy I q (by simp))
  |_=>exact absurd (show false=true from hs) Bool.false_ne_true
 |
  int i=>
  obtain ⟨t,rfl⟩:=rx;cases y with
  |non=>cases ry;exact PySem.EqNone.ne_int_none (cy I q (by simp))
  |int j=>obtain ⟨t',rfl⟩:=ry;exact ne_int (cy I q (congrArg not FG))
  |str j=>obtain ⟨t',rfl⟩:=ry;exact PySem.EqMixed.ne_int_str (cy I q (by simp))
  |_=>exact absurd (show false=true from hs) Bool.false_ne_true
 |
  str i=>
  obtain ⟨t,rfl⟩:=rx;cases y with
  |non=>cases ry;exact PySem.EqNone.ne_str_none (cy I q (by simp))
  |bl j=>cases ry;exact PySem.EqMixed.ne_str_bool (cy I q (by simp))
  |int j=>obtain ⟨t',rfl⟩:=ry;exact PySem.EqMixed.ne_str_int (cy I q (by simp))
  |str j=>obtain ⟨t',rfl⟩:=ry;exact ne_str (cy I q (congrArg not FH))
  |_=>exact absurd (show false=true from hs) Bool.false_ne_true
 |
  DV i=>
  obtain ⟨t,rfl⟩:=rx;cases y with
  |DV j=>obtain ⟨t',rfl⟩:=ry;exact PySem.W.ne_bytes (cy I q (congrArg not FI))
  |_=>exact absurd (show false=true from hs) Bool.false_ne_true
 |_=>cases y<;>exact absurd (show false=true from hs) Bool.false_ne_true
theorem gX:xr X (compareOp .Lt) (Mb fun i j=>.bl (decide (i<j))):=KI fun _ _ _ _ _ _ _ q=>lt_int q
theorem OQ:xr X (compareOp .LtE) (Mb fun i j=>.bl (decide (i<=j))):=KI fun _ _ _ _ _ _ _ q=>le_int q
theorem oY:xr X (compareOp .Gt) (Mb fun i j=>.bl (decide (j<i))):=KI fun _ _ _ _ _ _ _ q=>gt_int q
theorem vz:xr X (compareOp .GtE) (Mb fun i j=>.bl (decide (j<=i))):=KI fun _ _ _ _ _ _ _ q=>ge_int q
theorem dW:xr X (compareOp .Is) (fun x y H Q=>y=.non/\Q (.bl (decide (x=.non))) H):=by
 intro pins s σ H x y v u Q I rx ry h;obtain ⟨rfl,q⟩:=h;cases ry;refine is_none_gen (cy I q ?_);cases x<;>first
  |(cases rx;rfl)
  |(obtain ⟨t,rfl⟩:=rx;rfl)
theorem wX:xr X (compareOp .IsNot) (fun x y H Q=>y=.non/\Q (.bl (!decide (x=.non))) H):=by
 intro pins s σ H x y v u Q I rx ry h;obtain ⟨rfl,q⟩:=h;cases ry;refine isnot_none_gen (cy I q ?_);cases x<;>first
  |(cases rx;rfl)
  |(obtain ⟨t,rfl⟩:=rx;rfl)
theorem aE(b:Expr){op:CmpOp}(h:op≠.In:=by decide)(h2:op≠.NotIn:=by decide):behindInMarks op b=false:=by
 have e1:(op == CmpOp.In)=false:=by cases op<;>first|rfl|exact absurd rfl h
 have e2:(op == CmpOp.NotIn)=false:=by cases op<;>first|rfl|exact absurd rfl h2
 cases b<;>simp [behindInMarks,e1,e2]
theorem gJ{op:CmpOp}{r:R2}(ho:xr X (compareOp op) r)(ha:PE X a ta)(hb:PE X b tb)(hm:behindInMarks op b=false):PE X (.Compare a [op] [b] pos) (QH r ta tb):=by
 intro pins s σ H Q I h;exact wpAny_Compare1 (MS ha hb I h fun v u s2 x y H2 I2 rx ry q=>ho pins s2 σ H2 x y v u Q I2 rx ry q) hm
noncomputable def OS(t:TE):TT:=fun σ H Q=>t σ H fun x H'=>∃ k,x=.bl k/\Q k H'
theorem aC{op:CmpOp}{r:R2}(ho:xr X (compareOp op) r)(ha:PE X a ta)(hb:PE X b tb)(hm:behindInMarks op b=false):PT X (.Compare a [op] [b] pos) (OS (QH r ta tb)):=by
 intro pins s σ H Q I h;refine wpAny_isTrue_Compare1 (fc (ha pins s σ H _ I h) fun v s1 ⟨x,H1,I1,r1,q1⟩=>fc (hb pins s1 σ H1 _ I1 q1) fun u s2 ⟨y,H2,I2,r2,q2⟩=>
  fc (ho pins s2 σ H2 x y v u _ I2 r1 r2 q2) fun c s3 ⟨z,H3,I3,r3,k,e,q3⟩=>?_) hm
 subst e;cases r3;exact wpAny_truthy_bool ⟨H3,I3,q3⟩
theorem AZ:(sizeLine:Nat)<2 ^ 63:=by rw [sizeLine_eq];decide
theorem vals1{x:V}{us:List Value}(r:Vals [x] us):∃ u,us=[u]/\RelV x u:=by
 cases r with
 |cons r1 r2=>cases r2;exact ⟨_,rfl,r1⟩
theorem oZ:mU X (.builtin "abs") (fun xs H Q=>∃ i,xs=[.int i]/\Q (.int (if i<0 then -i else i)) H):=by
 intro pins s σ H xs us Q I r h;obtain ⟨i,rfl,q⟩:=h;obtain ⟨u,rfl,t,rfl⟩:=vals1 r;exact call_abs_int fun u tk=>⟨.int (if i<0 then -i else i),H,I.tok _,⟨_,rfl⟩,q⟩
end
end L2
namespace L2
open PySem PySem.Spec PyProof.Rows
structure D6(h:Heap)(x dx C:Addr)(mA:Str->Option Value):Prop where
 obj:h.get? x=some (PySem.W.instObj C dx)
 ns:h.Ns1 dx mA
 ne:dx≠x
theorem GP{h:Heap}{dx:Addr}{mA:Str->Option Value}(n:h.Ns1 dx mA):∃ od,h.get? dx=some od/\∀ name,PySem.W.lookIn name od=some (mA name):=by
 obtain ⟨o,es,ep,ho,hd,hk,_,hm⟩:=n;refine ⟨o,ho,fun name=>?_⟩;have e:=hm name;unfold nsFind findBy at e;rw [<-Array.find?_toList] at e;unfold PySem.W.lookIn;rw [hd];dsimp only;split
 . rename_i y q;rw [q] at e;exact congrArg some e
 . rename_i q;rw [q] at e;have a:es.toList.any (·.refKey)=false:=by
    rw [List.any_eq_false];intro y hy;obtain ⟨z,t,hkey⟩:=hk y (Array.mem_toList_iff.mp hy);simp [DictEntry.refKey,hkey]
   have a':¬ es.toList.any (·.refKey)=true:=by rw [a];exact Bool.false_ne_true
   rw [if_neg a'];exact congrArg some e
theorem D6.look{h:Heap}{x dx C:Addr}{mA:Str->Option Value}(I:D6 h x dx C mA):∃ od,PySem.W.InstAt h x (PySem.W.instObj C dx) C (some od)/\∀ name,PySem.W.lookIn name od=some (mA name):=
 let ⟨od,ho,hl⟩:=GP I.ns
 ⟨od,⟨I.obj,rfl,rfl,ho⟩,hl⟩
section
variable {prog:Program}{w:World}{A:Around}{E:Value->Shared->Prop}{s:Shared}{K:PySem.W.Frag}{x dx C f:Addr}{mA:Str->Option Value}{name:Str}{v:Value}
theorem get_map{expr:Bool}{Q:Value->Shared->Prop}(X:K.In s.heap)(I:D6 s.heap x dx C mA)(hg:PySem.W.plainGet K C name=true)(hh:PySem.W.hasDictIn K C=true)
 (ha:PySem.W.findIn K (.ref C) name=some none) (hv:mA name=some v) (hv':PySem.W.handedIn v=true) (h:Q v {s with toks:=s.toks+1}) :
 wpAny (model prog w) A (getAttr (.ref x) name expr) Q E s:=by
 obtain ⟨od,J,hl⟩:=I.look;exact PySem.W.get_value X J (PySem.W.plainGet_of hg).1 (PySem.W.findObj_own hh ha rfl (by rw [hl,hv])) hv' h
theorem IJ{pl:Sem Bool}{Q:Value × List Value->Shared->Prop}(X:K.In s.heap)(I:D6 s.heap x dx C mA)(hg:PySem.W.plainGet K C name=true)
 (hf:PySem.W.findIn K (.ref C) name=some (some (.ref f))) (ht:PySem.W.isFn K (.ref f)=true) (hv:mA name=none) (h:Q (.ref f,[.ref x]) s) :
 wpAny (model prog w) A (getMethod (.ref x) name pl) Q E s:=by
 obtain ⟨od,J,hl⟩:=I.look;exact PySem.W.method_fn X J (PySem.W.plainGet_of hg).1 (PySem.W.plainGet_of hg).2 hf (beq_iff_eq.mp ht) (by show (PySem.W.lookIn name od).map (·.isSome)=some false;rw [hl,hv];rfl) h
theorem KJ{ns:List Str}{Q:Unit->Shared->Prop}(X:K.In s.heap)(I:D6 s.heap x dx C mA)
 (hs:PySem.W.findIn K (.ref C) "__setattr__"=some (some (.builtin "object.__setattr__"))) (hp:PySem.W.plainOver K C=true) (ht:PySem.W.takerIn K C name=some none) (hh:PySem.W.hasDictIn K C=true)
 (hw:PySem.Within mA ns) (hsz:ns.length<=sizeLine)
 (h:∀ h',D6 h' x dx C (fun y=>if y=name then some v else mA y)->Heap.SameBut dx s.heap h'->Q () {s with heap:=h',toks:=s.toks+2}) :
 wpAny (model prog w) A (setAttr (.ref x) name v) Q E s:=by
 obtain ⟨od,J,hl⟩:=I.look;refine PySem.W.set_plain X J hs (PySem.W.osa_open (s:={s with toks:=s.toks+1}) (r:=none) X J hp ht fun b=>?_);obtain ⟨cd,hc,hd'⟩:=PySem.W.any_some hh;have hx:s.heap.get? x=some ⟨.ref C,some dx,.plain,#[]⟩:=I.obj;refine wpAny_bind (wpAny_pure (wpAny_bind (wpAny_bind (wpAny_loadPart hx (wpAny_bind (PySem.W.Looks.here (s:={s with toks:=s.toks+1}) (PySem.W.looks_clsIn X hc) ?_))))));rw [hd'];refine wpAny_pure (a:=some dx) (wpAny_bind (wpAny_pure (wpAny_bind ?_)));refine wpAny_nsSet1 (s:={s with toks:=s.toks+1}) I.ns fun h' hn2 hs2=>?_;obtain ⟨oD,esD,WA,UM,UN,UO⟩:=hn2.count (PySem.Within.cons name v hw);refine wpAny_bind (wpAny_lookBehind UM (by rw [UN];exact pastItsLine_dict (Nat.le_trans UO (by rw [List.length_cons];omega))) ?_);exact wpAny_pure (h _ ⟨(hs2.2 _ (Ne.symm I.ne)).trans I.obj,hn2,I.ne⟩ hs2)
theorem IK{R:Result->Shared->Prop}{vs:List Value}{kw:List (Str × Value)}(X:K.In s.heap)(hm:PySem.W.makesIn K C=true)
 (hi:PySem.W.findIn K (.ref C) "__init__"=some (some (.ref f))) (hf:PySem.W.typeIn K (.ref f)=some (.type "function"))
 (h:codeAny (model prog w) (A.under (.builtin "type.__call__" ⟨.ref C::vs,kw⟩)) (.call (.ref f) ⟨.ref (s.heap.objs.size+1)::vs,kw⟩) (PySem.W.InitBack (s.heap.objs.size+1) R)
  {s with heap:=(s.heap.push PySem.W.emptyDict).push (PySem.W.instObj C s.heap.objs.size)}) :
 codeAny (model prog w) A (.call (.ref C) ⟨vs,kw⟩) R s:=by
 obtain ⟨hh,g,d,t,os⟩:=s;exact PySem.W.make_core (PySem.W.makes_of X hm) (PySem.W.looks_findIn X hi) (fun self=>PySem.W.bind_fn X self hf) (.inl rfl) h
end
noncomputable def cK(f:Str)(v:V):List (Str × V)->List (Str × V)
 |[]=>[(f,v)]
 |(g,x)::r=>if g=f then (g,v)::r else (g,x)::cK f v r
theorem vB(f g:Str)(v:V):∀ fs:List (Str × V),(cK f v fs).lookup g=if g=f then some v else fs.lookup g
 |
  []=>by
  show List.lookup g [(f,v)]=_;by_cases h:g=f
  . have hb:(g == f)=true:=beq_iff_eq.mpr h;simp only [List.lookup,hb,if_pos h]
  . have hb:(g == f)=false:=beq_eq_false_iff_ne.mpr h;simp only [List.lookup,hb,if_neg h]
 |
  (k,x)::r=>by
  have ih:=vB f g v r;rw [show cK f v ((k,x)::r)=(if k=f then (k,v)::r else (k,x)::cK f v r) from rfl];by_cases hk:k=f
  . rw [if_pos hk];by_cases h:g=k
    . have hb:(g == k)=true:=beq_iff_eq.mpr h;simp only [List.lookup,hb,if_pos (h.trans hk)]
    . have hb:(g == k)=false:=beq_eq_false_iff_ne.mpr h;simp only [List.lookup,hb,if_neg (fun e:g=f=>h (e.trans hk.symm))]
  . rw [if_neg hk];by_cases h:g=k
    . have hb:(g == k)=true:=beq_iff_eq.mpr h;simp only [List.lookup,hb,if_neg (fun e:g=f=>hk (h.symm.trans e))]
    . have hb:(g == k)=false:=beq_eq_false_iff_ne.mpr h;simp only [List.lookup,hb];exact ih
theorem uo(f:Str)(v:V):∀ fs:List (Str × V),f∈(cK f v fs).map (·.1)/\∀ g,g∈fs.map (·.1)->g∈(cK f v fs).map (·.1)
 |[]=>⟨by simp [cK],fun g h=>by simp at h⟩
 |
  (k,x)::r=>by
  obtain ⟨i1,i2⟩:=uo f v r;rw [show cK f v ((k,x)::r)=(if k=f then (k,v)::r else (k,x)::cK f v r) from rfl];by_cases hk:k=f
  . rw [if_pos hk];subst hk;exact ⟨by simp,fun g h=>by simpa using h⟩
  . rw [if_neg hk];refine ⟨?_,fun g h=>?_⟩
    . rw [List.map_cons];exact List.mem_cons_of_mem _ i1
    . rw [List.map_cons] at h ⊢;rcases List.mem_cons.mp h with e|e
      . exact List.mem_cons.mpr (.inl e)
      . exact List.mem_cons_of_mem _ (i2 g e)
theorem cS(f:Str)(v:V):∀ fs:List (Str × V),(cK f v fs).length<=fs.length+1
 |[]=>by simp [cK]
 |
  (k,x)::r=>by
  have ih:=cS f v r;rw [show cK f v ((k,x)::r)=(if k=f then (k,v)::r else (k,x)::cK f v r) from rfl];by_cases hk:k=f
  . rw [if_pos hk,List.length_cons,List.length_cons];omega
  . rw [if_neg hk,List.length_cons,List.length_cons];omega
theorem qB.some_of{v:V}{o:Option Value}(r:qB (some v) o):∃ u,o=some u/\RelV v u:=by
 cases o with
 |none=>exact (show False from r).elim
 |some u=>exact ⟨u,rfl,r⟩
theorem qB.none_of{o:Option Value}(r:qB none o):o=none:=by
 cases o with
 |none=>rfl
 |some u=>exact (show False from r).elim
theorem GQ{v:V}{u:Value}(r:RelV v u):PySem.W.handedIn u=true:=by
 cases v with
 |non=>cases (show u=Value.none from r);rfl
 |bl b=>cases (show u=Value.bool b from r);rfl
 |int i=>obtain ⟨t,e⟩:=(show ∃ t,u=Value.int i t from r);cases e;rfl
 |str x=>obtain ⟨t,e⟩:=(show ∃ t,u=Value.str x t from r);cases e;rfl
 |DV b=>obtain ⟨t,e⟩:=(show ∃ t,u=Value.bytes b t from r);cases e;rfl
 |QB b=>obtain ⟨t,e⟩:=(show ∃ t,u=Value.float b t from r);cases e;rfl
 |ref a=>cases (show u=Value.ref a from r);rfl
 |ty n=>cases (show u=Value.type n from r);rfl
section
variable {P:Program}{w:World}{H H':Hp}{h h':Heap}{a C dx:Addr}{fs fs':List (Str × V)}
theorem A0(hok:oW P w H h)(e:H a=some (.ins C dx fs)):∃ mA,D6 h a dx C mA/\(∀ f,qB (fs.lookup f) (mA f))/\PySem.Within mA (fs.map (·.1))/\fs.length<=1000/\H dx=some (.own a):=by
 obtain ⟨d,z,ne,ob,mA,n,r,q⟩:=(show eU P w H h a (.ins C dx fs) from hok a _ e)
 exact ⟨mA,⟨ob,n,ne⟩,r,q,z,d⟩
end
structure DW(K:PySem.W.Frag)(C:Addr):Prop where
 pg:PySem.W.plainGet K C Str.empty=true
 hd:PySem.W.hasDictIn K C=true
 po:PySem.W.plainOver K C=true
 sa:PySem.W.findIn K (.ref C) "__setattr__"=some (some (.builtin "object.__setattr__"))
theorem DW.get{K:PySem.W.Frag}{C:Addr}(c:DW K C)(f:Str):PySem.W.plainGet K C f=true:=c.pg
noncomputable def dF(K:PySem.W.Frag)(C:Addr)(f:Str):Prop:=PySem.W.findIn K (.ref C) f=some none
theorem dF.OT{K:PySem.W.Frag}{C:Addr}{f:Str}(n:dF K C f):PySem.W.takerIn K C f=some none:=by
 unfold PySem.W.takerIn;rw [show PySem.W.findIn K (.ref C) f=some none from n];rfl
structure Meth(K:PySem.W.Frag)(C:Addr)(m:Str)(f:Addr):Prop where
 at_:PySem.W.findIn K (.ref C) m=some (some (.ref f))
 fn:PySem.W.isFn K (.ref f)=true
 kp:PySem.W.keepIn K (.ref f)=true
section
variable {X:Cx}{pins:List (Addr × Obj)}{σ:St}{H:Hp}{s:Shared}{a C dx:Addr}{fs:List (Str × V)}{f:Str}{v:V}{A:Around}{E:Value->Shared->Prop}
theorem D7{b:Bool}{Q:Value->Shared->Prop}(I:Inv X pins σ H s)(e:H a=some (.ins C dx fs))(c:DW X.K C)(n:dF X.K C f)(l:fs.lookup f=some v)
 (h:∀ u s',Inv X pins σ H s'->RelV v u->Q u s'):wpAny (model X.prog X.w) A (getAttr (.ref a) f b) Q E s:=by
 obtain ⟨mA,O,r,_,_,_⟩:=A0 I.hok e;obtain ⟨u,hu,ru⟩:=qB.some_of (v:=v) (o:=mA f) (by rw [<-l];exact r f);exact get_map I.Fx O (c.get f) c.hd n hu (GQ ru) (h u _ (I.tok _) ru)
theorem xu{m:Str}{g:Addr}{pl:Sem Bool}{Q:Value × List Value->Shared->Prop}(I:Inv X pins σ H s)(e:H a=some (.ins C dx fs))(c:DW X.K C)(k:Meth X.K C m g)(l:fs.lookup m=none)
 (h:Q (.ref g,[.ref a]) s):wpAny (model X.prog X.w) A (getMethod (.ref a) m pl) Q E s:=by
 obtain ⟨mA,O,r,_,_,_⟩:=A0 I.hok e;have hn:mA m=none:=qB.none_of (by rw [<-l];exact r m);exact IJ I.Fx O (c.get m) k.at_ k.fn hn h
theorem D8{y:V}{u:Value}{Q:Unit->Shared->Prop}(I:Inv X pins σ H s)(e:H a=some (.ins C dx fs))(c:DW X.K C)(n:dF X.K C f)(hl:fs.length<1000)(ry:RelV y u)
 (h:∀ s',Inv X pins σ (upd H a (.ins C dx (cK f y fs))) s'->Q () s'):wpAny (model X.prog X.w) A (setAttr (.ref a) f u) Q E s:=by
 obtain ⟨mA,O,r,wi,_,ho⟩:=A0 I.hok e;have hz:(fs.map (·.1)).length<=sizeLine:=by rw [List.length_map,sizeLine_eq];omega
 refine KJ I.Fx O c.sa c.po n.OT c.hd wi hz fun h' O' sb=>h _ ?_;have hd:∃ o,h'.get? dx=some o:=let ⟨o,_,_,e',_⟩:=O'.ns;⟨o,e'⟩;refine I.write (x:=a) (e:=dx) (by rw [e];exact True.intro) (.inr ho) (fun b q hb z=>(sb.2 b hb).trans z) hd ?_;refine ⟨by rw [aJ O.ne];exact ho,?_,O.ne,O'.obj,_,O'.ns,fun g=>?_,fun g hg=>?_⟩
 . have:=cS f y fs;omega
 . show qB ((cK f y fs).lookup g) (if g=f then some u else mA g);rw [vB];by_cases q:g=f
   . rw [if_pos q,if_pos q];exact ry
   . rw [if_neg q,if_neg q];exact r g
 . by_cases q:g=f
   . rw [q];exact (uo f y fs).1
   . refine (uo f y fs).2 g (wi g fun z=>hg ?_);show (if g=f then some u else mA g)=none;rw [if_neg q];exact z
theorem Inv.made(I:Inv X pins σ H s):Inv X pins σ (upd (upd H s.heap.objs.size (.own (s.heap.objs.size+1))) (s.heap.objs.size+1) (.ins C s.heap.objs.size []))
 {s with heap:=(s.heap.push PySem.W.emptyDict).push (PySem.W.instObj C s.heap.objs.size)}:=by
 have e1:(s.heap.push PySem.W.emptyDict).get? s.heap.objs.size=some PySem.W.emptyDict:=Heap.get?_push_size s.heap rfl;have e2:((s.heap.push PySem.W.emptyDict).push (PySem.W.instObj C s.heap.objs.size)).get? (s.heap.objs.size+1)=some (PySem.W.instObj C s.heap.objs.size):=by
  have:=Heap.get?_push_size (s.heap.push PySem.W.emptyDict) (o:=PySem.W.instObj C s.heap.objs.size) rfl
  rwa [Heap.size_push] at this
 have e3:(s.heap.push PySem.W.emptyDict).Ns s.heap.objs.size (fun _=>none):=⟨PySem.W.emptyDict,#[],_,e1,rfl,(fun e he=>absurd he (by simp)),fun _=>rfl⟩
 have I1:=I.laid (a:=s.heap.objs.size) (o:=.own (s.heap.objs.size+1)) (h':=s.heap.push PySem.W.emptyDict) (t':=s.toks) (fun b u q=>Heap.get?_push_of_some _ q) (Nat.le_refl _) ⟨_,e1⟩;refine I1.laid (a:=s.heap.objs.size+1) (o:=.ins C s.heap.objs.size []) (t':=s.toks) (fun b u q=>Heap.get?_push_of_some _ q) (Nat.le_of_eq (Heap.size_push _ _)) ?_;have ne:s.heap.objs.size≠s.heap.objs.size+1:=Nat.ne_of_lt (Nat.lt_succ_self _);refine ⟨by rw [aJ ne,ao],Nat.zero_le _,ne,e2,fun _=>none,(Heap.Ns1.of_empty e3).at fun o q=>Heap.get?_push_of_some _ q,fun _=>True.intro,fun y hy=>absurd rfl hy⟩
theorem KL{prog:Program}{w:World}{env:Env}{e:Expr}{f:Str}{pos:Pos}{s:Shared}{Q:Value->Shared->Prop}(hb:attributeBase e f env (eval e env)=eval e env)
 (h:wpAny (model prog w) A (eval e env) (fun o s₁=>wpAny (model prog w) A (getAttr o f true) Q E s₁) E s):wpAny (model prog w) A (eval (.Attribute e f pos) env) Q E s:=
 Attribute_any_ h (by rw [arm_eval_Attribute,hb])
end
noncomputable def OU(K:PySem.W.Frag)(ta:TE)(f:Str):TE:=fun σ H Q=>ta σ H fun x H1=>∃ a C dx fs v,x=.ref a/\H1 a=some (.ins C dx fs)/\DW K C/\dF K C f/\fs.lookup f=some v/\Q v H1
noncomputable def RB(K:PySem.W.Frag)(ta tv:TE)(f:Str):TS:=fun D σ H=>tv σ H fun y H1=>ta σ H1 fun x H2=>∃ a C dx fs,x=.ref a/\H2 a=some (.ins C dx fs)/\DW K C/\dF K C f/\fs.length<1000/\
 D.nx σ (upd H2 a (.ins C dx (cK f y fs)))
section
variable {X:Cx}{o e value:Expr}{f:Str}{pos pos' tpos:Pos}{ta tv:TE}
theorem MV(he:PE X e ta)(hb:attributeBase e f X.env (eval e X.env)=eval e X.env):PE X (.Attribute e f pos) (OU X.K ta f):=by
 intro pins s σ H Q I h;refine KL hb (fc (he pins s σ H _ I h) fun u s1 ⟨x,H1,I1,rx,a,C,dx,fs,v,ex,ea,c,n,l,q⟩=>?_);subst ex;obtain rfl:u=Value.ref a:=rx;exact D7 I1 ea c n l fun u' s2 I2 ru=>⟨v,H1,I2,ru,q⟩
theorem gR(ha:PE X o ta)(hv:PE X value tv)(hs:swapsWith value (some (.Attribute o f pos')) pos.line X.env=pure false):PS X (.Assign [.Attribute o f pos'] value pos) (RB X.K ta tv f):=by
 intro pins s σ H D I h;refine plainObj_wpAny_Assign_Attribute (fc (hv pins s σ H _ I h) fun u s1 ⟨y,H1,I1,ry,q⟩=>fc (ha pins s1 σ H1 _ I1 q) fun ov s2 ⟨x,H2,I2,rx,a,C,dx,fs,ex,ea,c,n,l,q2⟩=>?_) hs;subst ex;obtain rfl:ov=Value.ref a:=rx;exact D8 I2 ea c n l ry fun s3 I3=>⟨σ,_,I3,q2⟩
theorem Mc{pl:Sem Bool}{m:Str}{apos:Pos}{args:List Expr}{pins:List (Addr × Obj)}{s:Shared}{σ:St}{H:Hp}{Q:Value->Shared->Prop}{te:TE}(he:PE X e te)(I:Inv X pins σ H s)
 (h:te σ H fun x H1=>∃ a C dx fs g,x=.ref a/\H1 a=some (.ins C dx fs)/\DW X.K C/\Meth X.K C m g/\fs.lookup m=none/\
  ∀ s1,Inv X pins σ H1 s1->wpAny (model X.prog X.w) X.A (callWith pos (.ref g) [.ref a] (backTo pos (starEach args X.env)) (backToKw pos (keywordEach [] X.env))) Q X.xe s1)
 (ht:eval (.Call (.Attribute e m apos) args [] pos) X.env=(do
  let ov <-eval e X.env
  standAt apos.atName
  let (f,first) <-holding [ov] (getMethod ov m pl)
  callWith pos f first (backTo pos (starEach args X.env)) (backToKw pos (keywordEach [] X.env)))) :
 wpAny (model X.prog X.w) X.A (eval (.Call (.Attribute e m apos) args [] pos) X.env) Q X.xe s:=by
 refine PySem.W.methodCall_KW (pl:=pl) (fc (he pins s σ H _ I h) fun u s1 ⟨x,H1,I1,rx,a,C,dx,fs,g,ex,ea,c,k,l,q⟩=>?_) ht;subst ex;obtain rfl:u=Value.ref a:=rx;exact xu I1 ea c k l (q s1 I1)
end
end L2
namespace L2
open PySem PySem.Spec PyProof.Rows
structure fT(k:Nat)(A:Around):Prop where
 hd:A.handled=none
 dp:A.depth+3*k+5<recursionLimit
 un:A.units+16*k+200<cLine
theorem fT.mono{j k:Nat}{A:Around}(r:fT k A)(h:j<=k):fT j A:=⟨r.hd,by have:=r.dp;omega,by have:=r.un;omega⟩
theorem fT.deeper{k:Nat}{A:Around}(r:fT (k+1) A)(env:Env):fT k (A.deeper env):=
 ⟨r.hd,by have:=r.dp;show A.depth+1+3*k+5<_;omega,by have:=r.un;show A.units+3+16*k+200<_;omega⟩
theorem D9{A:Around}{C:Addr}{us:List Value}{kw:List (Str × Value)}:(A.under (.builtin "type.__call__" ⟨.ref C::us,kw⟩)).depth=A.depth+1:=by
 first|rfl|simp [Around.under,Code.weight,Code.isCreation,Code.isGuard,Code.isCaller,Code.frames,Code.isFrame,guardIds]
theorem D_{A:Around}{C:Addr}{us:List Value}{kw:List (Str × Value)}:(A.under (.builtin "type.__call__" ⟨.ref C::us,kw⟩)).units=A.units+1:=by
 first|rfl|simp [Around.under,Code.cUnits,Code.frames,Code.isFrame]
theorem fT.make{k:Nat}{A:Around}(r:fT (k+1) A)(C:Addr)(us:List Value)(kw:List (Str × Value)):fT k (A.under (.builtin "type.__call__" ⟨.ref C::us,kw⟩)):=
 ⟨r.hd,by have:=r.dp;rw [D9];omega,by have:=r.un;rw [D_];omega⟩
theorem fT.depth{k:Nat}{A:Around}(r:fT k A):A.depth<recursionLimit:=by have:=r.dp;omega
theorem fT.units{k:Nat}{A:Around}(r:fT k A):A.units+64<cLine:=by have:=r.un;omega
noncomputable def KN:TA:=fun _ H Q=>Q [] H
noncomputable def IM(ta:TE)(tr:TA):TA:=fun σ H Q=>ta σ H fun x H1=>tr σ H1 fun xs H2=>Q (x::xs) H2
section
variable {X:Cx}{e:Expr}{es:List Expr}{te:TE}{t:TA}{pos:Pos}
theorem ai:PA X [] KN:=fun _ _ _ _ H Q I h=>Calls.spliced_nil ⟨[],H,I,.nil,h⟩
theorem af(ha:PE X e te)(hr:PA X es t)(hs:starEach (e::es) X.env=(false,eval e X.env)::starEach es X.env:=by rfl):PA X (e::es) (IM te t):=by
 intro pos pins s σ H Q I h;rw [hs];show wpAny _ _ (spliced ((false,eval e X.env)::backTo pos (starEach es X.env))) _ _ s;refine Calls.spliced_cons (fc (ha pins s σ H _ I h) fun u s1 ⟨x,H1,I1,r1,q1⟩=>?_);exact fc (hr pos pins s1 σ H1 _ I1 q1) fun us s2 ⟨xs,H2,I2,r2,q2⟩=>⟨x::xs,H2,I2,.cons r1 r2,q2⟩
noncomputable def RD(t:TA):TE:=fun σ H Q=>t σ H fun xs H1=>xs.length<=sizeLine/\∀ p,H1 p=none->Q (.ref p) (upd H1 p (.tup xs))
noncomputable def RE(t:TA):TE:=fun σ H Q=>t σ H fun xs H1=>xs.length<=sizeLine/\∀ p,H1 p=none->Q (.ref p) (upd H1 p (.lst xs))
theorem gq{x1}(h:PA X es t):PE X (.Tuple es x1 pos) (RD t):=by
 intro pins s σ H Q I hq;refine wpAny_Tuple_spliced (fc (h pos pins s σ H _ I hq) fun us s1 ⟨xs,H1,I1,r,z,q⟩=>⟨by rw [<-r.length];exact z,?_⟩);have hf:H1 s1.heap.objs.size=none:=I1.hok.fresh (Nat.le_refl _);refine ⟨.ref s1.heap.objs.size,upd H1 s1.heap.objs.size (.tup xs),I1.laid (t':=s1.toks) (fun b u e=>Heap.get?_push_of_some _ e) (Nat.le_refl _) ?_,rfl,q _ hf⟩;exact ⟨z,us,r,⟨_,Heap.get?_push_size _ rfl,rfl,_,rfl⟩⟩
theorem aR(h:PA X es t):PE X (.List es pos) (RE t):=by
 intro pins s σ H Q I hq;refine wpAny_List_spliced (fc (h pos pins s σ H _ I hq) fun us s1 ⟨xs,H1,I1,r,z,q⟩=>⟨by rw [<-r.length];exact z,?_⟩);have hf:H1 s1.heap.objs.size=none:=I1.hok.fresh (Nat.le_refl _);refine ⟨.ref s1.heap.objs.size,upd H1 s1.heap.objs.size (.lst xs),I1.laid (t':=s1.toks) (fun b u e=>Heap.get?_push_of_some _ e) (Nat.le_refl _) ?_,rfl,q _ hf⟩;exact ⟨z,us,0,r,Heap.get?_push_size _ rfl⟩
end
noncomputable abbrev Sp:=List V->Hp->VK->XK->Prop
noncomputable abbrev Ig:=List Env->Hp->Shared->XK->Value->Shared->Prop
structure Ea(P:Program)(w:World)(K:PySem.W.Frag)(mg:Str->Option Value)(base:Heap)(A:Around)(outer:List Env)(s:Shared)(H:Hp):Prop where
 frames:A.frames=some outer
 mod:Mod K mg base
 bs:∀ b o,base.get? b=some o->s.heap.get? b=some o/\H b=none
 Ks:base.objs.size<=s.heap.objs.size
 wc:s.heap.FunFrames base outer
 MH:∀ b∈frs outer,H b=none
 hok:oW P w H s.heap
 bare:AllBare s.gens
 tree:P.given.tree=none
noncomputable def CE(outer:List Env)(P:Program)(w:World)(H:Hp)(s:Shared)(Q:VK)(u:Value)(s':Shared):Prop:=
 ∃ v H',s'.os=s.os/\AllBare s'.gens/\Un (frs outer) [] H H' s.heap s'.heap/\oW P w H' s'.heap/\RelV v u/\Q v H'
noncomputable def CR(CX:Ig)(outer:List Env)(P:Program)(w:World)(H:Hp)(s:Shared)(Q:VK)(E:XK)(r:Result)(s':Shared):Prop:=
 match r with
 |.ok (.ret u)=>CE outer P w H s Q u s'
 |.ok _=>False
 |.error e=>CX outer H s E e s'
structure nt(P:Program)(w:World)(K:PySem.W.Frag)(mg:Str->Option Value)(base:Heap)(CX:Ig)(k:Nat)(f:Addr)(fd:FuncData)(ps:List Str)(sp:Sp):Prop where
 len:∀ vs H Q E,sp vs H Q E->vs.length=ps.length
 run:∀ (A:Around) (outer:List Env) (s:Shared) (H:Hp) (args:Args) (us:List Value) (vs:List V) (Q:VK) (E:XK),fT k A->Ea P w K mg base A outer s H->BindsTo s fd args (ps.zip us)->Vals vs us->sp vs H Q E->
  codeAny (model P w) A (.call (.ref f) args) (CR CX outer P w H s Q E) s
theorem nt.mono{P:Program}{w:World}{K:PySem.W.Frag}{mg:Str->Option Value}{base:Heap}{CX:Ig}{j k:Nat}{f:Addr}{fd:FuncData}{ps:List Str}{sp:Sp}(F:nt P w K mg base CX j f fd ps sp)(h:j<=k) :
 nt P w K mg base CX k f fd ps sp:=⟨F.len,fun A outer s H args us vs Q E hr=>F.run A outer s H args us vs Q E (hr.mono h)⟩
theorem Ea.make{P:Program}{w:World}{K:PySem.W.Frag}{mg:Str->Option Value}{base:Heap}{A:Around}{outer:List Env}{s:Shared}{H:Hp}(e:Ea P w K mg base A outer s H)(C:Addr)(us:List Value)(kw:List (Str × Value)) :
 Ea P w K mg base (A.under (.builtin "type.__call__" ⟨.ref C::us,kw⟩)) outer s H:=⟨by first|exact e.frames|(simpa [Around.under,Code.envs,Code.isFrame,pushEnvs] using e.frames),e.mod,e.bs,e.Ks,e.wc,e.MH,e.hok,e.bare,e.tree⟩
section
variable {X:Cx}{pins:List (Addr × Obj)}{σ:St}{H:Hp}{s s':Shared}
theorem Inv.OV(I:Inv X pins σ H s):Ea X.prog X.w X.K X.mg X.base X.A X.stack s H:=
 ⟨I.ok.frames,I.ok.mod,I.bs,Nat.le_trans I.ok.Ks I.sz,I.stack,I.Fy,I.hok,I.bare,I.ok.tree⟩
theorem Inv.after{Q:VK}{u:Value}(I:Inv X pins σ H s)(h:CE X.stack X.prog X.w H s Q u s'):EP X pins σ Q u s':=by
 obtain ⟨v,H',os,bare,un,hok,r,q⟩:=h;obtain ⟨hh,g,d,t,os'⟩:=s';obtain rfl:os'=s.os:=os;exact ⟨v,H',I.call (h':=hh) (g':=g) (d':=d) (t':=t) (ch:=[]) un hok bare (fun b z=>absurd z (by simp)),r,q⟩
end
noncomputable def IP(sp:Sp)(yZ:List V)(E:XK)(t:TA):TE:=fun σ H Q=>t σ H fun vs H1=>sp (vs++yZ) H1 Q E
noncomputable def Me(C:Addr)(m:Str)(sp:Sp)(yZ:List V)(E:XK)(ta:TE)(t:TA):TE:=fun σ H Q=>ta σ H fun x H1=>∃ a dx fs,x=.ref a/\H1 a=some (.ins C dx fs)/\fs.lookup m=none/\
 t σ H1 fun vs H2=>sp (x::(vs++yZ)) H2 Q E
noncomputable def FJ(C:Addr)(sp:Sp)(yZ:List V)(E:XK)(t:TA):TE:=fun σ H Q=>t σ H fun vs H1=>∀ x dx,H1 x=none->H1 dx=none->dx≠x->
 sp (.ref x::(vs++yZ)) (upd (upd H1 dx (.own x)) x (.ins C dx [])) (fun v H2=>v=.non/\Q (.ref x) H2) E
noncomputable def Binds(K:PySem.W.Frag)(fd:FuncData)(ps:List Str)(ds:List Value):Prop:=
 ∀ (s:Shared) (us:List Value),K.In s.heap->(us++ds).length=ps.length->BindsTo s fd ⟨us,[]⟩ (ps.zip (us++ds))
theorem Binds.all{K:PySem.W.Frag}{fd:FuncData}{ps:List Str}(h:∀ us:List Value,us.length=ps.length->bindArgs fd ⟨us,[]⟩=pure (ps.zip us)):Binds K fd ps []:=fun s us _ hl=>by
 rw [List.append_nil] at hl ⊢;exact .of_eq (h us hl)
noncomputable def Passes(CX:Ig)(X:Cx)(E:XK):Prop:=∀ (pins:List (Addr × Obj)) (σ:St) (H:Hp) (s:Shared) (e:Value) (s':Shared),Inv X pins σ H s->CX X.stack H s E e s'->X.xe e s'
section
variable {X:Cx}{CX:Ig}{k:Nat}{f C:Addr}{fd:FuncData}{ps:List Str}{sp:Sp}{yZ:List V}{ds:List Value}{E:XK}{x m:Str}{p pos apos:Pos}{e o:Expr}{es:List Expr}{ta:TE}{t:TA}
theorem IQ{pins:List (Addr × Obj)}{σ:St}{H:Hp}{s:Shared}{Q:VK}{us:List Value}{vs:List V}(F:nt X.prog X.w X.K X.mg X.base CX k f fd ps sp)(hr:fT k X.A)(hb:Binds X.K fd ps ds)(hd:Vals yZ ds)(hx:Passes CX X E)
 (I:Inv X pins σ H s) (r:Vals vs us) (h:sp (vs++yZ) H Q E):wpAny (model X.prog X.w) X.A (call (.ref f) us) (EP X pins σ Q) X.xe s:=by
 have r2:Vals (vs++yZ) (us++ds):=r.append hd;have hl:(us++ds).length=ps.length:=by rw [<-r2.length];exact F.len _ _ _ _ h
 refine wpAny_call (codeAny_mono (F.run X.A X.stack s H ⟨us,[]⟩ (us++ds) (vs++yZ) Q E hr I.OV (hb s us I.Fx hl) r2 h) fun r s' hq=>?_);cases r with
 |error e=>exact hx pins σ H s e s' I hq
 |
  ok fl=>
  cases fl with
  |ret u=>exact I.after hq
  |next=>exact False.elim hq
  |brk=>exact False.elim hq
  |cont=>exact False.elim hq
theorem KO(F:nt X.prog X.w X.K X.mg X.base CX k f fd ps sp)(hr:fT k X.A)(hg:Gl X x)(hm:X.mg x=some (.ref f))(hk:PySem.W.keepIn X.K (.ref f)=true)(hb:Binds X.K fd ps ds)(hd:Vals yZ ds)(hx:Passes CX X E)
 (ha:PA X (e::es) t) (hdb:(x == ("__debug__":Str))=false:=by decide) (he:starEach (e::es) X.env=(false,eval e X.env)::starEach es X.env:=by rfl) (hpl:(backTo pos (starEach es X.env)).any (·.1)=false:=by rfl) :
 PE X (.Call (.Name x p) (e::es) [] pos) (IP sp yZ E t):=by
 intro pins s σ H Q I h;refine wpAny_Call_Name_kw (wW I hg hm ?_ hdb);refine PySem.W.callWith_K (h₀:=X.base) I.ok.mod.OA hk (fc (ha pos pins s σ H _ I h) fun us s1 ⟨vs,H1,I1,r,q⟩=>⟨I1.Fx,?_⟩) he hpl;exact IQ F hr hb hd hx I1 r q
theorem KP{pl:Sem Bool}(he:PE X o ta)(c:DW X.K C)(hm:Meth X.K C m f)(F:nt X.prog X.w X.K X.mg X.base CX k f fd ps sp)(hr:fT k X.A)(hb:Binds X.K fd ps ds)(hd:Vals yZ ds)(hx:Passes CX X E)(ha:PA X (e::es) t)
 (hst:starEach (e::es) X.env=(false,eval e X.env)::starEach es X.env:=by rfl) (hpl:(backTo pos (starEach es X.env)).any (·.1)=false:=by rfl)
 (ht:eval (.Call (.Attribute o m apos) (e::es) [] pos) X.env=(do
  let ov <-eval o X.env
  standAt apos.atName
  let (f,first) <-holding [ov] (getMethod ov m pl)
  callWith pos f first (backTo pos (starEach (e::es) X.env)) (backToKw pos (keywordEach [] X.env))):=by rfl) :
 PE X (.Call (.Attribute o m apos) (e::es) [] pos) (Me C m sp yZ E ta t):=by
 intro pins s σ H Q I h;refine PySem.W.methodCall_KW (pl:=pl) (fc (he pins s σ H _ I h) fun u s1 ⟨x,H1,I1,rx,a,dx,fs,ex,ea,l,q⟩=>?_) ht;subst ex;obtain rfl:u=Value.ref a:=rx;refine xu I1 ea c hm l ?_;refine PySem.W.callWith_K (first:=[.ref a]) (h₀:=X.base) I.ok.mod.OA hm.kp (fc (ha pos pins s1 σ H1 _ I1 q) fun us s2 ⟨vs,H2,I2,r,q2⟩=>⟨I2.Fx,?_⟩) hst hpl;exact IQ (us:=.ref a::us) (vs:=.ref a::vs) F hr hb hd hx I2 (.cons rfl r) q2
structure Mk(K:PySem.W.Frag)(C f:Addr):Prop where
 makes:PySem.W.makesIn K C=true
 init:PySem.W.findIn K (.ref C) "__init__"=some (some (.ref f))
 fn:PySem.W.isFn K (.ref f)=true
 kp:PySem.W.keepIn K (.ref C)=true
theorem Cq{pins:List (Addr × Obj)}{σ:St}{H:Hp}{s:Shared}{Q:VK}{us:List Value}{vs:List V}(M:Mk X.K C f)(F:nt X.prog X.w X.K X.mg X.base CX k f fd ps sp)(hr:fT (k+1) X.A)(hb:Binds X.K fd ps ds)(hd:Vals yZ ds)
 (hx:Passes CX X E) (I:Inv X pins σ H s) (r:Vals vs us)
 (h:∀ x dx,H x=none->H dx=none->dx≠x->sp (.ref x::(vs++yZ)) (upd (upd H dx (.own x)) x (.ins C dx [])) (fun v H2=>v=.non/\Q (.ref x) H2) E) :
 wpAny (model X.prog X.w) X.A (call (.ref C) us) (EP X pins σ Q) X.xe s:=by
 have hq:=h (s.heap.objs.size+1) s.heap.objs.size (I.hok.fresh (Nat.le_succ _)) (I.hok.fresh (Nat.le_refl _)) (Nat.ne_of_lt (Nat.lt_succ_self _));have I2:=Inv.made (C:=C) I;have r2:Vals (V.ref (s.heap.objs.size+1)::(vs++yZ)) (Value.ref (s.heap.objs.size+1)::(us++ds)):=.cons rfl (r.append hd);have hl:(Value.ref (s.heap.objs.size+1)::us++ds).length=ps.length:=by
  have e:=r2.length;rw [F.len _ _ _ _ hq] at e;exact e.symm
 refine wpAny_call (IK (f:=f) I.Fx M.makes M.init (beq_iff_eq.mp M.fn) (codeAny_mono (F.run _ X.stack _ _ ⟨Value.ref (s.heap.objs.size+1)::us,[]⟩ (Value.ref (s.heap.objs.size+1)::(us++ds)) _ _ E (hr.make C us [])
  (I2.OV.make C us []) (hb _ (Value.ref (s.heap.objs.size+1)::us) I2.Fx hl) r2 hq) fun r s' hq'=>?_))
 cases r with
 |error e=>exact hx pins σ _ _ e s' I2 hq'
 |
  ok fl=>
  cases fl with
  |
   ret u=>
   obtain ⟨v,H',I3,rv,ev,q3⟩:=I2.after hq';subst ev;exact ⟨rv,⟨V.ref (s.heap.objs.size+1),H',I3,rfl,q3⟩⟩
  |next=>exact False.elim hq'
  |brk=>exact False.elim hq'
  |cont=>exact False.elim hq'
theorem KQ(M:Mk X.K C f)(F:nt X.prog X.w X.K X.mg X.base CX k f fd ps sp)(hr:fT (k+1) X.A)(hg:Gl X x)(hm:X.mg x=some (.ref C))(hb:Binds X.K fd ps ds)(hd:Vals yZ ds)(hx:Passes CX X E)
 (ha:PA X (e::es) t) (hdb:(x == ("__debug__":Str))=false:=by decide) (he:starEach (e::es) X.env=(false,eval e X.env)::starEach es X.env:=by rfl) (hpl:(backTo pos (starEach es X.env)).any (·.1)=false:=by rfl) :
 PE X (.Call (.Name x p) (e::es) [] pos) (FJ C sp yZ E t):=by
 intro pins s σ H Q I h;refine wpAny_Call_Name_kw (wW I hg hm ?_ hdb);refine PySem.W.callWith_K (h₀:=X.base) I.ok.mod.OA M.kp (fc (ha pos pins s σ H _ I h) fun us s1 ⟨vs,H1,I1,r,q⟩=>⟨I1.Fx,?_⟩) he hpl;exact Cq M F hr hb hd hx I1 r q
theorem IS(M:Mk X.K C f)(F:nt X.prog X.w X.K X.mg X.base CX k f fd ps sp)(hr:fT (k+1) X.A)(hg:Gl X x)(hm:X.mg x=some (.ref C))(hb:Binds X.K fd ps ds)(hd:Vals yZ ds)(hx:Passes CX X E)
 (hdb:(x == ("__debug__":Str))=false:=by decide):PE X (.Call (.Name x p) [] [] pos) (FJ C sp yZ E KN):=by
 intro pins s σ H Q I h;refine wpAny_Call_Name_kw (wW I hg hm ?_ hdb);exact PySem.W.callWith_K0 I.Fx M.kp (Cq (us:=[]) M F hr hb hd hx I .nil h)
end
structure aK(N P:List Str)(sc:Scope):Prop where
 kind:sc.kind=.function
 co:sc.isCoroutine=false
 gen:sc.isGenerator=false
 nd:N.Nodup
 pre:N.take P.length=P
 par:∀ x∈P,sc.names.lookup x=some .local\/sc.names.lookup x=some .cell
 MW:∀ y∈sc.names,y.2≠.free
theorem zV{kindOf:Str->Option NameKind}{x:Str}:∀ {binds:List (Str × Value)} {m:Str->Option Value},(∀ v,(x,v) ∉ binds)->bindL kindOf binds m x=m x
 |[],_,_=>rfl
 |
  (n,v)::r,m,h=>by
  unfold bindL;rw [zV fun w hw=>h w (List.mem_cons_of_mem _ hw)];split
  . have:x≠n:=by rintro rfl;exact h v List.mem_cons_self
    simp [this]
  . rfl
theorem zW{kindOf:Str->Option NameKind}{x:Str}:∀ {binds:List (Str × Value)} {m:Str->Option Value},(∀ v,(x,v) ∉ binds)->bindC kindOf binds m x=m x
 |[],_,_=>rfl
 |
  (n,v)::r,m,h=>by
  unfold bindC;rw [zW fun w hw=>h w (List.mem_cons_of_mem _ hw)];split
  . rfl
  . have:x≠n:=by rintro rfl;exact h v List.mem_cons_self
    simp [this]
theorem zX{kindOf:Str->Option NameKind}{x:Str}{v:Value}:∀ {P:List Str} {vs:List Value} {i:Nat} {m:Str->Option Value},P.Nodup->P[i]?=some x->vs[i]?=some v->kindOf x=some .local->
 bindL kindOf (P.zip vs) m x=some v
 |[],_,_,_,_,h,_,_=>by simp at h
 |_::_,[],_,_,_,_,h,_=>by simp at h
 |
  p::P,w::vs,0,m,nd,h1,h2,hk=>by
  simp at h1 h2;subst h1;subst h2;show bindL kindOf ((p,w)::P.zip vs) m p=_;unfold bindL;rw [zV fun v hv=>(List.nodup_cons.mp nd).1 (List.of_mem_zip hv).1,if_pos hk];simp
 |
  p::P,w::vs,i+1,m,nd,h1,h2,hk=>by
  show bindL kindOf ((p,w)::P.zip vs) m x=_;unfold bindL;exact zX (i:=i) (List.nodup_cons.mp nd).2 (by simpa using h1) (by simpa using h2) hk
theorem zY{kindOf:Str->Option NameKind}{x:Str}{v:Value}:∀ {P:List Str} {vs:List Value} {i:Nat} {m:Str->Option Value},P.Nodup->P[i]?=some x->vs[i]?=some v->kindOf x≠some .local->
 bindC kindOf (P.zip vs) m x=some v
 |[],_,_,_,_,h,_,_=>by simp at h
 |_::_,[],_,_,_,_,h,_=>by simp at h
 |
  p::P,w::vs,0,m,nd,h1,h2,hk=>by
  simp at h1 h2;subst h1;subst h2;show bindC kindOf ((p,w)::P.zip vs) m p=_;unfold bindC;rw [zW fun v hv=>(List.nodup_cons.mp nd).1 (List.of_mem_zip hv).1,if_neg hk];simp
 |
  p::P,w::vs,i+1,m,nd,h1,h2,hk=>by
  show bindC kindOf ((p,w)::P.zip vs) m x=_;unfold bindC;exact zY (i:=i) (List.nodup_cons.mp nd).2 (by simpa using h1) (by simpa using h2) hk
noncomputable def start(N:List Str)(vs:List V):St:=vs.map some++List.replicate (N.length-vs.length) none
noncomputable def A1(CX:Ig)(P:Program)(w:World)(K:PySem.W.Frag)(mg:Str->Option Value)(base:Heap)(N:List Str)(qual:Str)(scope:Scope)(f:Addr)(cd:Value)(A:Around)(outer:List Env)(s:Shared)(H:Hp)(E:XK):Cx where
 prog:=P
 w:=w
 K:=K
 mg:=mg
 base:=base
 A:=A.deeper (envOfC qual scope s.heap.objs.size f cd)
 N:=N
 zT:=s
 MG:=H
 env:=envOfC qual scope s.heap.objs.size f cd
 outer:=outer
 stack:=envOfC qual scope s.heap.objs.size f cd::outer
 ex:=[]
 calm:=true
 fn:=fun _=>true
 pn:=[]
 xe:=fun e s'=>wpAny (model P w) (A.deeper (envOfC qual scope s.heap.objs.size f cd)) (leaving (envOfC qual scope s.heap.objs.size f cd) e) (fun _ s''=>CX outer H s E e s'') (fun e' s''=>CX outer H s E e' s'') s'
theorem Cr{sc:Scope}{n:Nat}{x:Str}(h:sc.names.lookup x=some .cell):∃ c,(cellsFrom n sc.names []).lookup x=some c:=by
 have q:=PySem.W.cellsFrom_some sc.names n [] (.inl h);exact Option.isSome_iff_exists.mp q
theorem GR{CX:Ig}{P:Program}{w:World}{K:PySem.W.Frag}{mg:Str->Option Value}{base:Heap}{N ps:List Str}{qual:Str}{scope:Scope}{f:Addr}{cd:Value}{A:Around}{outer:List Env}{s s1:Shared}{H:Hp}{E:XK}{us:List Value}{vs:List V}
 (S:aK N ps scope) (hd:A.handled=none) (e0:Ea P w K mg base A outer s H) (hl:vs.length=ps.length) (r:Vals vs us)
 (x:InCallC s s.heap.objs.size (bindL (envOfC qual scope s.heap.objs.size f cd).kindOf (ps.zip us) fun _=>none) (cellsFrom (s.heap.objs.size+1) scope.names []) (bindC (envOfC qual scope s.heap.objs.size f cd).kindOf (ps.zip us) fun _=>none) s1) :
 Inv (A1 CX P w K mg base N qual scope f cd A outer s H E) [] (start N vs) H s1:=by
 have hpl:ps.length<=N.length:=by have:=congrArg List.length S.pre;rw [List.length_take] at this;omega
 obtain ⟨h1,tk,rfl,hk⟩:=x.done;have Od:∀ b:Addr,b ∉ (A1 CX P w K mg base N qual scope f cd A outer s H E).ex:=fun b z=>absurd (show b∈([]:List Addr) from z) (by simp);refine ⟨⟨e0.mod,S.kind,rfl,rfl,Nat.le_refl _,fun y z c h1 h2=>?_,fun y hy=>?_,fun y c _ h=>?_,fun _=>hd,Around.frames_deeper e0.frames,.inr ⟨rfl,rfl⟩,fun b z=>absurd z (Od b),e0.bs,e0.Ks,fun b _ _=>Od b,fun b z=>absurd z (Od b),e0.wc,e0.MH,⟨_,_,rfl,S.gen,S.co,rfl,rfl⟩,e0.tree⟩,
  rfl,e0.bare,Un.kept hk,⟨_,x.toInCall.ns,fun i y v h1 h2 h3=>?_⟩,fun y c h=>⟨_,x.cell y c h⟩,e0.hok.fresh (Nat.le_refl _),fun y c h=>?_,fun p hp=>absurd (show p∈([]:List (Addr × Obj)) from hp) (by simp),e0.hok.kept hk,?_⟩
 . exact name_of_addr x.apart (PySem.mem_of_lookup h1) (PySem.mem_of_lookup h2)
 . have hy:scope.names.lookup y=some .cell\/scope.names.lookup y=some .free:=hy;rcases hy with hy|hy
   . exact Cr hy
   . exact absurd rfl (S.MW _ (PySem.mem_of_lookup hy))
 . exact Nat.le_of_lt (x.above y c (PySem.mem_of_lookup h))
 . have hi:i<vs.length:=by
    unfold start at h2;by_cases hi:i<vs.length
    . exact hi
    . rw [List.getElem?_append_right (by simpa using hi)] at h2;rw [List.getElem?_replicate] at h2;split at h2<;>cases h2
   have ha:vs[i]?=some v:=by
    unfold start at h2;rw [List.getElem?_append_left (by simpa using hi),List.getElem?_map] at h2;cases e:vs[i]? with
    |none=>rw [e] at h2;cases h2
    |some a=>rw [e] at h2;cases h2;rfl
   obtain ⟨u,hu,rv⟩:=r.get ha;have hp:ps[i]?=some y:=by
    rw [<-S.pre,List.getElem?_take_of_lt (by omega)];exact h1
   have TQ:ps.Nodup:=by rw [<-S.pre];exact S.nd.sublist (List.take_sublist _ _)
   refine ⟨u,rv,?_⟩;rcases S.par y (List.mem_of_getElem? hp) with k|k
   . exact .inl ⟨k,zX TQ hp hu k⟩
   . obtain ⟨c,e⟩:=Cr (n:=s.heap.objs.size+1) k;refine .inr ⟨.inl k,c,e,?_⟩;have q:=x.cell y c e;rw [zY TQ hp hu (by show scope.names.lookup y≠_;rw [k];decide)] at q;exact q
 . exact e0.hok.fresh (Nat.le_of_lt (x.above y c (PySem.mem_of_lookup h)))
 . unfold start;show _=N.length;rw [List.length_append,List.length_map,List.length_replicate];omega
theorem OW{CX:Ig}{P:Program}{w:World}{K:PySem.W.Frag}{mg:Str->Option Value}{base:Heap}{k:Nat}{f:Addr}{name qual:Str}{params:Arguments}{body:List Stmt}{scope:Scope}{dV kV doc pm cdv ct oc:Value}{an od:Option Addr}
 {osl:Array (Option Value)} {N ps:List Str} {sp:Sp} (lk:K.lookup f=some ⟨oc,od,.func (PySem.W.fnOf name qual params body scope dV kV doc pm an cdv ct),osl⟩) (hcd:PySem.W.codeIn K cdv qual=true) (S:aK N ps scope)
 (len:∀ vs H Q E,sp vs H Q E->vs.length=ps.length)
 (hbody:∀ (A:Around) (outer:List Env) (s:Shared) (H:Hp) (vs:List V) (Q:VK) (E:XK),fT k (A.deeper (envOfC qual scope s.heap.objs.size f cdv))->sp vs H Q E->
  ∃ t,Cm (A1 CX P w K mg base N qual scope f cdv A outer s H E) body t/\t {nx:=fun _ H'=>Q .non H',rt:=Q} (start N vs) H) :
 nt P w K mg base CX (k+1) f (PySem.W.fnOf name qual params body scope dV kV doc pm an cdv ct) ps sp:=by
 refine ⟨len,fun A outer s H args us vs Q E hr e0 hb r Kv=>?_⟩;have hl:=len _ _ _ _ Kv;have KX:K.In s.heap:=e0.mod.OA.keeps fun b o e=>(e0.bs b o e).1;have lim:s.heap.NoLimit:=e0.mod.nolimit.keeps fun b o e=>(e0.bs b o e).1;have hkind:∀ y∈ps.zip us,scope.names.lookup y.1=some .local\/(scope.names.lookup y.1=some .cell/\((cellsFrom (s.heap.objs.size+1) scope.names []).lookup y.1).isSome=true):=fun ⟨n,v⟩ hy=>by
  rcases S.par n (List.of_mem_zip hy).1 with q|q
  . exact .inl q
  . exact .inr ⟨q,PySem.W.cellsFrom_some _ _ _ (.inl q)⟩
 refine codeAny_call_function hr.depth (KX _ _ lk) rfl S.co S.gen rfl (PySem.W.codeRec_of KX hcd) (hb _ _ _ _ ?_);refine wpAny_newFunctionEnv_cells S.kind hkind fun env he s1 x=>?_;subst he;refine ⟨lim.keeps x.toInCall.keep,codeAny_func ?_⟩;obtain ⟨t,ht,hq⟩:=hbody A outer s H vs Q E (hr.deeper _) Kv;have I:Inv (A1 CX P w K mg base N qual scope f cdv A outer s H E) [] (start N vs) H s1:=GR S hr.hd e0 hl r x;refine wpAny_mono (ht [] s1 (start N vs) H _ I hq) (fun fl s' hs=>?_) fun e s' hs=>hs;have fin:∀ {σ':St} {H':Hp} {v:V} {u:Value},Inv (A1 CX P w K mg base N qual scope f cdv A outer s H E) [] σ' H' s'->RelV v u->Q v H'->CE outer P w H s Q u s':=
  fun {σ' H' v u} J rv q=>⟨v,H',J.os,J.bare,J.base,J.hok,rv,q⟩
 cases fl with
 |
  ret u=>
  obtain ⟨v,σ',H',J,rv,q⟩:=hs;exact fin J rv q
 |
  next=>
  obtain ⟨σ',H',J,q⟩:=hs;exact fin (v:=V.non) (u:=Value.none) J rfl q
 |
  brk=>
  obtain ⟨_,_,_,q⟩:=hs;exact False.elim q
 |
  cont=>
  obtain ⟨_,_,_,q⟩:=hs;exact False.elim q
end L2
namespace L2
open PySem PySem.Spec PyProof.Rows
section
variable {X:Cx}{x:Str}{p pos:Pos}{e:Expr}{es:List Expr}{t:TA}{id T:String}{r:List V->Hp->VK->Prop}
noncomputable def TR(r:List V->Hp->VK->Prop)(t:TA):TE:=fun σ H Q=>t σ H fun vs H1=>r vs H1 Q
theorem bu(hc:mU X (.builtin id) r)(hg:Gl X x)(hm:X.mg x=none)(hv:bootBuiltins x=some (.builtin id))(ha:PA X (e::es) t)(hn:x≠"__name__":=by decide)(hdb:(x == ("__debug__":Str))=false:=by decide)
 (he:starEach (e::es) X.env=(false,eval e X.env)::starEach es X.env:=by rfl) (hpl:(backTo pos (starEach es X.env)).any (·.1)=false:=by rfl):PE X (.Call (.Name x p) (e::es) [] pos) (TR r t):=by
 intro pins s σ H Q I h;refine wpAny_Call_Name_kw (uh I hg hm hv ?_ hn hdb);exact PyProof.Rows.callWith_builtin1 (fc (ha pos pins s σ H _ I h) fun us s1 ⟨vs,H1,I1,r1,q1⟩=>hc pins s1 σ H1 vs us Q I1 r1 q1) he hpl
theorem uq(hc:mU X (.type T) r)(hg:Gl X x)(hm:X.mg x=none)(hv:bootBuiltins x=some (.type T))(ha:PA X (e::es) t)(hn:x≠"__name__":=by decide)(hdb:(x == ("__debug__":Str))=false:=by decide)
 (he:starEach (e::es) X.env=(false,eval e X.env)::starEach es X.env:=by rfl) (hpl:(backTo pos (starEach es X.env)).any (·.1)=false:=by rfl):PE X (.Call (.Name x p) (e::es) [] pos) (TR r t):=by
 intro pins s σ H Q I h;refine wpAny_Call_Name_kw (uh I hg hm hv ?_ hn hdb);exact PyProof.Rows.callWith_type1 (fc (ha pos pins s σ H _ I h) fun us s1 ⟨vs,H1,I1,r1,q1⟩=>hc pins s1 σ H1 vs us Q I1 r1 q1) he hpl
end
end L2
namespace HT
open PySem PyProof.Rows
section
variable {prog:Program}{w:World}{A:Around}{E:Value->Shared->Prop}{s:Shared}
noncomputable def iP(n d:Nat):Option Int->Nat
 |none=>d
 |some v=>if v<0 then (v+(n:Int)).toNat else min v.toNat n
theorem Ct(n d:Nat):iP n d none=d:=rfl
theorem qo(n d k:Nat):iP n d (some (k:Int))=min k n:=by
 show (if (k:Int)<0 then ((k:Int)+(n:Int)).toNat else min (k:Int).toNat n)=min k n;rw [if_neg (by omega),Int.toNat_natCast]
theorem MX(n d:Nat)(hd:d<=n)(o:Option Int):iP n d o<=n:=by
 cases o with
 |none=>exact hd
 |
  some v=>
  show (if v<0 then (v+(n:Int)).toNat else min v.toNat n)<=n;by_cases hv:v<0
  . rw [if_pos hv];omega
  . rw [if_neg hv];exact Nat.min_le_right _ _
theorem FN(v:Int)(n d:Nat):(if v<0 then max (v+(n:Int)) 0 else min v (n:Int))=((iP n d (some v):Nat):Int):=by
 show (if v<0 then max (v+(n:Int)) 0 else min v (n:Int))=(((if v<0 then (v+(n:Int)).toNat else min v.toNat n):Nat):Int)
 by_cases hv:v<0
 . simp only [if_pos hv];omega
 . simp only [if_neg hv];omega
theorem Eb(lo hi:Option Int)(n:Nat):Builtin.Slice.sliceAdjust lo hi 1 (n:Int)=(((iP n 0 lo:Nat):Int),((iP n n hi:Nat):Int)):=by
 have h1:¬ ((1:Int)<0):=by omega
 unfold Builtin.Slice.sliceAdjust;simp only [h1,if_false];refine Prod.ext ?_ ?_
 . cases lo with
   |none=>rfl
   |some v=>exact FN v n 0
 . cases hi with
   |none=>rfl
   |some v=>exact FN v n n
theorem Ec(i j:Nat):Builtin.Slice.slicePlaces (i:Int) (j:Int) 1=j-i:=by
 unfold Builtin.Slice.slicePlaces;have h1:(1:Int) > 0:=by omega
 simp only [h1,if_true,Int.ediv_one];split<;>omega
theorem xw{v:Value}{o:Option Int}{Q:Option Int->Shared->Prop}(p:IsPart v o)(h:Q o s):wpAny (model prog w) A (Builtin.Slice.slicePartIndex v) Q E s:=by
 cases p with
 |none=>exact slicePart_none h
 |int i t=>exact slicePart_int h
theorem ur{sl:Addr}{vl vu:Value}{lo hi:Option Int}{n:Nat}{Q:Int × Int × Nat->Shared->Prop}(hs:s.heap.IsSliceOf sl vl vu .none)(pl:IsPart vl lo)(pu:IsPart vu hi)
 (h:Q (((iP n 0 lo:Nat):Int),1,iP n n hi-iP n 0 lo) s):wpAny (model prog w) A (Builtin.Slice.sliceApplied (.ref sl) (pure (n:Int))) Q E s:=by
 obtain ⟨os,hos,hcs,hds⟩:=id hs;unfold Builtin.Slice.sliceApplied Builtin.Slice.sliceFields;refine wpAny_bind (wpAny_bind (wpAny_field hos hds (x:=vl) rfl (wpAny_bind (wpAny_field hos hds (x:=vu) rfl (wpAny_bind (wpAny_field hos hds (x:=.none) rfl (wpAny_pure ?_)))))));refine wpAny_bind (slicePart_none ?_);show wpAny _ _ (if ((1:Int) == 0)=true then _ else _) _ _ s;rw [if_neg (by decide)];refine wpAny_bind (xw pl (wpAny_bind (xw pu (wpAny_bind (wpAny_pure ?_)))));show wpAny _ _ (match Builtin.Slice.sliceAdjust lo hi 1 (n:Int) with|(lo,hi)=>pure (lo,(1:Int),Builtin.Slice.slicePlaces lo hi 1)) _ _ s;rw [Eb lo hi n];show wpAny _ _ (pure (((iP n 0 lo:Nat):Int),(1:Int),Builtin.Slice.slicePlaces ((iP n 0 lo:Nat):Int) ((iP n n hi:Nat):Int) 1)) _ _ s;rw [Ec];exact wpAny_pure h
theorem IT(xs:Array Value)(i k:Nat):((List.range k).filterMap fun (m:Nat)=>xs[((i:Int)+(m:Int)*1).toNat]?).toArray=((xs.toList.drop i).take k).toArray:=by
 have e:(fun (m:Nat)=>xs[((i:Int)+(m:Int)*1).toNat]?)=fun m=>xs[i+m]?:=by
  funext m;have:((i:Int)+(m:Int)*1).toNat=i+m:=by omega
  rw [this]
 rw [e];have:=pick_run xs i k;rw [List.filterMap_map] at this;have e2:((fun x=>xs[x]?) ∘ fun x=>i+x)=fun m=>xs[i+m]?:=rfl;rw [e2] at this;rw [this]
theorem su{t sl:Addr}{items:Array Value}{vl vu:Value}{lo hi:Option Int}{Q:Value->Shared->Prop}(ht:IsTup s.heap t items)(hs:s.heap.IsSliceOf sl vl vu .none)(pl:IsPart vl lo)(pu:IsPart vu hi)
 (hw:¬ (iP items.size 0 lo=0/\iP items.size items.size hi=items.size))
 (h:Q (.ref s.heap.objs.size) {s with heap:=s.heap.push {cls:=.type "tuple",data:=.seq ((items.toList.drop (iP items.size 0 lo)).take (iP items.size items.size hi-iP items.size 0 lo)).toArray}})
 (hsz:items.size<=sizeLine):wpAny (model prog w) A (getItem (.ref t) (.ref sl)) Q E s:=by
 have FO:sizeOk (.seq ((items.toList.drop (iP items.size 0 lo)).take (iP items.size items.size hi-iP items.size 0 lo)).toArray):=by
  show ((items.toList.drop (iP items.size 0 lo)).take (iP items.size items.size hi-iP items.size 0 lo)).toArray.size<=sizeLine;rw [List.size_toArray,List.length_take,List.length_drop,Array.length_toList];omega
 have hj:iP items.size items.size hi<=items.size:=MX _ _ (Nat.le_refl _) hi;obtain ⟨os,hos,hcs,hds⟩:=id hs;have UP:s.TypeIs (.ref sl) "slice":=⟨os,hos,hcs⟩
 unfold getItem
 try with_reducible refine wpAny_holding ?_
 first|refine wpAny_bind (wpAny_pure ?_)|skip
 refine wpAny_bind (wpAny_sequenceKey ht.typeIs (by decide) ?_);refine wpAny_bind (wpAny_callSpecial?_slot (name:=Str.ofString "__getitem__") ht.typeIs PyProof.Rows.slot_tuple_getitem
  (wpAny_call_entry PyProof.Rows.slot_tuple_getitem ht.typeIs entry_tuple_getitem ?_ (args_tuple_getitem _ _)))
 show wpAny _ _ (Builtin.Tuple.tupleItemsOf (.ref t) >>= _) _ _ s;refine wpAny_bind (tupleItemsOf_ ht ?_);refine wpAny_bind (wpAny_typeOf UP ?_);rw [if_pos (by decide)];refine wpAny_bind (ur hs pl pu ?_);have hno:¬ ((((iP items.size 0 lo:Nat):Int) == 0 && (1:Int) == 1 && (iP items.size items.size hi-iP items.size 0 lo) == items.size)=true):=by
  intro q;rw [Bool.and_eq_true,Bool.and_eq_true] at q;have q1:((iP items.size 0 lo:Nat):Int)=0:=eq_of_beq q.1.1;have q2:iP items.size items.size hi-iP items.size 0 lo=items.size:=eq_of_beq q.2;exact hw ⟨by omega,by omega⟩
 show wpAny _ _ (if (((iP items.size 0 lo:Nat):Int) == 0 && (1:Int) == 1 && (iP items.size items.size hi-iP items.size 0 lo) == items.size)=true then _ else _) _ _ s;rw [if_neg hno,IT]
 first
  |exact wpAny_bind (m:=Builtin.Tuple.tupleExact _) (wpAny_newObj_type (wpAny_pure ⟨_,rfl,wpAny_pure h⟩) FO)
  |exact wpAny_bind (m:=Builtin.Tuple.tupleExact _) (wpAny_newObj_type (wpAny_bind (wpAny_pure (wpAny_pure ⟨_,rfl,wpAny_pure h⟩))) FO)
  |exact wpAny_bind (wpAny_bind (m:=Builtin.Tuple.tupleExact _) (wpAny_newObj_type (wpAny_pure (wpAny_pure ⟨_,rfl,wpAny_pure h⟩)) FO))
  |exact wpAny_bind (wpAny_bind (m:=Builtin.Tuple.tupleExact _) (wpAny_newObj_type (wpAny_pure ⟨_,rfl,wpAny_pure h⟩) FO))
end
end HT
namespace L2
open PySem PySem.Spec PyProof.Rows
noncomputable abbrev TO:=St->Hp->(Option Int->Hp->Prop)->Prop
noncomputable def PO(X:Cx)(e:Option Expr)(t:TO):Prop:=
 ∀ (pins:List (Addr × Obj)) (s:Shared) (σ:St) (H:Hp) (Q:Option Int->Hp->Prop),Inv X pins σ H s->t σ H Q->
  wpAny (model X.prog X.w) X.A (evalPart e X.env) (fun u s'=>∃ o H',Inv X pins σ H' s'/\IsPart u o/\Q o H') X.xe s
noncomputable def KR:TO:=fun _ H Q=>Q none H
noncomputable def OX(t:TE):TO:=fun σ H Q=>t σ H fun x H1=>∃ i,x=.int i/\Q (some i) H1
section
variable {X:Cx}{e:Expr}{te:TE}{lo hi:Option Expr}{tl th:TO}{pos p2:Pos}
theorem A2:PO X none KR:=by
 intro pins s σ H Q I h;rw [evalPart_none];exact wpAny_pure ⟨none,H,I,.none,h⟩
theorem jR(h:PE X e te):PO X (some e) (OX te):=by
 intro pins s σ H Q I hw;rw [evalPart_some];refine fc (h pins s σ H _ I hw) fun u s1 ⟨x,H1,I1,r1,q1⟩=>?_;obtain ⟨i,rfl,q⟩:=q1;obtain ⟨t,rfl⟩:=r1;exact ⟨some i,H1,I1,.int i t,q⟩
noncomputable def KS(X:Cx)(r:V->Option Int->Option Int->Hp->VK->Prop):Prop:=
 ∀ (pins:List (Addr × Obj)) (s:Shared) (σ:St) (H:Hp) (x:V) (v vl vu:Value) (lo hi:Option Int) (sl:Addr) (Q:VK),Inv X pins σ H s->RelV x v->s.heap.IsSliceOf sl vl vu .none->IsPart vl lo->IsPart vu hi->r x lo hi H Q->
  ∃ T id,typeLookup (.type T) "__getitem__"=pure (some (.builtin id))/\s.TypeIs v T/\wpAny (model X.prog X.w) X.A (getItem v (.ref sl)) (EP X pins σ Q) X.xe s
theorem KS.or{r r':V->Option Int->Option Int->Hp->VK->Prop}(h:KS X r)(h':KS X r'):KS X (fun x lo hi H Q=>r x lo hi H Q\/r' x lo hi H Q):=by
 intro pins s σ H x v vl vu lo hi sl Q I rx hs pl pu q;rcases q with q|q
 . exact h pins s σ H x v vl vu lo hi sl Q I rx hs pl pu q
 . exact h' pins s σ H x v vl vu lo hi sl Q I rx hs pl pu q
noncomputable def UQ(r:V->Option Int->Option Int->Hp->VK->Prop)(te:TE)(tl th:TO):TE:=fun σ H Q=>te σ H fun x H1=>tl σ H1 fun l H2=>th σ H2 fun u H3=>r x l u H3 Q
theorem mV{r:V->Option Int->Option Int->Hp->VK->Prop}(hr:KS X r)(he:PE X e te)(hl:PO X lo tl)(hu:PO X hi th):PE X (.Subscript e (.Slice lo hi none p2) pos) (UQ r te tl th):=by
 intro pins s σ H Q I h;refine Subscript_ (fc (he pins s σ H _ I h) fun v s1 ⟨x,H1,I1,r1,q1⟩=>?_);refine wpAny_Slice (fc (hl pins s1 σ H1 _ I1 q1) fun vl s2 ⟨l,H2,I2,pl,q2⟩=>fc (hu pins s2 σ H2 _ I2 q2) fun vu s3 ⟨u,H3,I3,pu,q3⟩=>?_);rw [evalPart_none];refine wpAny_pure ?_;have I4:Inv X pins σ H3 {s3 with heap:=s3.heap.push {cls:=.type "slice",data:=.fields #[vl,vu,.none]}}:=I3.kept (t':=s3.toks) fun b ob q=>Heap.get?_push_of_some _ q;obtain ⟨T,id,hT,ht,hg⟩:=hr pins {s3 with heap:=s3.heap.push {cls:=.type "slice",data:=.fields #[vl,vu,.none]}} σ H3 x v vl vu l u s3.heap.objs.size Q I4 r1 (Heap.IsSliceOf.new ..) pl pu q3;show wpAny (model X.prog X.w) X.A (subscriptTail e (.Slice lo hi none p2) v (.ref s3.heap.objs.size)) (EP X pins σ Q) X.xe {s3 with heap:=s3.heap.push {cls:=.type "slice",data:=.fields #[vl,vu,.none]}};exact tail_any (ops:=[.ref s3.heap.objs.size,v]) ht hT hg (by with_unfolding_all rfl)
noncomputable def qC(xs:List V)(lo hi:Option Int):List V:=(xs.drop (HT.iP xs.length 0 lo)).take (HT.iP xs.length xs.length hi-HT.iP xs.length 0 lo)
theorem vC(xs:List V)(lo hi:Option Int):(qC xs lo hi).length<=xs.length:=by
 unfold qC;rw [List.length_take,List.length_drop];omega
noncomputable def MY(K:PySem.W.Frag):V->Option Int->Option Int->Hp->VK->Prop:=fun x lo hi H Q=>∃ a xs,x=.ref a/\fG K H a xs/\
 ¬ (HT.iP xs.length 0 lo=0/\HT.iP xs.length xs.length hi=xs.length)/\∀ p,H p=none->Q (.ref p) (upd H p (.tup (qC xs lo hi)))
theorem MZ:KS X (MY X.K):=by
 intro pins s σ H x v vl vu lo hi sl Q I rx hs pl pu h;obtain ⟨a,xs,rfl,hx,hw,q⟩:=h;cases rx;obtain ⟨its,r,ht,hz⟩:=I.tuple hx;have hlen:its.toArray.size=xs.length:=by rw [List.size_toArray];exact r.length.symm
 refine ⟨"tuple",_,PyProof.Rows.slot_tuple_getitem.lookup,ht.typeIs,?_⟩;refine HT.su ht hs pl pu (by rw [hlen];exact hw) ?_ (by rw [hlen];exact hz);rw [hlen];refine ⟨.ref s.heap.objs.size,_,I.laid (t':=s.toks) (o:=.tup (qC xs lo hi)) (fun b ob q=>Heap.get?_push_of_some _ q) (Nat.le_refl _) ?_,rfl,q _ (I.hok.fresh (Nat.le_refl _))⟩;exact ⟨Nat.le_trans (vC xs lo hi) hz,_,(r.drop (HT.iP xs.length 0 lo)).take (HT.iP xs.length xs.length hi-HT.iP xs.length 0 lo),IsTup.new _ _⟩
end
end L2
namespace L2
open PySem PySem.Spec PyProof.Rows
noncomputable def KU(n:Nat)(i:Int):Option Nat:=if 0<=i then (if i<n then some i.toNat else none) else if -(n:Int)<=i then some (i+n).toNat else none
noncomputable def Mf{α:Type}(xs:List α)(i:Int):Option α:=(KU xs.length i).bind fun j=>xs[j]?
theorem FP{n:Nat}{i:Int}{j:Nat}(h:KU n i=some j):seqIndex? i n=some j/\j<n/\-(n:Int)<=i/\i<n:=by
 unfold KU at h;by_cases h0:0<=i
 . rw [if_pos h0] at h;by_cases h1:i<n
   . rw [if_pos h1] at h;have e:i.toNat=j:=Option.some.inj h;exact ⟨by rw [seqIndex_of h0 h1,e],by omega,by omega,h1⟩
   . rw [if_neg h1] at h;cases h
 . rw [if_neg h0] at h;by_cases h1:-(n:Int)<=i
   . rw [if_pos h1] at h;have e:(i+n).toNat=j:=Option.some.inj h;exact ⟨by rw [seqIndex_neg (by omega) h1,e],by omega,h1,by omega⟩
   . rw [if_neg h1] at h;cases h
theorem FQ{α:Type}{xs:List α}{i:Int}{v:α}(h:Mf xs i=some v):∃ j,seqIndex? i xs.length=some j/\xs[j]?=some v/\j<xs.length/\-(xs.length:Int)<=i/\i<xs.length:=by
 unfold Mf at h;cases e:KU xs.length i with
 |none=>rw [e] at h;cases h
 |
  some j=>
  rw [e] at h;obtain ⟨h1,h2,h3,h4⟩:=FP e;exact ⟨j,h1,h,h2,h3,h4⟩
theorem KW{α:Type}{xs:List α}{j:Nat}{v:α}(h:xs[j]?=some v):Mf xs (j:Int)=some v:=by
 have hj:j<xs.length:=(List.getElem?_eq_some_iff.mp h).1;have e:KU xs.length (j:Int)=some j:=by
  unfold KU;rw [if_pos (by omega),if_pos (by omega)];simp
 unfold Mf;rw [e];exact h
noncomputable def KY(b:Expr):Prop:=∀ o i,subscripted b false o i=operate [o,i] (getItem o i)
noncomputable def KZ(X:Cx)(r:R2):Prop:=
 ∀ (value slice:Expr) (pins:List (Addr × Obj)) (s:Shared) (σ:St) (H:Hp) (x y:V) (v u:Value) (Q:VK),Inv X pins σ H s->RelV x v->RelV y u->r x y H Q->
  subscripted slice false v u=operate [v,u] (getItem v u)->wpAny (model X.prog X.w) X.A (subscriptTail value slice v u) (EP X pins σ Q) X.xe s
noncomputable def RG(X:Cx)(id:String)(r:V->List V->Hp->VK->Prop):Prop:=
 ∀ (pins:List (Addr × Obj)) (s:Shared) (σ:St) (H:Hp) (x:V) (xs:List V) (v:Value) (us:List Value) (Q:VK),Inv X pins σ H s->RelV x v->Vals xs us->r x xs H Q->
  wpAny (model X.prog X.w) X.A (call (.builtin id) (v::us)) (EP X pins σ Q) X.xe s
section
variable {X:Cx}{a b:Expr}{ta tb:TE}{pos:Pos}
theorem KZ.or{r r':R2}(h:KZ X r)(h':KZ X r'):KZ X (fun x y H Q=>r x y H Q\/r' x y H Q):=by
 intro value slice pins s σ H x y v u Q I rx ry q hs;rcases q with q|q
 . exact h value slice pins s σ H x y v u Q I rx ry q hs
 . exact h' value slice pins s σ H x y v u Q I rx ry q hs
theorem aD{r:R2}(hr:KZ X r)(ha:PE X a ta)(hb:PE X b tb)(hs:KY b):PE X (.Subscript a b pos) (QH r ta tb):=by
 intro pins s σ H Q I h;exact Subscript_ (MS ha hb I h fun v u s2 x y H2 I2 rx ry q=>hr a b pins s2 σ H2 x y v u Q I2 rx ry q (hs _ _))
noncomputable def M0(K:PySem.W.Frag):R2:=fun x y H Q=>∃ p xs i v,x=.ref p/\y=.int i/\aP K H p xs/\Mf xs i=some v/\Q v H
noncomputable def M1(K:PySem.W.Frag):R2:=fun x y H Q=>∃ p xs i v,x=.ref p/\y=.int i/\fG K H p xs/\Mf xs i=some v/\Q v H
theorem K0:KZ X (M0 X.K):=by
 intro value slice pins s σ H x y v u Q I rx ry h hs;obtain ⟨p,xs,i,z,rfl,rfl,hq,he,q⟩:=h;cases rx;obtain ⟨t,rfl⟩:=ry;obtain ⟨its,r,pl,hz⟩:=I.list hq;obtain ⟨j,h1,h2,h3,h4,h5⟩:=FQ he;obtain ⟨w,ew,rw'⟩:=r.get h2;have hl:=r.length;have hn:=AZ;have fin:EP X pins σ Q w s:=⟨z,H,I,rw',q⟩
 by_cases h0:0<=i
 . have hj:i.toNat=j:=by
    rw [seqIndex_of h0 h5] at h1;exact Option.some.inj h1
   exact item_listR pl.isList h0 (by omega) (by rw [hj];simpa using ew) fin hs
 . have hj:(i+(its.toArray.size:Int)).toNat=j:=by
    rw [seqIndex_neg (by omega) h4] at h1;rw [List.size_toArray,<-hl];exact Option.some.inj h1
   exact subscriptTail_builtinR (x:=w) pl.isList.typeIs slot_list_getitem.lookup
    (wpAny_getItem_list_neg (Q:=fun r s'=>r=w/\EP X pins σ Q r s') pl.isList (by omega) (by rw [List.size_toArray]<;>omega) (by omega) (by rw [hj];simpa using ew) ⟨rfl,fin⟩) hs
theorem M3:KZ X (M1 X.K):=by
 intro value slice pins s σ H x y v u Q I rx ry h hs;obtain ⟨p,xs,i,z,rfl,rfl,hq,he,q⟩:=h;cases rx;obtain ⟨t,rfl⟩:=ry;obtain ⟨its,r,pl,hz⟩:=I.tuple hq;obtain ⟨j,h1,h2,h3,h4,h5⟩:=FQ he;obtain ⟨w,ew,rw'⟩:=r.get h2;have hl:=r.length;have hn:=AZ;have fin:EP X pins σ Q w s:=⟨z,H,I,rw',q⟩
 exact subscriptTail_builtinR (x:=w) pl.typeIs slot_tuple_getitem.lookup
  (getItem_tuple (j:=j) (Q:=fun r s'=>r=w/\EP X pins σ Q r s') pl (by omega) (by omega) (by rw [List.size_toArray,<-hl];exact h1) (by simpa using ew) ⟨rfl,fin⟩) hs
theorem Ed(its:List Value)(n j:Nat)(u:Value):Obj.mapSeq (·.setIfInBounds j u) {cls:=.type "list",data:=.seq its.toArray n}={cls:=.type "list",data:=.seq (its.set j u).toArray n}:=by
 simp [Obj.mapSeq]
theorem Inv.lst{pins:List (Addr × Obj)}{σ:St}{H:Hp}{s:Shared}{p:Addr}{xs:List V}(I:Inv X pins σ H s)(h:H p=some (.lst xs)) :
 ∃ (its:List Value) (n:Nat),Vals xs its/\s.heap.get? p=some {cls:=.type "list",data:=.seq its.toArray n}/\xs.length<=sizeLine:=by
 obtain ⟨z,its,n,r,e⟩:=I.hok p _ h;exact ⟨its,n,r,e,z⟩
theorem Inv.M4{pins:List (Addr × Obj)}{σ:St}{H:Hp}{s:Shared}{p:Addr}{xs ys:List V}{its its':List Value}{n n':Nat}{f:Obj->Obj}(I:Inv X pins σ H s)(h:H p=some (.lst xs))
 (ho:s.heap.get? p=some {cls:=.type "list",data:=.seq its.toArray n}) (hf:f {cls:=.type "list",data:=.seq its.toArray n}={cls:=.type "list",data:=.seq its'.toArray n'}) (r:Vals ys its') (hz:ys.length<=sizeLine) (t:Nat) :
 Inv X pins σ (upd H p (.lst ys)) {s with heap:=s.heap.update p f,toks:=t}:=by
 have e:(s.heap.update p f).get? p=some {cls:=.type "list",data:=.seq its'.toArray n'}:=by
  rw [Heap.get?_update_self f ho (by rw [hf]<;>rfl),hf]
 refine I.write (x:=p) (e:=p) (by rw [h];trivial) (.inl rfl) (fun b u hb q=>(Heap.get?_update_other _ _ (Ne.symm hb)).trans q) ⟨_,e⟩ ?_;exact ⟨hz,its',n',r,e⟩
noncomputable def OY:V->V->V->Hp->(Hp->Prop)->Prop:=fun o i v H Q=>∃ p xs k j,o=.ref p/\i=.int k/\H p=some (.lst xs)/\KU xs.length k=some j/\Q (upd H p (.lst (xs.set j v)))
theorem set_list:OL X OY:=by
 intro pins s σ H o i v ov iv u Q I ro ri rv h;obtain ⟨p,xs,k,j,rfl,rfl,hp,hj,q⟩:=h;cases ro;obtain ⟨t,rfl⟩:=ri;obtain ⟨its,n,r,ho,hz⟩:=I.lst hp;obtain ⟨h1,h2,h3,h4⟩:=FP hj;have hl:=r.length;have hn:=AZ;have I':Inv X pins σ (upd H p (.lst (xs.set j v))) {s with heap:=s.heap.update p (Obj.mapSeq (·.setIfInBounds j u))}:=
  I.M4 hp ho (Ed its n j u) (r.set rv j) (by rw [List.length_set];exact hz) s.toks
 by_cases h0:0<=k
 . have hk:k.toNat=j:=by
    rw [seqIndex_of h0 h4] at h1;exact Option.some.inj h1
   exact PySem.W.ki_setAt ho h0 (by omega) (by rw [List.size_toArray,<-hl];exact h4) (by rw [hk];exact ⟨_,I',q⟩)
 . have hk:(k+(its.toArray.size:Int)).toNat=j:=by
    rw [seqIndex_neg (by omega) h3] at h1;rw [List.size_toArray,<-hl];exact Option.some.inj h1
   exact PySem.W.ki_setBack ho (by omega) (by rw [List.size_toArray,<-hl];exact h3) (by omega) (by rw [hk];exact ⟨_,I',q⟩)
theorem A3(lo hi:Option Int)(n:Nat):(sliceBounds lo hi none n).1=((HT.iP n 0 lo:Nat):Int)/\(sliceBounds lo hi none n).2.1=((HT.iP n n hi:Nat):Int)/\(sliceBounds lo hi none n).2.2=1:=by
 refine ⟨?_,?_,rfl⟩
 . cases lo with
   |none=>simp [sliceBounds,HT.iP]
   |
    some i=>
    simp only [sliceBounds,HT.iP,Option.getD_none,show (1:Int) > 0 by decide,if_true];by_cases h:i<0
    . simp only [h,if_true]<;>omega
    . simp only [h,if_false]<;>omega
 . cases hi with
   |none=>simp [sliceBounds,HT.iP]
   |
    some i=>
    simp only [sliceBounds,HT.iP,Option.getD_none,show (1:Int) > 0 by decide,if_true];by_cases h:i<0
    . simp only [h,if_true]<;>omega
    . simp only [h,if_false]<;>omega
theorem y9(its:List Value)(lo hi:Option Int):slicePick its.toArray lo hi none=((its.drop (HT.iP its.length 0 lo)).take (HT.iP its.length its.length hi-HT.iP its.length 0 lo)).toArray:=by
 obtain ⟨h1,h2,h3⟩:=A3 lo hi its.toArray.size;unfold slicePick;rw [h1,h2,h3];simp only [sliceRange_one,pick_run,List.size_toArray]<;>rfl
noncomputable def M5(K:PySem.W.Frag):V->Option Int->Option Int->Hp->VK->Prop:=fun x lo hi H Q=>∃ a xs,x=.ref a/\aP K H a xs/\∀ p,H p=none->Q (.ref p) (upd H p (.lst (qC xs lo hi)))
theorem K1:KS X (M5 X.K):=by
 intro pins s σ H x v vl vu lo hi sl Q I rx hs pl pu h;obtain ⟨a,xs,rfl,hx,q⟩:=h;cases rx;obtain ⟨its,r,ht,hz⟩:=I.list hx;have hlen:=r.length;refine ⟨"list",_,slot_list_getitem.lookup,ht.isList.typeIs,?_⟩;refine wpAny_getItem_list_slice ht.isList hs pl pu .none (by simp) ?_ (by rw [List.size_toArray]<;>omega);rw [y9,<-hlen];refine ⟨.ref s.heap.objs.size,_,I.laid (t':=s.toks) (o:=.lst (qC xs lo hi)) (fun b ob q=>Heap.get?_push_of_some _ q) (Nat.le_refl _) ?_,rfl,q _ (I.hok.fresh (Nat.le_refl _))⟩;exact ⟨Nat.le_trans (vC xs lo hi) hz,_,0,(r.drop (HT.iP xs.length 0 lo)).take (HT.iP xs.length xs.length hi-HT.iP xs.length 0 lo),Heap.get?_push_size _ rfl⟩
theorem aY:mU X (.builtin "len") (fun xs H Q=>∃ p ys,xs=[.ref p]/\(aP X.K H p ys\/fG X.K H p ys)/\Q (.int ys.length) H):=by
 intro pins s σ H xs us Q I r h;obtain ⟨p,ys,rfl,hq,q⟩:=h;obtain ⟨u,rfl,rx⟩:=vals1 r;cases rx;have hn:=AZ;rcases hq with hq|hq
 . obtain ⟨its,r',pl,hz⟩:=I.list hq;have hlen:=r'.length;exact Calls.call_len_list pl.isList (by simp only [List.size_toArray]<;>omega) ⟨.int ys.length,H,I.tok _,⟨s.toks+1,by rw [List.size_toArray,hlen]⟩,q⟩
 . obtain ⟨its,r',pl,hz⟩:=I.tuple hq;have hlen:=r'.length;exact len_tuple pl (by simp only [List.size_toArray]<;>omega) ⟨.int ys.length,H,I.tok _,⟨s.toks+1,by rw [List.size_toArray,hlen]⟩,q⟩
theorem sy:mU X (.type "list") (fun xs H Q=>∃ p ys,xs=[.ref p]/\(aP X.K H p ys\/fG X.K H p ys)/\∀ l,H l=none->Q (.ref l) (upd H l (.lst ys))):=by
 intro pins s σ H xs us Q I r h;obtain ⟨p,ys,rfl,hq,q⟩:=h;obtain ⟨u,rfl,rx⟩:=vals1 r;cases rx;have fin:∀ (its:List Value),Vals ys its->ys.length<=sizeLine->∀ (h':Heap) (c':Nat),(∀ b o',s.heap.get? b=some o'->h'.get? b=some o')->
  h'.get? s.heap.objs.size=some {cls:=.type "list",dict:=none,data:=.seq its.toArray c',slots:=#[]}->EP X pins σ Q (.ref s.heap.objs.size) {s with heap:=h'}:=fun its r' hz h' c' kp e=>
  ⟨.ref s.heap.objs.size,_,I.laid (t':=s.toks) kp (Nat.le_refl _) (show eU X.prog X.w _ h' _ (.lst ys) from ⟨hz,its,c',r',e⟩),rfl,q _ (I.hok.fresh (Nat.le_refl _))⟩
 rcases hq with hq|hq
 . obtain ⟨its,r',pl,hz⟩:=I.list hq;have hlen:=r'.length;obtain ⟨o,ho,hc,n,hd⟩:=pl.isList;exact call_list_seq p (.inl rfl) ho hc hd (fun h' c' kp e=>fin its r' hz h' c' kp e) (by simp only [List.size_toArray]<;>omega)
 . obtain ⟨its,r',pl,hz⟩:=I.tuple hq;have hlen:=r'.length;obtain ⟨o,ho,hc,n,hd⟩:=pl;exact call_list_seq p (.inr rfl) ho hc hd (fun h' c' kp e=>fin its r' hz h' c' kp e) (by simp only [List.size_toArray]<;>omega)
theorem y_:mU X (.type "tuple") (fun xs H Q=>∃ p ys,xs=[.ref p]/\((aP X.K H p ys/\∀ l,H l=none->Q (.ref l) (upd H l (.tup ys)))\/(fG X.K H p ys/\Q (.ref p) H))):=by
 intro pins s σ H xs us Q I r h;obtain ⟨p,ys,rfl,h⟩:=h;obtain ⟨u,rfl,rx⟩:=vals1 r;cases rx;rcases h with ⟨hq,q⟩|⟨hq,q⟩
 . obtain ⟨its,r',pl,hz⟩:=I.list hq;have hlen:=r'.length;refine call_tuple_list pl.isList (fun h' kp=>?_) (by simp only [List.size_toArray]<;>omega);have I1:Inv X pins σ H {s with heap:=h'}:=I.kept (t':=s.toks) kp;have I2:Inv X pins σ (upd H h'.objs.size (.tup ys)) {s with heap:=h'.push {cls:=.type "tuple",data:=.seq its.toArray}}:=
    I1.laid (t':=s.toks) (fun b o e=>Heap.get?_push_of_some _ e) (Nat.le_refl _) (show eU X.prog X.w _ _ _ (.tup ys) from ⟨hz,its,r',IsTup.new _ _⟩)
   exact ⟨.ref h'.objs.size,_,I2,rfl,q _ (I1.hok.fresh (Nat.le_refl _))⟩
 . obtain ⟨its,r',pl,hz⟩:=I.tuple hq;exact call_tuple_same pl ⟨.ref p,H,I,rfl,q⟩
noncomputable def RH(K:PySem.W.Frag)(T:String)(x:V)(H:Hp):Prop:=match x with
 |.str _=>T="str"
 |.int _=>T="int"
 |.ref p=>(T="list"/\∃ xs,aP K H p xs)\/(T="tuple"/\∃ o,K.lookup p=some o/\o.cls=.type "tuple"/\o.dict=none) ∨
  (T="dict"/\((∃ kvs,H p=some (.dK kvs))\/∃ kvs,H p=some (.dT kvs)))\/(T="set"/\∃ S n,H p=some (.set S n))
 |_=>False
theorem IU{pins:List (Addr × Obj)}{σ:St}{H:Hp}{s:Shared}{T:String}{x:V}{v:Value}(I:Inv X pins σ H s)(r:RelV x v)(ty:RH X.K T x H) :
 s.TypeIs v T/\∀ a,v=.ref a->∃ ob,s.heap.get? a=some ob/\ob.dict=none:=by
 cases x with
 |
  str z=>
  obtain ⟨t,rfl⟩:=r;cases (show T="str" from ty);exact ⟨typeIs_str s z t,fun _ e=>nomatch e⟩
 |
  int i=>
  obtain ⟨t,rfl⟩:=r;cases (show T="int" from ty);exact ⟨typeIs_int s i t,fun _ e=>nomatch e⟩
 |
  ref p=>
  cases r;rcases ty with ⟨rfl,xs,hq⟩|⟨rfl,o,hk,hc,hd⟩|⟨rfl,hk⟩|⟨rfl,S,n,hk⟩
  . obtain ⟨its,_,pl,_⟩:=I.list hq;refine ⟨pl.isList.typeIs,fun a e=>?_⟩;cases e;obtain ⟨o,n,e,c,hd,_⟩:=pl;exact ⟨o,e,hd⟩
  . refine ⟨⟨o,I.Fx p o hk,hc⟩,fun a e=>?_⟩;cases e;exact ⟨o,I.Fx _ o hk,hd⟩
  . have z:∃ o,s.heap.get? p=some o/\o.ExactDict:=by
     rcases hk with ⟨kvs,hk⟩|⟨kvs,hk⟩
     . obtain ⟨_,_,_,_,o,_,_,e,ex,_⟩:=I.hok p _ hk;exact ⟨o,e,ex⟩
     . obtain ⟨_,_,_,_,o,_,_,e,ex,_⟩:=I.hok p _ hk;exact ⟨o,e,ex⟩
    obtain ⟨o,e,ex⟩:=z;refine ⟨⟨o,e,ex.1⟩,fun a e2=>?_⟩;cases e2;exact ⟨o,e,ex.2.1⟩
  . obtain ⟨o,_,_,_,e,ex,_⟩:=I.hok p _ hk;refine ⟨⟨o,e,ex.1⟩,fun a e2=>?_⟩;cases e2;exact ⟨o,e,ex.2.1⟩
 |_=>exact False.elim ty
noncomputable def OZ(K:PySem.W.Frag)(T:String)(r:V->List V->Hp->VK->Prop)(to:TE):TE:=fun σ H Q=>to σ H fun x H1=>RH K T x H1/\r x [] H1 Q
noncomputable def UR(K:PySem.W.Frag)(T:String)(r:V->List V->Hp->VK->Prop)(to:TE)(t:TA):TE:=fun σ H Q=>to σ H fun x H1=>RH K T x H1/\t σ H1 fun xs H2=>r x xs H2 Q
variable {o e:Expr}{es:List Expr}{to:TE}{t:TA}{name:Str}{apos cpos:Pos}{T id:String}{r:V->List V->Hp->VK->Prop}
theorem M6(pa:PlainAttrs T)(slot:Slot T name id)(hty:typeOf (.builtin id)=pure (.type "method_descriptor"))(hm:RG X id r)(ho:PE X o to)
 (hbase:attributeBase o name X.env (eval o X.env)=eval o X.env:=by rfl) (hline:(apos.endLine == cpos.line)=true:=by rfl):PE X (.Call (.Attribute o name apos) [] [] cpos) (OZ X.K T r to):=by
 intro pins s σ H Q I h;refine wpAny_Call_method0_late hbase hline (fc (ho pins s σ H _ I h) fun v s1 ⟨x,H1,I1,r1,ty,q1⟩=>?_);obtain ⟨h1,h2⟩:=IU I1 r1 ty;exact ⟨T,id,pa,slot,hty,h1,h2,Calls.callWith_builtin rfl (PySem.evalArgs_none (hm pins s1 σ H1 x [] v [] Q I1 r1 .nil q1))⟩
theorem lB(pa:PlainAttrs T)(slot:Slot T name id)(hty:typeOf (.builtin id)=pure (.type "method_descriptor"))(hm:RG X id r)(ho:PE X o to)(ha:PA X (e::es) t)
 (hbase:attributeBase o name X.env (eval o X.env)=eval o X.env:=by rfl)
 (hfew:((backTo cpos (starEach (e::es) X.env)).all (fun x=>!x.1) && (backToKw cpos (keywordEach [] X.env)).all (fun x=>x.1.isSome)
  && decide ((e::es).length+([]:List Keyword).length+(if ([]:List Keyword).isEmpty then 0 else 1)<30))=true:=by rfl)
 (hline:(apos.endLine == cpos.line)=true:=by rfl) (hs:starEach (e::es) X.env=(false,eval e X.env)::starEach es X.env:=by rfl) (hplain:(backTo cpos (starEach es X.env)).any (·.1)=false:=by rfl) :
 PE X (.Call (.Attribute o name apos) (e::es) [] cpos) (UR X.K T r to t):=by
 intro pins s σ H Q I h;refine wpAny_Call_method_late hbase hfew hline rfl (fc (ho pins s σ H _ I h) fun v s1 ⟨x,H1,I1,r1,ty,q1⟩=>?_);obtain ⟨h1,h2⟩:=IU I1 r1 ty;refine ⟨T,id,pa,slot,hty,h1,h2,?_⟩;have hA:=ha cpos pins s1 σ H1 _ I1 q1;rw [hs] at hA ⊢;refine Calls.callWith_builtin (by show (false || (backTo cpos (starEach es X.env)).any (·.1))=false;rw [hplain]<;>rfl) (Calls.evalArgs_plain ?_);exact fc hA fun us s2 ⟨vs,H2,I2,r2,q2⟩=>hm pins s2 σ H2 x vs v us Q I2 r1 r2 q2
end
end L2
namespace L2
open PySem PySem.Spec PyProof.Rows
noncomputable def TU(X:Cx)(id:String)(r:V->List V->Hp->VK->Prop):Prop:=
 ∀ (pins:List (Addr × Obj)) (s:Shared) (σ:St) (H:Hp) (x:V) (xs:List V) (v:Value) (us:List Value) (Q:VK),Inv X pins σ H s->RelV x v->Vals xs us->r x xs H Q->
  wpAny (model X.prog X.w) X.A (call (.builtin id) (v::us)) (EP X pins σ Q) X.xe s
theorem Vals.one:∀ {x:V} {us:List Value},Vals [x] us->∃ u,us=[u]/\RelV x u
 |_,_,.cons r .nil=>⟨_,rfl,r⟩
theorem Vals.two:∀ {x y:V} {us:List Value},Vals [x,y] us->∃ u v,us=[u,v]/\RelV x u/\RelV y v
 |_,_,_,.cons r (.cons q .nil)=>⟨_,_,rfl,r,q⟩
theorem Vals.zero:∀ {us:List Value},Vals [] us->us=[]
 |_,.nil=>rfl
section
variable {X:Cx}{pins:List (Addr × Obj)}{σ:St}{H:Hp}{s:Shared}{l b:Addr}{xs ys zs:List V}
theorem Inv.O0{its its':List Value}{n:Nat}{f:Array Value->Array Value}{t':Nat}(I:Inv X pins σ H s)(hH:H l=some (.lst xs))
 (e:s.heap.get? l=some {cls:=.type "list",data:=.seq its.toArray n}) (hf:f its.toArray=its'.toArray) (hv:Vals ys its') (hz:ys.length<=sizeLine) :
 Inv X pins σ (upd H l (.lst ys)) {s with heap:=s.heap.update l (Obj.mapSeq f),toks:=t'}:=by
 have q:=PySem.IsL.update e f;rw [hf] at q;refine I.write (x:=l) (e:=l) (by rw [hH];exact trivial) (.inl rfl) (fun b' u hb hu=>(Heap.get?_update_other s.heap (Obj.mapSeq f) (Ne.symm hb)).trans hu) ⟨_,q⟩ ?_;exact ⟨hz,its',_,hv,q⟩
theorem Inv.RI{its:List Value}{t':Nat}(I:Inv X pins σ H s)(hv:Vals ys its)(hz:ys.length<=sizeLine) :
 Inv X pins σ (upd H s.heap.objs.size (.lst ys)) {s with heap:=s.heap.push {cls:=.type "list",data:=.seq its.toArray},toks:=t'}:=
 I.laid (fun _ _ q=>Heap.get?_push_of_some _ q) (Nat.le_refl _) ⟨hz,its,0,hv,Heap.get?_push_size _ rfl⟩
theorem Inv.fresh(I:Inv X pins σ H s):H s.heap.objs.size=none:=I.hok.fresh (Nat.le_refl _)
theorem Inv.IV(I:Inv X pins σ H s)(hH:H l=some (.lst xs)):xs.length<=sizeLine/\∃ (its:List Value) (n:Nat),Vals xs its/\xs.length=its.length/\s.heap.get? l=some {cls:=.type "list",data:=.seq its.toArray n}:=by
 obtain ⟨z,its,n,r,e⟩:=I.hok l _ hH;exact ⟨z,its,n,r,r.length,e⟩
theorem IW{n:Nat}(h:n<=sizeLine):Builtin.List.listTooLong n=false:=by
 unfold Builtin.List.listTooLong;exact decide_eq_false (by omega)
end
section
variable {X:Cx}
noncomputable def K2:V->List V->Hp->VK->Prop:=fun x vs H Q=>∃ l xs y,x=.ref l/\vs=[y]/\H l=some (.lst xs)/\xs.length<sizeLine/\Q .non (upd H l (.lst (xs++[y])))
theorem dX:TU X "list.append" K2:=by
 intro pins s σ H x vs v us Q I rx rv h;obtain ⟨l,xs,y,rfl,rfl,hH,hz,q⟩:=h;cases rx;obtain ⟨u,rfl,ru⟩:=rv.one;obtain ⟨z,its,n,r,hl,e⟩:=I.IV hH;refine call_meets F.slot_list_append ⟨_,e,rfl⟩ F.entry_list_append (F.args_list_append_2 _ _) (PySem.list_append l its.toArray n u (by rw [List.size_toArray];omega)) ⟨e,?_⟩;refine ⟨.non,_,I.O0 (its':=its++[u]) hH e (by simp) (r.append (.cons ru .nil)) ?_,rfl,q⟩;rw [List.length_append,List.length_singleton];omega
noncomputable def K3:V->List V->Hp->VK->Prop:=fun x vs H Q=>∃ l b xs zs,x=.ref l/\vs=[.ref b]/\H l=some (.lst xs)/\H b=some (.lst zs)/\xs.length+zs.length<=sizeLine/\Q .non (upd H l (.lst (xs++zs)))
theorem zZ:TU X "list.extend" K3:=by
 intro pins s σ H x vs v us Q I rx rv h;obtain ⟨l,b,xs,zs,rfl,rfl,hH,hB,hz,q⟩:=h;cases rx;obtain ⟨u,rfl,ru⟩:=rv.one;cases ru;obtain ⟨z,its,n,r,hl,e⟩:=I.IV hH;obtain ⟨z2,its2,n2,r2,hl2,e2⟩:=I.IV hB;have hsz:its.toArray.size+its2.toArray.size<=sizeLine:=by rw [List.size_toArray,List.size_toArray];omega
 have O1:¬ (!its.toArray.isEmpty && Builtin.List.listTooLong (its.toArray.size+its2.toArray.size))=true:=by
  rw [IW hsz,Bool.and_false];exact Bool.false_ne_true
 refine call_meets F.slot_list_extend ⟨_,e,rfl⟩ F.entry_list_extend (F.args_list_extend_2 _ _)
  (AutoSeq1.list_extend_list_list_0 l its.toArray n b its2.toArray n2 O1 (by rw [List.size_toArray];omega) (by omega)) ⟨e,e2,?_⟩
 refine ⟨.non,_,I.O0 (its':=its++its2) hH e (by simp) (r.append r2) ?_,rfl,q⟩;rw [List.length_append];omega
noncomputable def RJ:R2:=fun x y H Q=>∃ l b xs zs,x=.ref l/\y=.ref b/\H l=some (.lst xs)/\H b=some (.lst zs)/\xs.length+zs.length<=sizeLine/\∀ p,H p=none->Q (.ref p) (upd H p (.lst (xs++zs)))
theorem xx:xr X (binaryOp .Add) RJ:=by
 intro pins s σ H x y v u Q I rx ry h;obtain ⟨l,b,xs,zs,rfl,rfl,hH,hB,hz,q⟩:=h;cases rx;cases ry;obtain ⟨z,its,n,r,hl,e⟩:=I.IV hH;obtain ⟨z2,its2,n2,r2,hl2,e2⟩:=I.IV hB;refine PySem.P.add_list e e2 ?_ (by rw [List.size_toArray,List.size_toArray];omega);have ea:its.toArray++its2.toArray=(its++its2).toArray:=by simp
 rw [ea];exact ⟨.ref _,_,I.RI (t':=s.toks) (r.append r2) (by rw [List.length_append];omega),rfl,q _ I.fresh⟩
end
end L2
namespace L2
open PySem PySem.Spec PyProof.Rows
theorem Vals.ints:∀ {ns:List Int} {us:List Value},Vals (ns.map V.int) us->IntsAre us ns
 |
  [],us,h=>by
  rw [List.map_nil] at h;cases h;exact IntsAre.nil
 |
  n::ns,us,h=>by
  rw [List.map_cons] at h;cases h with
  |
   cons r t=>
   obtain ⟨k,rfl⟩:=r;exact IntsAre.cons n k (Vals.ints t)
theorem Vals.strs:∀ {xs:List Str} {us:List Value},Vals (xs.map V.str) us->StrsAre us xs
 |
  [],us,h=>by
  rw [List.map_nil] at h;cases h;exact StrsAre.nil
 |
  x::xs,us,h=>by
  rw [List.map_cons] at h;cases h with
  |
   cons r t=>
   obtain ⟨k,rfl⟩:=r;exact StrsAre.cons x k (Vals.strs t)
theorem Vals.RK:∀ {bs:List Bool} {us:List Value},Vals (bs.map V.bl) us->us=bs.map Value.bool
 |
  [],us,h=>by
  rw [List.map_nil] at h;cases h;rfl
 |
  b::bs,us,h=>by
  rw [List.map_cons] at h;cases h with
  |
   cons r t=>
   cases r;rw [Vals.RK t,List.map_cons]
theorem Vals.Ef{a:Addr}{us:List Value}(r:Vals [V.ref a] us):us=[Value.ref a]:=by
 cases r with
 |
  cons r t=>
  cases t;cases r;rfl
section
variable {prog:Program}{w:World}{A:Around}{E:Value->Shared->Prop}{s:Shared}{l:Addr}{its:List Value}{ns:List Int}{Q:Value->Shared->Prop}
theorem K4(hh:A.handled=none)(hl:s.heap.IsList l its.toArray)(hi:IntsAre its ns)
 (h:∀ h' tk t',(∀ b o,s.heap.get? b=some o->h'.get? b=some o)->Q (.int ns.sum t') {s with heap:=h',toks:=tk}):wpAny (model prog w) A (call (.builtin "sum") [.ref l]) Q E s:=by
 obtain ⟨xs,e⟩:=hi.allInts.items;have hn:numsOf (intItems xs).toList=ns:=by rw [<-e];exact hi.numsOf
 rw [nums_intItems] at hn;rw [e] at hl;refine PySem.sum_intListG hh hl fun h' tk t' hk=>?_;have:=h h' tk t' hk;rw [preSum_eq,List.take_of_length_le (by simp),hn];exact this
theorem K5(hh:A.handled=none)(hl:s.heap.IsList l its.toArray)(hi:IntsAre its ns)(hne:0<ns.length)
 (h:∀ h' tk M t',(∀ b o,s.heap.get? b=some o->h'.get? b=some o)->M∈ns->(∀ a,a∈ns->a<=M)->Q (.int M t') {s with heap:=h',toks:=tk}):wpAny (model prog w) A (call (.builtin "max") [.ref l]) Q E s:=by
 obtain ⟨xs,e⟩:=hi.allInts.items;have hn:numsOf (intItems xs).toList=ns:=by rw [<-e];exact hi.numsOf
 rw [nums_intItems] at hn;subst hn;rw [e] at hl;have hsz:0<xs.size:=by simpa using hne
 refine PySem.max_intList hh hl hsz fun v h' tk hv hk=>?_;obtain ⟨t,rfl⟩:=intItems_at hv;obtain ⟨h1,h2⟩:=argBest_gt (numAt xs) (xs.size-1);refine h h' tk _ t hk ?_ fun a ha=>?_
 . rw [numAt_eq];exact PySem.getD_mem (by rw [List.length_map,Array.length_toList];omega)
 . obtain ⟨j,hj,rfl⟩:=mem_getD ha;rw [List.length_map,Array.length_toList] at hj;rw [<-numAt_eq];exact h2 j (by omega)
theorem K6(hh:A.handled=none)(hl:s.heap.IsList l its.toArray)(hi:IntsAre its ns)(hne:0<ns.length)
 (h:∀ h' tk M t',(∀ b o,s.heap.get? b=some o->h'.get? b=some o)->M∈ns->(∀ a,a∈ns->M<=a)->Q (.int M t') {s with heap:=h',toks:=tk}):wpAny (model prog w) A (call (.builtin "min") [.ref l]) Q E s:=by
 obtain ⟨xs,e⟩:=hi.allInts.items;have hn:numsOf (intItems xs).toList=ns:=by rw [<-e];exact hi.numsOf
 rw [nums_intItems] at hn;subst hn;rw [e] at hl;have hsz:0<xs.size:=by simpa using hne
 refine PySem.min_intList hh hl hsz fun v h' tk hv hk=>?_;obtain ⟨t,rfl⟩:=intItems_at hv;obtain ⟨h1,h2⟩:=argBest_lt (numAt xs) (xs.size-1);refine h h' tk _ t hk ?_ fun a ha=>?_
 . rw [numAt_eq];exact PySem.getD_mem (by rw [List.length_map,Array.length_toList];omega)
 . obtain ⟨j,hj,rfl⟩:=mem_getD ha;rw [List.length_map,Array.length_toList] at hj;rw [<-numAt_eq];exact h2 j (by omega)
end
section
variable {X:Cx}
noncomputable def RM(K:PySem.W.Frag):List V->Hp->VK->Prop:=fun vs H Q=>∃ (a:Addr) (ns:List Int),vs=[V.ref a]/\aP K H a (ns.map V.int)/\Q (.int ns.sum) H
noncomputable def RN(K:PySem.W.Frag):List V->Hp->VK->Prop:=fun vs H Q=>∃ (a:Addr) (ns:List Int),vs=[V.ref a]/\aP K H a (ns.map V.int)/\0<ns.length/\∀ m,m∈ns->(∀ y,y∈ns->y<=m)->Q (.int m) H
noncomputable def RO(K:PySem.W.Frag):List V->Hp->VK->Prop:=fun vs H Q=>∃ (a:Addr) (ns:List Int),vs=[V.ref a]/\aP K H a (ns.map V.int)/\0<ns.length/\∀ m,m∈ns->(∀ y,y∈ns->m<=y)->Q (.int m) H
theorem M7(hc:X.calm=true):mU X (.builtin "sum") (RM X.K):=by
 intro pins s σ H vs us Q I r h;obtain ⟨a,ns,rfl,hs,q⟩:=h;obtain ⟨its,rv,hl,_⟩:=I.list hs;rw [Vals.Ef r];exact K4 (I.ok.hd hc) hl.isList rv.ints fun h' tk t' hk=>⟨.int _,H,I.kept hk,⟨_,rfl⟩,q⟩
theorem M8(hc:X.calm=true):mU X (.builtin "max") (RN X.K):=by
 intro pins s σ H vs us Q I r h;obtain ⟨a,ns,rfl,hs,hne,q⟩:=h;obtain ⟨its,rv,hl,_⟩:=I.list hs;rw [Vals.Ef r];exact K5 (I.ok.hd hc) hl.isList rv.ints hne fun h' tk m t' hk h1 h2=>⟨.int _,H,I.kept hk,⟨_,rfl⟩,q m h1 h2⟩
theorem M9(hc:X.calm=true):mU X (.builtin "min") (RO X.K):=by
 intro pins s σ H vs us Q I r h;obtain ⟨a,ns,rfl,hs,hne,q⟩:=h;obtain ⟨its,rv,hl,_⟩:=I.list hs;rw [Vals.Ef r];exact K6 (I.ok.hd hc) hl.isList rv.ints hne fun h' tk m t' hk h1 h2=>⟨.int _,H,I.kept hk,⟨_,rfl⟩,q m h1 h2⟩
end
theorem Cu{prog:Program}{w:World}{A:Around}{E:Value->Shared->Prop}{s:Shared}{l:Addr}{items:Array Value}{Q:Value->Shared->Prop}(hl:s.heap.IsList l items)
 (h:∀ s₂:Shared,s₂={s with heap:=s.heap.push {cls:=.type "list_iterator",data:=.fields #[.ref l,.int 0 0]}}->
  (s₂.heap.IsListIter s.heap.objs.size l 0/\s₂.heap.IsList l items)->l≠s.heap.objs.size->Q (.ref s.heap.objs.size) s₂):wpAny (model prog w) A (pyIter (.ref l)) Q E s:=by
 have hlt:l<s.heap.objs.size:=by obtain ⟨_,e,_⟩:=hl;exact Heap.lt_size e
 exact wpAny_pyIter_list hl (h _ rfl ⟨⟨_,Heap.get?_push_size _ rfl,rfl,rfl⟩,hl.push _⟩ (Nat.ne_of_lt hlt))
theorem vD{prog:Program}{w:World}{A:Around}{bs:List Bool}{its:List Value}(e:its=bs.map Value.bool) :
 TruthOf prog w A (fun i v=>its.toArray[i]?=some v) (fun i=>bs.getD i false):=fun i v s Q E hv hq=>by
 have hv':its[i]?=some v:=by simpa using hv
 rw [e,List.getElem?_map] at hv';obtain ⟨b,hb,rfl⟩:=Option.map_eq_some_iff.mp hv';have hg:bs.getD i false=b:=by rw [List.getD_eq_getElem?_getD,hb]<;>rfl
 have hq':Q (bs.getD i false) s:=hq;rw [hg] at hq';exact wpAny_truthy_bool hq'
theorem any_range:∀ bs:List Bool,(List.range bs.length).any (fun i=>bs.getD i false)=bs.any id
 |[]=>rfl
 |
  b::bs=>by
  rw [List.length_cons,List.range_succ_eq_map,List.any_cons,List.any_map,List.any_cons,<-any_range bs]
  all_goals rfl
theorem all_range:∀ bs:List Bool,(List.range bs.length).all (fun i=>bs.getD i false)=bs.all id
 |[]=>rfl
 |
  b::bs=>by
  rw [List.length_cons,List.range_succ_eq_map,List.all_cons,List.all_map,List.all_cons,<-all_range bs]
  all_goals rfl
section
variable {X:Cx}
noncomputable def RP(K:PySem.W.Frag):List V->Hp->VK->Prop:=fun vs H Q=>∃ (a:Addr) (bs:List Bool),vs=[V.ref a]/\aP K H a (bs.map V.bl)/\Q (.bl (bs.any id)) H
noncomputable def RQ(K:PySem.W.Frag):List V->Hp->VK->Prop:=fun vs H Q=>∃ (a:Addr) (bs:List Bool),vs=[V.ref a]/\aP K H a (bs.map V.bl)/\Q (.bl (bs.all id)) H
theorem M_(hc:X.calm=true):mU X (.builtin "any") (RP X.K):=by
 intro pins s σ H vs us Q I r h;obtain ⟨a,bs,rfl,hs,q⟩:=h;obtain ⟨its,rv,hl,_⟩:=I.list hs;rw [Vals.Ef r];have hb:=rv.RK;refine call_any_walk (Cu hl.isList fun s₂ e2 st hne=>?_);subst e2;refine ⟨_,_,_,_,_,_,_,rfl,Walks.list (A:=X.A.in1) (I.ok.hd hc) _ a hne its.toArray,st,vD hb,fun h' tk hk=>?_⟩;refine ⟨.bl _,H,I.kept fun b o eo=>hk b o (fun hmem=>?_) (Heap.get?_push_of_some _ eo),?_,q⟩
 . rcases List.mem_cons.mp hmem with e1|hmem
   . exact absurd (e1 ▸ Heap.lt_size eo) (Nat.lt_irrefl _)
   . cases hmem
 . show Value.bool _=Value.bool _;rw [<-any_range,hb,List.size_toArray,List.length_map]
theorem Na(hc:X.calm=true):mU X (.builtin "all") (RQ X.K):=by
 intro pins s σ H vs us Q I r h;obtain ⟨a,bs,rfl,hs,q⟩:=h;obtain ⟨its,rv,hl,_⟩:=I.list hs;rw [Vals.Ef r];have hb:=rv.RK;refine call_all_walk (Cu hl.isList fun s₂ e2 st hne=>?_);subst e2;refine ⟨_,_,_,_,_,_,_,rfl,Walks.list (A:=X.A.in1) (I.ok.hd hc) _ a hne its.toArray,st,vD hb,fun h' tk hk=>?_⟩;refine ⟨.bl _,H,I.kept fun b o eo=>hk b o (fun hmem=>?_) (Heap.get?_push_of_some _ eo),?_,q⟩
 . rcases List.mem_cons.mp hmem with e1|hmem
   . exact absurd (e1 ▸ Heap.lt_size eo) (Nat.lt_irrefl _)
   . cases hmem
 . show Value.bool _=Value.bool _;rw [<-all_range,hb,List.size_toArray,List.length_map]
end
mutual
inductive Dp(K:PySem.W.Frag)(H:Hp):V->PyData->Prop
 |non:Dp K H .non .none
 |bl (b:Bool):Dp K H (.bl b) (.bool b)
 |int (i:Int):Dp K H (.int i) (.int i)
 |str (x:Str):Dp K H (.str x) (.str x)
 |lst {a:Addr} {xs:List V} {ds:List PyData}:aP K H a xs->z_ K H xs ds->Dp K H (.ref a) (.list ds)
 |tup {a:Addr} {xs:List V} {ds:List PyData}:fG K H a xs->z_ K H xs ds->Dp K H (.ref a) (.tuple ds)
inductive z_(K:PySem.W.Frag)(H:Hp):List V->List PyData->Prop
 |nil:z_ K H [] []
 |cons {v:V} {vs:List V} {d:PyData} {ds:List PyData}:Dp K H v d->z_ K H vs ds->z_ K H (v::vs) (d::ds)
end
section
variable {X:Cx}{pins:List (Addr × Obj)}{σ:St}{H:Hp}{s:Shared}
mutual
theorem Dp.reads(I:Inv X pins σ H s):∀ (d:PyData) (v:V) (u:Value),Dp X.K H v d->RelV v u->∃ as,Reads s.heap u d as
 |
  .none,_,_,h,r=>by
  cases h;cases r;exact ⟨_,Reads.none⟩
 |
  .bool b,_,_,h,r=>by
  cases h;cases r;exact ⟨_,Reads.bool b⟩
 |
  .int i,_,_,h,r=>by
  cases h;obtain ⟨t,rfl⟩:=r;exact ⟨_,Reads.int i t⟩
 |
  .str x,_,_,h,r=>by
  cases h;obtain ⟨t,rfl⟩:=r;exact ⟨_,Reads.str x t⟩
 |
  .list ds,_,_,h,r=>by
  cases h with
  |
   lst hs ha=>
   cases r;obtain ⟨its,rv,⟨o,n,ho,hc,_,hd⟩,_⟩:=I.list hs;obtain ⟨as,hr⟩:=Dp.readsAll I ds _ its ha rv;exact ⟨_,Reads.list ho hc hd hr⟩
 |
  .tuple ds,_,_,h,r=>by
  cases h with
  |
   tup hs ha=>
   cases r;obtain ⟨its,rv,⟨o,ho,hc,n,hd⟩,_⟩:=I.tuple hs;obtain ⟨as,hr⟩:=Dp.readsAll I ds _ its ha rv;exact ⟨_,Reads.tuple ho hc hd hr⟩
 |.dict _,_,_,h,_=>by cases h
theorem Dp.readsAll(I:Inv X pins σ H s):∀ (ds:List PyData) (vs:List V) (us:List Value),z_ X.K H vs ds->Vals vs us->∃ as,ReadsAll s.heap us ds as
 |
  [],_,_,h,r=>by
  cases h;cases r;exact ⟨_,ReadsAll.nil⟩
 |
  d::ds,_,_,h,r=>by
  cases h with
  |
   cons h1 h2=>
   cases r with
   |
    cons r1 r2=>
    obtain ⟨as,q1⟩:=Dp.reads I d _ _ h1 r1;obtain ⟨bs,q2⟩:=Dp.readsAll I ds _ _ h2 r2;exact ⟨_,ReadsAll.cons q1 q2⟩
end
end
section
variable {X:Cx}
noncomputable def RS(K:PySem.W.Frag):R2:=fun x y H Q=>∃ d e,Dp K H x d/\Dp K H y e/\SeqAt.shaped d=true/\SeqAt.shaped e=true/\Q (.bl (PyData.eqv d e)) H
theorem Nb(hu:X.A.units+64<cLine):xr X (compareOp .Eq) (RS X.K):=by
 intro pins s σ H x y v u Q I rx ry h;obtain ⟨d,e,hd,he,sd,se,q⟩:=h;obtain ⟨as,r1⟩:=Dp.reads I d x v hd rx;obtain ⟨bs,r2⟩:=Dp.reads I e y u he ry;exact SeqAt.compareEq_shaped r1 r2 sd se hu ⟨.bl _,H,I,rfl,q⟩
end
end L2
namespace L2
open PySem PySem.Spec PyProof.Rows
noncomputable abbrev IX(h:Heap)(c:Addr)(v:Option Value):Prop:=h.IsCell c v
noncomputable def RT(scope sc:Scope):Scope:=
 {scope with names:=scope.names.map fun (n,k)=>if (k == .free && sc.kind == .function && sc.names.lookup n == some .cell) then (n,.cell) else (n,k)}
noncomputable def c7(cells:List (Str × Addr)):List (Str × NameKind)->List (Str × Addr)->List (Str × Addr)
 |[],acc=>acc
 |(n,k)::r,acc=>if k == .free then c7 cells r ((n,(cells.lookup n).getD 0)::acc) else c7 cells r acc
theorem sD(env:Env)(f:Str × NameKind->List (Str × Addr)->Sem (ForInStep (List (Str × Addr))))
 (hf:∀ n k c,f (n,k) c=if k == .free then (do let a <-cellOf env n;pure (.yield ((n,a)::c))) else pure (.yield c)) :
 ∀ (names:List (Str × NameKind)) (acc:List (Str × Addr)),(∀ y∈names,y.2=.free->∃ c,env.cells.lookup y.1=some c)->forIn names acc f=pure (c7 env.cells names acc)
 |[],acc,_=>by rw [List.forIn_nil];rfl
 |
  (n,k)::r,acc,h=>by
  rw [List.forIn_cons,hf];have ih:=fun acc=>sD env f hf r acc fun y hy=>h y (List.mem_cons_of_mem _ hy);unfold c7;by_cases hk:(k == NameKind.free)=true
  . rw [if_pos hk,if_pos hk];obtain ⟨c,hc⟩:=h (n,k) List.mem_cons_self (by simpa using hk);have e:cellOf env n=pure c:=by unfold cellOf;rw [hc]
    rw [e];have e2:(env.cells.lookup n).getD 0=c:=by rw [hc];rfl
    rw [e2];exact ih _
  . rw [if_neg hk,if_neg hk];exact ih _
theorem Eg{scope:Scope}{env:Env}(h:∀ y∈scope.names,y.2=.free->∃ c,env.cells.lookup y.1=some c):closureFor scope env=pure (c7 env.cells scope.names []):=by
 simp only [closureFor];rw [sD env _ (fun n k c=>rfl) scope.names [] h];rfl
theorem mem_lookup{α:Type}:∀ {l:List (Str × α)} {n:Str} {c:α},(n,c)∈l->∃ c',l.lookup n=some c'
 |
  (k,v)::r,n,c,h=>by
  rw [List.lookup_cons];cases hb:n == k with
  |true=>exact ⟨_,rfl⟩
  |
   false=>
   rcases List.mem_cons.mp h with e|h
   . cases e;simp at hb
   . exact mem_lookup h
theorem lC{cells:List (Str × Addr)}:∀ {names:List (Str × NameKind)} {acc:List (Str × Addr)} {n:Str} {c:Addr},(n,c)∈c7 cells names acc->(n,c)∈acc\/((n,.free)∈names/\c=(cells.lookup n).getD 0)
 |[],_,_,_,h=>.inl h
 |
  (m,k)::r,acc,n,c,h=>by
  unfold c7 at h;split at h
  . rename_i hk;have hk:k=.free:=by simpa using hk
    rcases lC h with h|⟨h1,h2⟩
    . rcases List.mem_cons.mp h with e|h
      . cases e;exact .inr ⟨hk ▸ List.mem_cons_self,rfl⟩
      . exact .inl h
    . exact .inr ⟨List.mem_cons_of_mem _ h1,h2⟩
  . rcases lC h with h|⟨h1,h2⟩
    . exact .inl h
    . exact .inr ⟨List.mem_cons_of_mem _ h1,h2⟩
theorem o_{cells:List (Str × Addr)}:∀ {names:List (Str × NameKind)} {acc:List (Str × Addr)} {p:Str × Addr},p∈acc->p∈c7 cells names acc
 |[],_,_,h=>h
 |
  (m,k)::r,acc,p,h=>by
  unfold c7;split
  . exact o_ (List.mem_cons_of_mem _ h)
  . exact o_ h
theorem pq{cells:List (Str × Addr)}:∀ {names:List (Str × NameKind)} {acc:List (Str × Addr)} {n:Str},(n,.free)∈names->(n,(cells.lookup n).getD 0)∈c7 cells names acc
 |
  (m,k)::r,acc,n,h=>by
  unfold c7;rcases List.mem_cons.mp h with e|h
  . cases e;exact o_ List.mem_cons_self
  . split
    . exact pq h
    . exact pq h
theorem mW:∀ {names:List (Str × NameKind)} {h:Heap} {acc:List (Str × Addr)} {x:Str} {c:Addr},(x,c)∈cellsFrom h.objs.size names acc->
 (x,c)∈acc\/((x,.cell)∈names/\h.objs.size<=c/\IX (pushCells h names) c none)
 |[],_,_,_,_,h=>.inl h
 |
  (n,k)::r,h,acc,x,c,hm=>by
  unfold cellsFrom at hm;unfold pushCells;split at hm
  . rename_i hk;rw [if_pos hk];have hk:k=.cell:=by simpa using hk
    rw [<-Heap.size_push h {cls:=.type "cell",data:=.cell none}] at hm;rcases mW hm with hm|⟨h1,h2,h3⟩
    . rcases List.mem_cons.mp hm with e|hm
      . cases e;exact .inr ⟨hk ▸ List.mem_cons_self,Nat.le_refl _,_,pushCells_keeps r _ _ _ (Heap.get?_push_size _ rfl),rfl⟩
      . exact .inl hm
    . rw [Heap.size_push] at h2;exact .inr ⟨List.mem_cons_of_mem _ h1,Nat.le_of_succ_le h2,h3⟩
  . rename_i hk;rw [if_neg hk];rcases mW hm with hm|⟨h1,h2,h3⟩
    . exact .inl hm
    . exact .inr ⟨List.mem_cons_of_mem _ h1,h2,h3⟩
theorem qp:∀ {names:List (Str × NameKind)} {n:Nat} {acc:List (Str × Addr)} {p:Str × Addr},p∈acc->p∈cellsFrom n names acc
 |[],_,_,_,h=>h
 |
  (m,k)::r,n,acc,p,h=>by
  unfold cellsFrom;split
  . exact qp (List.mem_cons_of_mem _ h)
  . exact qp h
theorem uu:∀ {names:List (Str × NameKind)} {n:Nat} {acc:List (Str × Addr)} {x:Str},(x,.cell)∈names->∃ c,(x,c)∈cellsFrom n names acc
 |
  (m,k)::r,n,acc,x,h=>by
  unfold cellsFrom;rcases List.mem_cons.mp h with e|h
  . cases e;exact ⟨n,qp List.mem_cons_self⟩
  . split
    . exact uu h
    . exact uu h
theorem uv:∀ {names:List (Str × NameKind)} {h:Heap} {acc:List (Str × Addr)} {x y:Str} {c:Addr},(∀ p∈acc,p.2<h.objs.size)->(∀ x y c,(x,c)∈acc->(y,c)∈acc->x=y)->
 (x,c)∈cellsFrom h.objs.size names acc->(y,c)∈cellsFrom h.objs.size names acc->x=y
 |[],_,_,_,_,_,_,hi,h1,h2=>hi _ _ _ h1 h2
 |
  (n,k)::r,h,acc,x,y,c,hl,hi,h1,h2=>by
  unfold cellsFrom at h1 h2;split at h1
  . rename_i hk;rw [if_pos hk] at h2;rw [<-Heap.size_push h {cls:=.type "cell",data:=.cell none}] at h1 h2;refine uv (h:=h.push _) (fun p hp=>?_) (fun x y c a b=>?_) h1 h2
    . rw [Heap.size_push];rcases List.mem_cons.mp hp with rfl|hp
      . exact Nat.lt_succ_self _
      . exact Nat.lt_succ_of_lt (hl p hp)
    . rcases List.mem_cons.mp a with e|a<;>rcases List.mem_cons.mp b with e'|b
      . cases e;cases e';rfl
      . cases e;exact absurd (hl _ b) (Nat.lt_irrefl _)
      . cases e';exact absurd (hl _ a) (Nat.lt_irrefl _)
      . exact hi _ _ _ a b
  . rename_i hk;rw [if_neg hk] at h2;exact uv hl hi h1 h2
theorem Cv{M:Model}{A:Around}{E:Value->Shared->Prop}{s:Shared}{scope:Scope}{globals:Addr}{closure:List (Str × Addr)}{qual:Str}{func:Option Addr}{code:Value}{around:Env}{builtins:Addr}{Q:Env->Shared->Prop}
 (h:Q (newEnv scope s.heap.objs.size globals (cellsFrom (s.heap.objs.size+1) scope.names closure) qual func code (some around) builtins)
  {s with heap:=pushCells (s.heap.push {cls:=.type "dict",data:=.dict #[]}) scope.names}) :
 wpAny M A (newFunctionEnv scope globals closure [] qual func code (some around) builtins) Q E s:=by
 simp only [newFunctionEnv,Option.isSome_some,if_true];refine wpAny_bind (wpAny_alloc ?_);refine wpAny_bind (wpAny_layCells _ (fun n k c=>rfl) scope.names closure _ _ ?_);rw [show ({s with heap:=s.heap.push {cls:=.type "dict",data:=.dict #[]}}:Shared).heap.objs.size=s.heap.objs.size+1 from Heap.size_push ..];rw [List.forIn_nil];exact wpAny_bind (wpAny_pure (wpAny_pure h))
theorem pA{sc:Scope}:∀ {names:List (Str × NameKind)} {x:Str} {k:NameKind},
 (names.map fun (n,k)=>if (k == NameKind.free && sc.kind == .function && sc.names.lookup n == some .cell) then (n,NameKind.cell) else (n,k)).lookup x=some k->
 ∃ k',names.lookup x=some k'/\(k=k'\/(k'=.free/\k=.cell))
 |[],_,_,h=>by simp at h
 |
  (n,k₀)::r,x,k,h=>by
  have ih:=@pA sc r x k;have h':List.lookup x ((if (k₀ == NameKind.free && sc.kind == .function && sc.names.lookup n == some .cell)=true then (n,NameKind.cell) else (n,k₀))::(r.map _))=some k:=h;cases hx:x == n with
  |
   true=>
   simp only [List.lookup_cons,hx];by_cases hc:(k₀ == NameKind.free && sc.kind == .function && sc.names.lookup n == some .cell)=true
   . rw [if_pos hc] at h';simp only [List.lookup_cons,hx] at h';cases h';simp only [Bool.and_eq_true,beq_iff_eq] at hc;exact ⟨k₀,rfl,.inr ⟨hc.1.1,rfl⟩⟩
   . rw [if_neg hc] at h';simp only [List.lookup_cons,hx] at h';cases h';exact ⟨_,rfl,.inl rfl⟩
  |
   false=>
   simp only [List.lookup_cons,hx];by_cases hc:(k₀ == NameKind.free && sc.kind == .function && sc.names.lookup n == some .cell)=true
   . rw [if_pos hc] at h';simp only [List.lookup_cons,hx] at h';exact ih h'
   . rw [if_neg hc] at h';simp only [List.lookup_cons,hx] at h';exact ih h'
structure Cw(N:List Str)(sc scope:Scope)(own:List (Str × Nat)):Prop where
 kind:scope.kind=.function
 uniq:∀ y∈scope.names,scope.names.lookup y.1=some y.2
 ix:∀ p∈own,N[p.2]?=some p.1
 free:∀ y∈scope.names,y.2=.free->sc.names.lookup y.1=some .cell\/sc.names.lookup y.1=some .free
 own:∀ y∈scope.names,y.2=.local\/y.2=.cell->y.1∈own.map (·.1)\/y.1 ∉ N
noncomputable def wipe(σ:St):List Nat->St
 |[]=>σ
 |v::vs=>(wipe σ vs).set v none
theorem pB(σ:St):∀ vs:List Nat,(wipe σ vs).length=σ.length
 |[]=>rfl
 |v::vs=>by unfold wipe;rw [List.length_set,pB σ vs]
theorem uw{σ:St}{i:Nat}{x:V}:∀ {vs:List Nat},(wipe σ vs)[i]?=some (some x)->σ[i]?=some (some x)/\i ∉ vs
 |[],h=>⟨h,by simp⟩
 |
  v::vs,h=>by
  unfold wipe at h;by_cases hi:v=i
  . subst hi;by_cases hv:v<(wipe σ vs).length
    . rw [List.getElem?_set_self hv] at h;cases h
    . rw [List.getElem?_eq_none (by simpa using hv)] at h;cases h
  . rw [List.getElem?_set_ne hi] at h;obtain ⟨h1,h2⟩:=uw h;exact ⟨h1,by simp only [List.mem_cons,not_or];exact ⟨fun e=>hi e.symm,h2⟩⟩
noncomputable abbrev Cx.A4(X:Cx)(s:Shared)(H:Hp)(scope:Scope)(cenv:Env)(fp:List Addr):Cx:={X with zT:=s,MG:=H,env:=cenv,outer:=X.stack,ex:=fp,fn:=fun x=>scope.names.lookup x == some .cell,pn:=[],xe:=fun _ _=>False}
section
variable {X:Cx}{pins:List (Addr × Obj)}{σ:St}{H:Hp}{s:Shared}
theorem Cy{scope:Scope}{own:List (Str × Nat)}{fp:List Addr}(I:Inv X pins σ H s)(ok:Cw X.N X.env.scope scope own)(hN:X.N.Nodup)(hfp:∀ b∈fp,wg X pins H b/\b<s.heap.objs.size) :
 Inv (X.A4 s H scope (compEnvC scope (cellsFrom (s.heap.objs.size+1) scope.names (c7 X.env.cells scope.names [])) s.heap.objs.size X.env) fp) [] (wipe σ (own.map (·.2))) H {s with heap:=pushCells (s.heap.push {cls:=.type "dict",data:=.dict #[]}) scope.names}:=by
 have hfree:∀ y∈scope.names,y.2=.free->∃ c,X.env.cells.lookup y.1=some c:=fun y hy e=>by
  rcases ok.free y hy e with k|k
  . exact I.ok.has _ (.inl k)
  . exact I.ok.has _ (.inr k)
 generalize Cz:compEnvC scope (cellsFrom (s.heap.objs.size+1) scope.names (c7 X.env.cells scope.names [])) s.heap.objs.size X.env=cenv;have kp:∀ b o,s.heap.get? b=some o->(pushCells (s.heap.push {cls:=.type "dict",data:=.dict #[]}) scope.names).get? b=some o:=fun b o e=>pushCells_keeps _ _ _ _ (Heap.get?_push_of_some _ e);have hL:cenv.locals=s.heap.objs.size:=by rw [<-Cz];rfl
 have hcl:cenv.cells=cellsFrom (s.heap.objs.size+1) scope.names (c7 X.env.cells scope.names []):=by rw [<-Cz];rfl
 have hsc:cenv.scope=RT scope X.env.scope:=by rw [<-Cz];rfl
 rw [<-Heap.size_push s.heap {cls:=.type "dict",data:=.dict #[]}] at hcl;have cm:∀ {y c},(y,c)∈c7 X.env.cells scope.names []->X.env.cells.lookup y=some c/\c<s.heap.objs.size:=fun {y c} hm=>by
  rcases lC hm with hm|⟨h1,rfl⟩
  . cases hm
  . obtain ⟨c,hc⟩:=hfree _ h1 rfl;rw [hc];obtain ⟨w,z⟩:=I.cell _ _ hc;exact ⟨rfl,z.lt⟩
 have mem:∀ {y c},cenv.cells.lookup y=some c->(X.env.cells.lookup y=some c/\c<s.heap.objs.size)\/(s.heap.objs.size+1<=c/\IX (pushCells (s.heap.push {cls:=.type "dict",data:=.dict #[]}) scope.names) c none):=fun {y c} e=>by
  rw [hcl] at e;rcases mW (PySem.mem_of_lookup e) with hm|⟨_,h2,h3⟩
  . exact .inl (cm hm)
  . rw [Heap.size_push] at h2;exact .inr ⟨h2,h3⟩
 have look:∀ {y},scope.names.lookup y=some .free->∃ c,cenv.cells.lookup y=some c/\X.env.cells.lookup y=some c:=fun {y} hl=>by
  have hy:(y,NameKind.free)∈scope.names:=PySem.mem_of_lookup hl;obtain ⟨c',e'⟩:=mem_lookup (qp (names:=scope.names) (n:=(s.heap.push {cls:=.type "dict",data:=.dict #[]}).objs.size) (pq (cells:=X.env.cells) (acc:=[]) hy));rw [<-hcl] at e';refine ⟨c',e',?_⟩;rw [hcl] at e';rcases mW (PySem.mem_of_lookup e') with hm|⟨h1,_,_⟩
  . exact (cm hm).1
  . have:=ok.uniq _ h1;rw [hl] at this;cases this
 have US:(X.A4 s H scope cenv fp).Ok:=by
  refine ⟨I.ok.mod,by show cenv.scope.kind=_;rw [hsc];exact ok.kind,by show cenv.globals=_;rw [<-Cz];exact I.ok.glob,by show cenv.builtins=_;rw [<-Cz];exact I.ok.blt,by show s.heap.objs.size<=cenv.locals;rw [hL];exact Nat.le_refl _,
   fun y z c e1 e2=>?_,fun y hy=>?_,fun y c z e=>?_,I.ok.hd,I.ok.frames,.inl rfl,fun b hb=>⟨?_,fun y c e z=>?_⟩,I.bs,Nat.le_trans I.ok.Ks I.sz,fun b o e hb=>?_,fun b hb z=>?_,I.stack,I.Fy,I.ok.top,I.ok.tree⟩
  . have e1:cenv.cells.lookup y=some c:=e1;have e2:cenv.cells.lookup z=some c:=e2;rw [hcl] at e1 e2;refine uv (fun p hp=>?_) (fun y z c a b=>I.ok.inj y z c (cm a).1 (cm b).1) (PySem.mem_of_lookup e1) (PySem.mem_of_lookup e2);rw [Heap.size_push];exact Nat.lt_succ_of_lt (cm (y:=p.1) (c:=p.2) hp).2
  . show ∃ c,cenv.cells.lookup y=some c;have key:∀ k,cenv.kindOf y=some k->(k=.cell\/k=.free)->∃ c,cenv.cells.lookup y=some c:=fun k hk hk'=>by
     unfold Env.kindOf at hk;rw [hsc] at hk;obtain ⟨k',e,r⟩:=pA hk;have:k'=.cell\/k'=.free:=by
      rcases r with rfl|⟨rfl,_⟩
      . exact hk'
      . exact .inr rfl
     rcases this with rfl|rfl
     . obtain ⟨c,hm⟩:=uu (n:=(s.heap.push {cls:=.type "dict",data:=.dict #[]}).objs.size) (acc:=c7 X.env.cells scope.names []) (PySem.mem_of_lookup e);obtain ⟨c',e'⟩:=mem_lookup hm;exact ⟨c',by rw [hcl];exact e'⟩
     . obtain ⟨c,h1,_⟩:=look e;exact ⟨c,h1⟩
    rcases hy with hy|hy
    . exact key _ hy (.inl rfl)
    . exact key _ hy (.inr rfl)
  . have z:(scope.names.lookup y == some NameKind.cell)=true:=z;have z:scope.names.lookup y=some .cell:=by simpa using z
    have e:cenv.cells.lookup y=some c:=e;rw [hcl] at e;rcases mW (PySem.mem_of_lookup e) with hm|⟨_,h2,_⟩
    . rcases lC hm with hm|⟨h1,_⟩
      . cases hm
      . have q:=ok.uniq _ h1;rw [z] at q;cases q
    . rw [Heap.size_push] at h2;exact Nat.le_of_succ_le h2
  . show b≠cenv.locals;rw [hL];exact Nat.ne_of_lt (hfp b hb).2
  . have e:cenv.cells.lookup y=some c:=e;rcases mem e with ⟨h1,_⟩|⟨h1,_⟩
    . exact (hfp b hb).1.2.2.2.2.1 y c h1 z
    . have h2:s.heap.objs.size+1<=b:=by rw [<-z];exact h1
      exact absurd (Nat.lt_of_lt_of_le (hfp b hb).2 (Nat.le_of_succ_le h2)) (Nat.lt_irrefl _)
  . rcases (hfp b hb).1.2.2.2.1 with z|z
    . exact I.ok.Iq b o e z
    . exact absurd (Nat.lt_of_lt_of_le (Heap.lt_size e) (Nat.le_trans I.ok.Ks z)) (Nat.lt_irrefl _)
  . rcases List.mem_cons.mp (I.DY b z) with z|z
    . exact (hfp b hb).1.2.1 z
    . exact (hfp b hb).1.2.2.1 z
 refine ⟨US,rfl,I.bare,Un.kept kp,⟨fun _=>none,?_,fun i y av e1 e2 e3=>?_⟩,fun y c e=>?_,?_,fun y c e=>?_,fun p hp=>?_,I.hok.kept kp,by rw [pB];exact I.len⟩
 . show Heap.Ns _ cenv.locals _;rw [hL];exact Heap.Ns.keeps (Heap.Ns.new ..) fun b o e=>pushCells_keeps _ _ _ _ e
 . obtain ⟨e2,hne⟩:=uw e2;have hfr:scope.names.lookup y=some .free/\(cenv.kindOf y=some .cell\/cenv.kindOf y=some .free):=by
    have key:∀ k,cenv.scope.names.lookup y=some k->k=.local\/k=.cell\/k=.free->scope.names.lookup y=some .free/\(cenv.kindOf y=some .cell\/cenv.kindOf y=some .free):=fun k hk hk'=>by
     have hk0:=hk;rw [hsc] at hk;obtain ⟨k',e,r⟩:=pA hk;have no:¬ (k'=.local\/k'=.cell):=fun hh=>by
      rcases ok.own _ (PySem.mem_of_lookup e) hh with e'|e'
      . obtain ⟨p,hp,UT⟩:=List.mem_map.mp e';have e3:=ok.ix p hp;have:p.1=y:=UT;rw [this] at e3;exact hne (List.mem_map.mpr ⟨p,hp,xm hN e3 e1⟩)
      . exact e' (List.mem_of_getElem? e1)
     rcases r with rfl|⟨rfl,rfl⟩
     . rcases hk' with rfl|rfl|rfl
       . exact absurd (.inl rfl) no
       . exact absurd (.inr rfl) no
       . exact ⟨e,.inr hk0⟩
     . exact ⟨e,.inl hk0⟩
    have e3:Ob cenv.scope y:=e3;rcases e3 with e3|e3|e3
    . exact key _ e3 (.inl rfl)
    . exact key _ e3 (.inr (.inl rfl))
    . exact key _ e3 (.inr (.inr rfl))
   obtain ⟨m,hn,hl⟩:=I.loc;have RU:Ob X.env.scope y:=(ok.free _ (PySem.mem_of_lookup hfr.1) rfl).elim (fun k=>.inr (.inl k)) (fun k=>.inr (.inr k));obtain ⟨w,r,q⟩:=hl i y av e1 e2 RU;refine ⟨w,r,.inr ⟨hfr.2,?_⟩⟩;obtain ⟨c,h1,h2⟩:=look hfr.1;rcases q with ⟨k,_⟩|⟨_,c',e',z⟩
   . have k:X.env.scope.names.lookup y=some .local:=k;rcases ok.free _ (PySem.mem_of_lookup hfr.1) rfl with k'|k'<;>rw [show X.env.scope.names.lookup y=_ from k'] at k<;>cases k
   . rw [h2] at e';cases e';exact ⟨c,h1,z.keeps kp⟩
 . have e:cenv.cells.lookup y=some c:=e;rcases mem e with ⟨h1,_⟩|⟨_,z⟩
   . obtain ⟨w,z⟩:=I.cell y c h1;exact ⟨w,z.keeps kp⟩
   . exact ⟨_,z⟩
 . show H cenv.locals=none;rw [hL];exact I.hok.fresh (Nat.le_refl _)
 . have e:cenv.cells.lookup y=some c:=e;rcases mem e with ⟨h1,_⟩|⟨h1,_⟩
   . exact I.mS y c h1
   . exact I.hok.fresh (Nat.le_of_succ_le h1)
 . exact absurd (show p∈([]:List (Addr × Obj))++[] from hp) (by simp)
theorem Nc{E:Value->Shared->Prop}{D:Addr}{xs:List V}{y:V}{v:Value}{Q:Value->Shared->Prop}(I:Inv X pins σ H s)(hD:H D=some (.lst xs))(hz:xs.length<sizeLine)(r:RelV y v)
 (h:∀ s',Inv X pins σ (upd H D (.lst (xs++[y]))) s'->Q .none s'):wpAny (model X.prog X.w) X.A (call (.builtin "list.append") [.ref D,v]) Q E s:=by
 obtain ⟨hz',its,n,ri,e⟩:=I.hok D _ hD;have hl:=ri.length;refine append_at (hsz:=by rw [List.size_toArray];omega) e fun h' sb ho'=>?_;refine h {s with heap:=h'} (I.write (t':=s.toks) (by rw [hD];trivial) (.inl rfl) (fun b u hb q=>(sb.2 b hb).trans q) ⟨_,ho'⟩ ⟨by rw [List.length_append];exact hz,its++[v],n+1,ri.append (.cons r .nil),?_⟩);rw [ho'];simp
noncomputable def QI(X:Cx)(ifs:List Expr)(t:TT):Prop:=
 ∀ (pins:List (Addr × Obj)) (s:Shared) (σ:St) (H:Hp) (Q:Bool->Hp->Prop),Inv X pins σ H s->t σ H Q->
  wpAny (model X.prog X.w) X.A (forIn ifs true fun c r=>if r=true then do let ok <-isTrue c X.env (eval c X.env);pure (ForInStep.yield ok) else pure (ForInStep.yield r)) (TP X pins σ Q) X.xe s
noncomputable def A5:TT:=fun _ H Q=>Q true H
theorem dg:QI X [] A5:=fun _ _ _ H _ I h=>wpAny_tests_nil ⟨H,I,h⟩
end
theorem GS{α:Type}{t:Sem α}{Q Q':α->Shared->Prop}{M:Model}{A:Around}{E:Value->Shared->Prop}{s:Shared}(h:wpAny M A t Q (fun _ _=>False) s)(hQ:∀ a s,Q a s->Q' a s):wpAny M A t Q' E s:=wpAny_mono h hQ fun _ _ z=>False.elim z
theorem A6{prog:Program}{w:World}{A:Around}{R:Result->Shared->Prop}{s:Shared}{elt target iter:Expr}{ifs:List Expr}{scope:Scope}{pos:Pos}{it acc:Value}{env:Env}(I:Nat->Shared->Prop)
 (turn:∀ n s,I n s->wpAny (model prog w) A (pyNext it) (fun r s₁=>match r with
  |none=>R (.ok .next) s₁
  |some v=>wpAny (model prog w) A (letOwnedTupleGo target it v) (fun _ s₁'=>wpAny (model prog w) A (assign target env v) (fun _ s₂=>
   wpAny (model prog w) A (forIn ifs true fun c r=>if r=true then do let ok <-isTrue c env (eval c env);pure (ForInStep.yield ok) else pure (ForInStep.yield r)) (fun ok s₃=>
    if ok=true then wpAny (model prog w) A (eval elt env) (fun x s₄=>
     wpAny (model prog w) A (call (.builtin "list.append") [acc,x]) (fun _ s₅=>∃ m,m<n/\I m s₅) (notedBy (model prog w) A env fun e s'=>R (.error e) s') s₄) (notedBy (model prog w) A env fun e s'=>R (.error e) s') s₃
    else ∃ m,m<n/\I m s₃) (notedBy (model prog w) A env fun e s'=>R (.error e) s') s₂) (notedBy (model prog w) A env fun e s'=>R (.error e) s') s₁') (notedBy (model prog w) A env fun e s'=>R (.error e) s') s₁) (notedBy (model prog w) A env fun e s'=>R (.error e) s') s)
 (n:Nat) (h:I n s) :
 codeAny (model prog w) A (.compLoop (.ListComp elt [⟨target,iter,ifs,0⟩] scope pos) 0 it acc env) R s:=by
 refine codeAny_loop rfl I (fun n s hI=>?_) n h;show wpAny _ A ((compTurn (.ListComp elt [⟨target,iter,ifs,0⟩] scope pos) 0 it acc env).onRaise (fun x=>do noteFrame x env;theTreesLotGoes x)) _ _ s;refine wpAny_noted ?_;rw [compTurn_list];refine wpAny_bind (wpAny_standAt (wpAny_bind (wpAny_mono (turn n s hI) (fun r s₁ h₁=>?_) fun _ _ h'=>h')));cases r with
 |none=>exact wpAny_pure h₁
 |
  some v=>
  refine wpAny_bind (wpAny_mono h₁ (fun _ s₁' h₁'=>?_) fun _ _ h'=>h');refine wpAny_bind (wpAny_mono h₁' (fun _ s₂ h₂=>wpAny_bind (wpAny_mono h₂ (fun ok s₃ h₃=>?_) fun _ _ h'=>h')) fun _ _ h'=>h');cases ok with
  |false=>exact wpAny_pure ⟨rfl,h₃⟩
  |
   true=>
   exact wpAny_bind (wpAny_bind (wpAny_mono h₃ (fun x s₄ h₄=>wpAny_bind (wpAny_mono h₄ (fun _ s₅ h₅=>wpAny_pure (wpAny_pure ⟨rfl,h₅⟩)) fun _ _ h'=>h')) fun _ _ h'=>h'))
section
variable {X:Cx}
noncomputable def O2(wi:TI)(g:TG)(tt:TT)(te:TE)(vs:List Nat):TE:=fun σ H Q=>wi σ H fun J H1=>∀ D,H1 D=none->∃ W:Nat->Nat->Hp->Prop,(∃ m,W 0 m (upd H1 D (.lst [])))/\∀ i m H,W i m H->
 (J.stop i H/\Q (.ref D) H)\/(J.go i H/\∃ Nx:Hp->Prop,(∀ H',Nx H'->∃ m',m'<m/\W (i+1) m' H')/\∀ x H',J.Ku i H x H'->g x (wipe σ vs) H' fun σ2 H2=>wipe σ2 vs=wipe σ vs/\tt σ2 H2 fun b H3=>
  if b=true then te σ2 H3 fun y H4=>∃ acc,H4 D=some (.lst acc)/\acc.length<sizeLine/\Nx (upd H4 D (.lst (acc++[y]))) else Nx H3)
theorem FT{pins:List (Addr × Obj)}{s:Shared}{σ:St}{H:Hp}{Q:VK}{elt tg iter:Expr}{ifs:List Expr}{scope:Scope}{own:List (Str × Nat)}{pos pos':Pos}{wi:TI}{g:TG}{tt:TT}{te:TE}{use:Option (Value->Sem Unit)}{Qf:Value->Shared->Prop}
 (hc:X.calm=true) (hN:X.N.Nodup) (I:Inv X pins σ H s) (hi:PI X tg iter wi) (ok:Cw X.N X.env.scope scope own)
 (hg:∀ (s:Shared) (H:Hp) (C:Addr) (cl:List (Str × Addr)) (fp:List Addr),PG (X.A4 s H scope (compEnvC scope cl C X.env) fp) tg g) (ht:∀ (s:Shared) (H:Hp) (C:Addr) (cl:List (Str × Addr)) (fp:List Addr),QI (X.A4 s H scope (compEnvC scope cl C X.env) fp) ifs tt)
 (he:∀ (s:Shared) (H:Hp) (C:Addr) (cl:List (Str × Addr)) (fp:List Addr),PE (X.A4 s H scope (compEnvC scope cl C X.env) fp) elt te) (hs:∀ x,foldedSetIterable iter X.env x=pure x)
 (h:O2 wi g tt te (own.map (·.2)) σ H Q)
 (hRR:∀ D C s' m H',Inv X pins σ H' s'->Q (.ref D) H'->s'.heap.Ns C m->wg X pins H' C->compPost (model X.prog X.w) X.A X.xe use Qf (.ref D) C (.ok .next) s') :
 wpAny (model X.prog X.w) X.A (comprehension (.ListComp elt [⟨tg,iter,ifs,0⟩] scope pos) scope X.env pos' (newList []) false (eval iter X.env) use) Qf X.xe s:=by
 have hfree:∀ y∈scope.names,y.2=.free->∃ c,X.env.cells.lookup y.1=some c:=fun y hy e=>by
  rcases ok.free y hy e with k|k
  . exact I.ok.has _ (.inl k)
  . exact I.ok.has _ (.inr k)
 refine wpAny_comprehension_free (use:=use) rfl hs (Eg hfree) ok.kind (fun y hy e=>by rw [ok.uniq y hy,e])
  (fc (hi pins s σ H _ I h) fun xv s1 hx=>fc hx fun itv s2 h2=>?_)
 obtain ⟨it,fp,tn,J,H2,e,I2,T,st2,f2,q⟩:=h2;subst e;refine wpAny_newObj_type (Cv ?_) (by show 0<=sizeLine;decide);generalize hD:s2.heap.objs.size=D;have RV:H2 D=none:=I2.hok.fresh (Nat.le_of_eq hD);obtain ⟨W,⟨m0,w0⟩,turn⟩:=q D RV;generalize TV:({s2 with heap:=s2.heap.push {cls:=.type "list",data:=.seq ([]:List Value).toArray}}:Shared)=s3;have I3:Inv X pins σ (upd H2 D (.lst [])) s3:=by
  rw [<-TV];refine I2.laid (t':=s2.toks) (fun b o e=>Heap.get?_push_of_some _ e) (Nat.le_of_eq hD) ⟨Nat.zero_le _,[],0,.nil,?_⟩;rw [<-hD];exact Heap.get?_push_size _ rfl
 have h3:s3.heap=s2.heap.push {cls:=.type "list",data:=.seq ([]:List Value).toArray}:=by rw [<-TV]
 have sz:∀ b∈fp,b<s2.heap.objs.size:=fun b hb=>by
  obtain ⟨o,e,_⟩:=T.obj _ _ st2 b hb;exact Heap.lt_size e
 have f3:∀ b∈fp,wg X pins (upd H2 D (.lst [])) b/\b<s3.heap.objs.size:=fun b hb=>by
  have hlt:=sz b hb;refine ⟨⟨?_,(f2 b hb).2⟩,by rw [h3,Heap.size_push];exact Nat.lt_succ_of_lt hlt⟩;rw [aJ (by rw [<-hD];exact Nat.ne_of_lt hlt)];exact (f2 b hb).1
 have st3:tn 0 s3.heap:=T.keep _ _ _ st2 fun b _ o e=>by rw [h3];exact Heap.get?_push_of_some _ e
 have I4:=Cy I3 ok hN f3;have pg:=hg s3 (upd H2 D (.lst [])) s3.heap.objs.size (cellsFrom (s3.heap.objs.size+1) scope.names (c7 X.env.cells scope.names [])) fp;have pt:=ht s3 (upd H2 D (.lst [])) s3.heap.objs.size (cellsFrom (s3.heap.objs.size+1) scope.names (c7 X.env.cells scope.names [])) fp;have pe:=he s3 (upd H2 D (.lst [])) s3.heap.objs.size (cellsFrom (s3.heap.objs.size+1) scope.names (c7 X.env.cells scope.names [])) fp;show codeAny _ _ (.compStart (.ListComp elt [⟨tg,iter,ifs,0⟩] scope pos) 0 (.ref it) (.ref D) (compEnvC scope (cellsFrom (s3.heap.objs.size+1) scope.names (c7 X.env.cells scope.names [])) s3.heap.objs.size X.env)) (compPost (model X.prog X.w) X.A X.xe use Qf (.ref D) s3.heap.objs.size) {s3 with heap:=pushCells (s3.heap.push {cls:=.type "dict",data:=.dict #[]}) scope.names};have TX:∀ b∈fp,(upd H2 D (.lst [])) b=none:=fun b hb=>(f3 b hb).1.1;generalize hce:compEnvC scope (cellsFrom (s3.heap.objs.size+1) scope.names (c7 X.env.cells scope.names [])) s3.heap.objs.size X.env=ce at I4 pg pt pe ⊢;have cL:ce.locals=s3.heap.objs.size:=by subst hce;rfl
 generalize TY:upd H2 D (.lst [])=H3 at I3 I4 pg pt pe w0 TX f3;generalize UU:({s3 with heap:=pushCells (s3.heap.push {cls:=.type "dict",data:=.dict #[]}) scope.names}:Shared)=s4 at I4 ⊢;have TZ:tn 0 s4.heap:=T.keep _ _ _ st3 fun b _ o e=>by rw [<-UU];exact pushCells_keeps _ _ _ _ (Heap.get?_push_of_some _ e)
 have stat:∀ {σ':St} {H':Hp} {s':Shared},Inv (X.A4 s3 H3 scope ce fp) [] σ' H' s'->(∀ b∈fp,H' b=none)->∀ b∈fp,wg (X.A4 s3 H3 scope ce fp) [] H' b:=fun {σ' H' s'} I' hn b hb=>
  ⟨hn b hb,(I'.ok.QD b hb).1,I'.ok.Ir b hb,.inl hb,fun x c e=>(I'.ok.QD b hb).2 x c e,fun p hp=>absurd (show p∈([]:List (Addr × Obj))++[] from hp) (by simp)⟩
 have loop:codeAny (model X.prog X.w) X.A (.compLoop (.ListComp elt [⟨tg,iter,ifs,0⟩] scope pos) 0 (.ref it) (.ref D) ce) (compPost (model X.prog X.w) X.A X.xe use Qf (.ref D) s3.heap.objs.size) s4:=by
  refine A6 (fun n s'=>∃ i H',Inv (X.A4 s3 H3 scope ce fp) [] (wipe σ (own.map (·.2))) H' s'/\tn i s'.heap/\(∀ b∈fp,H' b=none)/\W i n H') ?_ m0 ⟨0,H3,I4,TZ,TX,w0⟩;rintro n s5 ⟨i,H5,I5,Oc,n5,w5⟩;rcases turn i n H5 w5 with ⟨stop,qq⟩|⟨go,Nx,UW,step⟩
  . have td:=T.done (X.A4 s3 H3 scope ce fp) rfl rfl rfl hc i [] s5 _ H5 (fun _ _=>False) I5 (stat I5 n5) Oc stop;refine GS td fun r s6 ⟨hr,I6⟩=>?_;subst hr;have I7:Inv X pins σ H5 s6:=I3.OD (ch:=fp) I6.os I6.base I6.hok I6.bare fun b hb=>⟨(f3 b hb).1.2.2.2.1,(f3 b hb).1.2.1,(f3 b hb).1.2.2.2.2.1,(f3 b hb).1.2.2.2.2.2⟩
    have nC:H5 s3.heap.objs.size=none:=by
     have z:H5 ce.locals=none:=I6.free;rw [cL] at z;exact z
    obtain ⟨m,hn,_⟩:=I6.loc;have hn:s6.heap.Ns ce.locals m:=hn;rw [cL] at hn;exact hRR D s3.heap.objs.size s6 m H5 I7 qq hn (I3.IC (Nat.le_refl _) nC)
  . have ti:=T.item (X.A4 s3 H3 scope ce fp) rfl rfl rfl hc i [] s5 _ H5 (fun _ _=>False) I5 (stat I5 n5) Oc go;refine GS ti fun r s6 ⟨u,hr,h6⟩=>?_;subst hr;refine GS h6 fun _ s7 ⟨x,H7,I7,r7,y7,RW,n7⟩=>?_;have UX:=I7.pinned (stat I7 n7) (T.obj _ _ RW);refine GS (pg _ s7 _ H7 x u _ UX r7 (step x H7 y7)) fun _ s8 ⟨σ8,H8,I8,T3,q8⟩=>?_;refine GS (pt _ s8 σ8 H8 _ I8 q8) fun b s9 ⟨H9,I9,q9⟩=>?_;have fin:∀ {s':Shared} {H':Hp},Inv (X.A4 s3 H3 scope ce fp) ([]++xq fp s7.heap) σ8 H' s'->Nx H'->∃ m,m<n/\∃ i H',Inv (X.A4 s3 H3 scope ce fp) [] (wipe σ (own.map (·.2))) H' s'/\tn i s'.heap/\(∀ b∈fp,H' b=none)/\W i m H':=fun {s' H'} I' nx=>by
     obtain ⟨m',hm,w'⟩:=UW H' nx;have O3:∀ b∈fp,∀ o,s7.heap.get? b=some o->s'.heap.get? b=some o/\H' b=none:=fun b hb o e=>
      let z:=I'.pin (b,o) (List.mem_append_right _ (List.mem_append_right _ (qS hb e)))
      ⟨z.1,z.2.1⟩
     have hl:(wipe σ (own.map (·.2))).length=σ8.length:=by rw [<-T3,pB]
     refine ⟨m',hm,i+1,H',(I'.sq (pins:=[])).weak hl (fun j v e=>?_),T.keep _ _ _ RW fun b hb o e=>(O3 b hb o e).1,fun b hb=>?_,w'⟩
     . rw [<-T3] at e;exact (uw e).1
     . obtain ⟨o,e,_⟩:=T.obj _ _ RW b hb;exact (O3 b hb o e).2
    cases b with
    |
     false=>
     simp only [Bool.false_eq_true,if_false] at q9 ⊢;exact fin I9 q9
    |
     true=>
     simp only [if_true] at q9 ⊢;refine GS (pe _ s9 σ8 H9 _ I9 q9) fun z A7 ⟨yv,RX,UY,UZ,acc,RY,RZ,nx⟩=>?_;exact Nc (X:=X.A4 s3 H3 scope ce fp) UY RY RZ UZ fun Kw U0=>fin U0 nx
 exact codeAny_compStart_list loop (T.self X.A 0 _ _ _ TZ loop)
theorem mX{elt tg iter:Expr}{ifs:List Expr}{scope:Scope}{own:List (Str × Nat)}{pos:Pos}{wi:TI}{g:TG}{tt:TT}{te:TE}(hc:X.calm=true)(hN:X.N.Nodup)(hi:PI X tg iter wi)(ok:Cw X.N X.env.scope scope own)
 (hg:∀ (s:Shared) (H:Hp) (C:Addr) (cl:List (Str × Addr)) (fp:List Addr),PG (X.A4 s H scope (compEnvC scope cl C X.env) fp) tg g) (ht:∀ (s:Shared) (H:Hp) (C:Addr) (cl:List (Str × Addr)) (fp:List Addr),QI (X.A4 s H scope (compEnvC scope cl C X.env) fp) ifs tt)
 (he:∀ (s:Shared) (H:Hp) (C:Addr) (cl:List (Str × Addr)) (fp:List Addr),PE (X.A4 s H scope (compEnvC scope cl C X.env) fp) elt te) (hs:∀ x,foldedSetIterable iter X.env x=pure x:=by intro _;rfl) :
 PE X (.ListComp elt [⟨tg,iter,ifs,0⟩] scope pos) (O2 wi g tt te (own.map (·.2))):=by
 intro pins s σ H Q I h;rw [eval_ListComp];refine FT hc hN I hi ok hg ht he hs h fun D C s' m H' I' q hn f=>⟨m,hn,fun h'' sb=>?_⟩
 obtain ⟨f0,f1,f2,f3,f4,f5⟩:=f;exact ⟨.ref D,H',I'.turned (t':=s'.toks) (fun b o hb e=>(sb.2 b hb).trans e) f0 f1 f3 f4 f5,rfl,q⟩
theorem j6{i:Nat}{y:Str}{py:Pos}{elt tg iter:Expr}{ifs:List Expr}{scope:Scope}{own:List (Str × Nat)}{pos spos:Pos}{wi:TI}{g:TG}{tt:TT}{te:TE}(hc:X.calm=true)(hN:X.N.Nodup)(hy:X.N[i]?=some y)(hyl:X.env.scope.names.lookup y=some .local)
 (hsw:swapsWith (.ListComp elt [⟨tg,iter,ifs,0⟩] scope pos) (some (.Name y py)) spos.line X.env=pure true) (hi:PI X tg iter wi) (ok:Cw X.N X.env.scope scope own)
 (hg:∀ (s:Shared) (H:Hp) (C:Addr) (cl:List (Str × Addr)) (fp:List Addr),PG (X.A4 s H scope (compEnvC scope cl C X.env) fp) tg g) (ht:∀ (s:Shared) (H:Hp) (C:Addr) (cl:List (Str × Addr)) (fp:List Addr),QI (X.A4 s H scope (compEnvC scope cl C X.env) fp) ifs tt)
 (he:∀ (s:Shared) (H:Hp) (C:Addr) (cl:List (Str × Addr)) (fp:List Addr),PE (X.A4 s H scope (compEnvC scope cl C X.env) fp) elt te) (hs:∀ x,foldedSetIterable iter X.env x=pure x:=by intro _;rfl) :
 PS X (.Assign [.Name y py] (.ListComp elt [⟨tg,iter,ifs,0⟩] scope pos) spos) (KH (O2 wi g tt te (own.map (·.2))) (e9 i)):=by
 intro pins s σ H D I h;rw [exec_Assign_Name_used _ _ _ _ hsw];refine wpAny_bind (wpAny_standAt (wpAny_bind ?_));show wpAny _ X.A (do let _ <-comprehension (.ListComp elt [⟨tg,iter,ifs,0⟩] scope pos) scope X.env (firstIterPos [⟨tg,iter,ifs,0⟩] pos) (newList []) false (eval iter X.env) (some (assign (.Name y py) X.env))) _ _ s;have h:O2 wi g tt te (own.map (·.2)) σ H (fun x H1=>e9 i x σ H1 D.nx):=h;refine wpAny_bind (fc (FT (Qf:=fun _ s'=>SP X pins D .next s') hc hN I hi ok hg ht he hs h fun L C s' m H' I' q hn f=>?_) fun _ s' hq=>wpAny_pure (wpAny_pure hq));show wpAny _ _ (assign (.Name y py) X.env (.ref L)) _ _ _;refine wpAny_assign_Name (zU (v:=V.ref L) I' hN hy (.inl hyl) rfl (fun s2 I2 ⟨a,sb,ha⟩=>?_) (.inr hyl));obtain ⟨f0,f1,f2,f3,f4,f5⟩:=f;have haC:C≠a:=by
  rcases ha with z|z
  . rw [z];exact f1
  . exact fun e=>f4 y a z e.symm
 refine ⟨m,hn.sameBut sb haC,fun h3 U1=>?_⟩;exact ⟨_,H',I2.turned (t':=s2.toks) (fun b o hb e=>(U1.2 b hb).trans e) f0 f1 f3 f4 f5,q⟩
theorem nu{elt:Expr}{gs:List Comprehension}{scope:Scope}{pos py:Pos}{y:Str}{l:Nat}{env:Env}(hk:env.scope.kind=.function)(hy:env.scope.names.lookup y=some .local)(hl:(py.line == pos.line)=true)
 (ha:(scope.names.any fun (n,k)=>n == y && (k == .local || k == .cell))=false):swapsWith (.ListComp elt gs scope pos) (some (.Name y py)) l env=pure true:=by
 have ky:env.kindOf y=some .local:=hy;have hb:env.blockKind=.function:=by unfold Env.blockKind;rw [hk];rfl
 unfold swapsWith;simp only [hb,ky,ha,Expr.pos,hl];rfl
end
noncomputable def O4(N:List Str)(sc scope:Scope)(own:List (Str × Nat)):Bool:=
 (match scope.kind with | .function=>true|_=>false) && (scope.names.all fun y=>decide (scope.names.lookup y.1=some y.2)) && (own.all fun p=>decide (N[p.2]?=some p.1)) &&
  (scope.names.all fun y=>match y.2 with
   |.free=>(match sc.names.lookup y.1 with|some .cell=>true|some .free=>true|_=>false)
   |.local=>decide (y.1∈own.map (·.1)) || decide (y.1 ∉ N)
   |.cell=>decide (y.1∈own.map (·.1)) || decide (y.1 ∉ N)
   |_=>true)
theorem cH{N:List Str}{sc scope:Scope}{own:List (Str × Nat)}(h:O4 N sc scope own=true):Cw N sc scope own:=by
 unfold O4 at h;simp only [Bool.and_eq_true,List.all_eq_true,decide_eq_true_eq] at h;obtain ⟨⟨⟨h1,h2⟩,h3⟩,h4⟩:=h;refine ⟨?_,h2,h3,fun y hy e=>?_,fun y hy e=>?_⟩
 . split at h1
   . assumption
   . cases h1
 . have q:=h4 y hy;simp only [e] at q;split at q<;>first|exact .inl (by assumption)|exact .inr (by assumption)|cases q
 . have q:=h4 y hy;rcases e with e|e<;>(simp only [e,Bool.or_eq_true,decide_eq_true_eq] at q;exact q)
end L2
namespace L2
open PySem PySem.Spec PyProof.Rows
section
variable {κ:Type}[DecidableEq κ]
noncomputable def iV(kvs:List (κ × V))(k:κ):Option V:=(kvs.find? fun kv=>decide (kv.1=k)).map (·.2)
noncomputable def putK(kvs:List (κ × V))(k:κ)(v:V):List (κ × V):=
 if (kvs.any fun kv=>decide (kv.1=k))=true then kvs.map (fun kv=>if kv.1=k then (kv.1,v) else kv) else kvs++[(k,v)]
theorem fU{p:κ × V}{r:List (κ × V)}{k:κ}(e:p.1=k):iV (p::r) k=some p.2:=by simp [iV,List.find?_cons,e]
theorem fV{p:κ × V}{r:List (κ × V)}{k:κ}(e:¬ p.1=k):iV (p::r) k=iV r k:=by simp [iV,List.find?_cons,e]
theorem j7(k:κ):∀ kvs:List (κ × V),(kvs.any fun kv=>decide (kv.1=k))=(iV kvs k).isSome
 |[]=>rfl
 |
  p::r=>by
  rw [List.any_cons];by_cases e:p.1=k
  . simp only [fU e,decide_eq_true e,Bool.true_or,Option.isSome_some]
  . rw [fV e,decide_eq_false e,Bool.false_or];exact j7 k r
theorem CA(k j:κ)(y:V):∀ kvs:List (κ × V),iV (kvs.map fun kv=>if kv.1=k then (kv.1,y) else kv) j=(iV kvs j).map fun x=>if j=k then y else x
 |[]=>rfl
 |
  p::r=>by
  have ih:=CA k j y r;rw [List.map_cons];by_cases h:p.1=k
  . rw [if_pos h];by_cases e:p.1=j
    . rw [fU (p:=(p.1,y)) e,fU e,Option.map_some,if_pos (e.symm.trans h)]
    . rw [fV (p:=(p.1,y)) e,fV e,ih]
  . rw [if_neg h];by_cases e:p.1=j
    . rw [fU (p:=p) e,fU e,Option.map_some,if_neg (fun z=>h (e.trans z))]
    . rw [fV (p:=p) e,fV e,ih]
theorem Aa(k j:κ)(y:V):∀ kvs:List (κ × V),iV kvs k=none->iV (kvs++[(k,y)]) j=if j=k then some y else iV kvs j
 |
  [],_=>by
  by_cases e:k=j
  . rw [if_pos e.symm];exact fU (p:=(k,y)) e
  . rw [if_neg (fun z=>e z.symm)];exact fV (p:=(k,y)) e
 |
  p::r,hn=>by
  rw [List.cons_append];have hk:¬ p.1=k:=fun z=>by rw [fU z] at hn;cases hn
  rw [fV hk] at hn;have ih:=Aa k j y r hn;by_cases e:p.1=j
  . rw [fU e,fU e,if_neg (fun z=>hk (e.trans z))]
  . rw [fV e,fV e,ih]
theorem CB(kvs:List (κ × V))(k j:κ)(y:V):iV (putK kvs k y) j=if j=k then some y else iV kvs j:=by
 unfold putK;by_cases a:(kvs.any fun kv=>decide (kv.1=k))=true
 . rw [if_pos a,CA];rw [j7] at a;by_cases e:j=k
   . obtain ⟨x,hx⟩:=Option.isSome_iff_exists.mp a;rw [if_pos e,e,hx,Option.map_some,if_pos rfl]
   . rw [if_neg e];cases iV kvs j with
     |none=>rfl
     |some x=>rw [Option.map_some,if_neg e]
 . rw [if_neg a];refine Aa k j y kvs ?_;rw [j7] at a;cases q:iV kvs k with
   |none=>rfl
   |some x=>rw [q] at a;exact (a rfl).elim
theorem vE(kvs:List (κ × V))(k:κ)(v:V):(putK kvs k v).length<=kvs.length+1:=by
 unfold putK;split
 . rw [List.length_map];omega
 . rw [List.length_append,List.length_cons,List.length_nil];omega
theorem IY{kvs:List (κ × V)}{k:κ}(v:V)(h:iV kvs k=none):putK kvs k v=kvs++[(k,v)]:=by
 unfold putK;rw [j7,h];exact if_neg (by decide)
theorem qB.ux{o:Option V}{u:Option Value}(r:qB o u):o.isSome=u.isSome:=by
 cases o with
 |
  none=>cases u with
  |none=>rfl
  |some _=>exact (show False from r).elim
 |
  some _=>cases u with
  |none=>exact (show False from r).elim
  |some _=>rfl
theorem KV.val{kvs:List (κ × V)}{vs:List (κ × Value)}(r:KV kvs vs)(k:κ):qB (iV kvs k) (valueAt vs k):=by
 unfold KV at r
 induction r with
 |nil=>exact True.intro
 |
  @cons p q ps qs h t ih=>
  obtain ⟨h1,h2⟩:=h;by_cases e:p.1=k
  . have e':q.1=k:=h1.symm.trans e;have b:valueAt (q::qs) k=some q.2:=by simp [valueAt,List.find?_cons,e']
    rw [fU e,b];exact h2
  . have e':¬ q.1=k:=fun z=>e (h1.trans z);have b:valueAt (q::qs) k=valueAt qs k:=by simp [valueAt,List.find?_cons,e']
    rw [fV e,b];exact ih
theorem KV.any{kvs:List (κ × V)}{vs:List (κ × Value)}(r:KV kvs vs)(k:κ):(kvs.any fun kv=>decide (kv.1=k))=vs.any fun kv=>decide (kv.1=k):=by
 unfold KV at r
 induction r with
 |nil=>rfl
 |cons h t ih=>rw [List.any_cons,List.any_cons,ih,h.1]
theorem KV.repl{kvs:List (κ × V)}{vs:List (κ × Value)}(r:KV kvs vs)(k:κ){y:V}{u:Value}(ry:RelV y u) :
 KV (kvs.map fun kv=>if kv.1=k then (kv.1,y) else kv) (vs.map fun kv=>if kv.1=k then (kv.1,u) else kv):=by
 unfold KV at r ⊢
 induction r with
 |nil=>exact .nil
 |
  @cons p q ps qs h t ih=>
  rw [List.map_cons,List.map_cons];refine .cons ?_ ih;obtain ⟨h1,h2⟩:=h;by_cases e:p.1=k
  . rw [if_pos e,if_pos (h1.symm.trans e)];exact ⟨h1,ry⟩
  . rw [if_neg e,if_neg (fun z=>e (h1.trans z))];exact ⟨h1,h2⟩
theorem KV.put{kvs:List (κ × V)}{vs:List (κ × Value)}(r:KV kvs vs)(k:κ){y:V}{u:Value}(ry:RelV y u):KV (putK kvs k y) (stored vs k u):=by
 unfold putK stored;rw [r.any k];by_cases e:(vs.any fun kv=>decide (kv.1=k))=true
 . rw [if_pos e,if_pos e];exact r.repl k ry
 . rw [if_neg e,if_neg e];exact Paired.snoc r ⟨rfl,ry⟩
theorem KV.length{kvs:List (κ × V)}{vs:List (κ × Value)}(r:KV kvs vs):kvs.length=vs.length:=Paired.length r
end
theorem FU{P:Program}{w:World}{k:Key}{u:Value}(r:RelV (kV k) u):(f9 P w).is k u=true:=by
 cases k with
 |inl i=>obtain ⟨t,e⟩:=(show ∃ t,u=Value.int i t from r);subst e;exact Cj P w i t
 |inr x=>obtain ⟨t,e⟩:=(show ∃ t,u=Value.str x t from r);subst e;exact Ck P w x t
theorem Ac{P:Program}{w:World}:∀ {ks:List Key} {us:List Value},Vals (ks.map kV) us->ItemsAre (f9 P w) ks us
 |[],_,r=>by rw [List.map_nil] at r;cases r;exact .nil
 |
  k::ks,_,r=>by
  rw [List.map_cons] at r;cases r with
  |cons h t=>exact .cons (FU h) (Ac t)
noncomputable abbrev KT(H:Hp):List (List Key × V)->List (List Key × Addr × Value)->Prop:=Paired fun p q=>p.1=q.1/\H q.2.1=some (.tup (p.1.map kV))/\RelV p.2 q.2.2
theorem KT.val{H:Hp}{kvs:List (List Key × V)}{xs:List (List Key × Addr × Value)}(r:KT H kvs xs)(k:List Key):qB (iV kvs k) ((atKey xs k).map (·.2)):=by
 induction r with
 |nil=>exact True.intro
 |
  @cons p q ps qs h t ih=>
  obtain ⟨h1,_,h2⟩:=h;by_cases e:p.1=k
  . have e':q.1=k:=h1.symm.trans e;have b:atKey (q::qs) k=some q.2:=by simp [atKey,List.find?_cons,e']
    rw [fU e,b];exact h2
  . have e':¬ q.1=k:=fun z=>e (h1.trans z);have b:atKey (q::qs) k=atKey qs k:=by simp [atKey,List.find?_cons,e']
    rw [fV e,b];exact ih
theorem KT.repl{H:Hp}{kvs:List (List Key × V)}{xs:List (List Key × Addr × Value)}(r:KT H kvs xs)(k:List Key){y:V}{u:Value}(ry:RelV y u) :
 KT H (kvs.map fun kv=>if kv.1=k then (kv.1,y) else kv) (xs.map (putAt k u)):=by
 induction r with
 |nil=>exact .nil
 |
  @cons p q ps qs h t ih=>
  rw [List.map_cons,List.map_cons];refine .cons ?_ ih;obtain ⟨h1,h2,h3⟩:=h;unfold putAt;by_cases e:p.1=k
  . rw [if_pos e,if_pos (h1.symm.trans e)];exact ⟨h1,h2,ry⟩
  . rw [if_neg e,if_neg (fun z=>e (h1.trans z))];exact ⟨h1,h2,h3⟩
theorem KT.put{H:Hp}{kvs:List (List Key × V)}{xs:List (List Key × Addr × Value)}(r:KT H kvs xs)(k:List Key){b:Addr}{y:V}{u:Value}(hb:H b=some (.tup (k.map kV)))(ry:RelV y u) :
 KT H (putK kvs k y) (storedH xs k b u):=by
 have e:(kvs.any fun kv=>decide (kv.1=k))=(atKey xs k).isSome:=by
  rw [j7,(r.val k).ux,Option.isSome_map]
 unfold putK storedH;rw [e];by_cases q:(atKey xs k).isSome=true
 . rw [if_pos q,if_pos q];exact r.repl k ry
 . rw [if_neg q,if_neg q];exact Paired.snoc r ⟨rfl,hb,ry⟩
theorem KT.keeps{H H':Hp}{kvs:List (List Key × V)}{xs:List (List Key × Addr × Value)}(r:KT H kvs xs)(ht:∀ b ys,H b=some (.tup ys)->H' b=some (.tup ys)):KT H' kvs xs:=
 Paired.ME r fun _ _ z=>⟨z.1,ht _ _ z.2.1,z.2.2⟩
section
variable {P:Program}{w:World}{H:Hp}{h:Heap}{a:Addr}
theorem Mg{u:HO}(ok:oW P w H h)(e:Rd H a u):eU P w H h a u:=e.ok ok
theorem FW{kvs:List (Key × V)}(ok:oW P w H h)(e:Rd H a (.dK kvs)):kvs.length<=sizeLine/\(a == sysModules)=false/\∃ vs,KV kvs vs/\h.DictOf (f9 P w) a vs:=
 show eU P w H h a (.dK kvs) from Mg ok e
theorem O5{kvs:List (Key × V)}(ok:oW P w H h)(e:H a=some (.dK kvs)):kvs.length<=sizeLine/\(a == sysModules)=false/\∃ vs,KV kvs vs/\h.DictOf (f9 P w) a vs:=FW ok (.inl e)
theorem A8{ks:List Key}(ok:oW P w H h)(e:H a=some (.tup (ks.map kV))):(tupleKind (f9 P w)).is h ks a:=by
 obtain ⟨_,its,r,o,h1,h2,n,h3⟩:=(show eU P w H h a (.tup (ks.map kV)) from ok a _ e)
 exact ⟨o,its.toArray,n,h1,h2,h3,by simpa using Ac r⟩
theorem FY{kvs:List (List Key × V)}(ok:oW P w H h)(e:Rd H a (.dT kvs)):kvs.length<=sizeLine/\(a == sysModules)=false/\
 ∃ xs,KT H kvs xs/\h.DictOfH (tupleKind (f9 P w)) a xs:=by
 obtain ⟨z,y,xs,r,o,es,ep,h1,h2,h3,h4,h5⟩:=(show eU P w H h a (.dT kvs) from Mg ok e)
 refine ⟨z,y,xs,r,o,es,ep,h1,h2,h3,h4,fun x hx=>?_,h5⟩;have all:∀ {l:List (List Key × V)} {m:List (List Key × Addr × Value)},KT H l m->∀ x∈m,(tupleKind (f9 P w)).is h x.1 x.2.1:=by
  intro l m q
  induction q with
  |nil=>intro x hx;exact nomatch hx
  |
   @cons p q ps qs hq t ih=>
   intro x hx;rcases List.mem_cons.mp hx with e|hx
   . subst e;exact A8 ok (by rw [<-hq.1];exact hq.2.1)
   . exact ih x hx
 exact all r x hx
theorem O6{kvs:List (List Key × V)}(ok:oW P w H h)(e:H a=some (.dT kvs)):kvs.length<=sizeLine/\(a == sysModules)=false/\
 ∃ xs,KT H kvs xs/\h.DictOfH (tupleKind (f9 P w)) a xs:=FY ok (.inl e)
end
noncomputable def zc(H:Hp)(a:Addr)(y:V)(r:Option V):Prop:=
 (∃ kvs k,Rd H a (.dK kvs)/\y=kV k/\r=iV kvs k)\/∃ kvs k b,Rd H a (.dT kvs)/\y=.ref b/\H b=some (.tup (k.map kV))/\r=iV kvs k
noncomputable def IZ(H:Hp)(a:Addr)(y v:V)(H':Hp):Prop:=
 (∃ kvs k,H a=some (.dK kvs)/\y=kV k/\kvs.length<sizeLine/\H'=upd H a (.dK (putK kvs k v))) ∨
 ∃ kvs k b,H a=some (.dT kvs)/\y=.ref b/\H b=some (.tup (k.map kV))/\kvs.length<sizeLine/\H'=upd H a (.dT (putK kvs k v))
theorem zc.k{H:Hp}{a:Addr}{kvs:List (Key × V)}{k:Key}(e:H a=some (.dK kvs)):zc H a (kV k) (iV kvs k):=.inl ⟨kvs,k,.inl e,rfl,rfl⟩
theorem IZ.k{H:Hp}{a:Addr}{kvs:List (Key × V)}{k:Key}{v:V}(e:H a=some (.dK kvs))(hl:kvs.length<sizeLine):IZ H a (kV k) v (upd H a (.dK (putK kvs k v))):=.inl ⟨kvs,k,e,rfl,hl,rfl⟩
section
variable {X:Cx}{pins:List (Addr × Obj)}{σ:St}{H:Hp}{s:Shared}{a:Addr}{y v:V}{u r:Value}{o:Option V}{A:Around}{E:Value->Shared->Prop}
theorem Inv.big(I:Inv X pins σ H s):sysModules<s.heap.objs.size:=by
 have h:mainGlobals<s.heap.objs.size:=(I.mod.glob.keeps I.bk).lt;exact Nat.lt_trans (by decide) h
theorem GU{Q:Value->Shared->Prop}(hu:A.units+1<cLine)(I:Inv X pins σ H s)(g:zc H a y (some v))(ry:RelV y u)(h:∀ w' s',Inv X pins σ H s'->RelV v w'->Q w' s') :
 wpAny (model X.prog X.w) A (getItem (.ref a) u) Q E s:=by
 rcases g with ⟨kvs,k,e,ey,l⟩|⟨kvs,k,b,e,ey,eb,l⟩
 . subst ey;obtain ⟨z,hd,vs,rel,dd⟩:=FW I.hok e;obtain ⟨w',hw,rw'⟩:=qB.some_of (v:=v) (o:=valueAt vs k) (by rw [l];exact rel.val k);exact wpAny_getItem_of (FU ry) dd.mapOf hw (h w' _ (I.tok _) rw')
 . subst ey;cases (show u=Value.ref b from ry);obtain ⟨z,hd,xs,rel,dd⟩:=FY I.hok e;obtain ⟨w',hw,rw'⟩:=qB.some_of (v:=v) (o:=(atKey xs k).map (·.2)) (by rw [l];exact rel.val k);obtain ⟨p,hp,hp2⟩:=Option.map_eq_some_iff.mp hw;refine wpAny_getItem_heap (tupleKind_room_in1 hu) (A8 I.hok eb) dd hp ?_;rw [hp2];exact h w' _ (I.tok _) rw'
theorem K7{Q:Value->Shared->Prop}(hu:A.units+1<cLine)(I:Inv X pins σ H s)(g:zc H a y o)(ry:RelV y u)(h:∀ s',Inv X pins σ H s'->Q (.bool (!o.isSome)) s') :
 wpAny (model X.prog X.w) A (compareOp .NotIn u (.ref a)) Q E s:=by
 rcases g with ⟨kvs,k,e,ey,l⟩|⟨kvs,k,b,e,ey,eb,l⟩
 . subst ey;obtain ⟨z,hd,vs,rel,dd⟩:=FW I.hok e;refine wpAny_notIn_of (FU ry) hd dd.mapOf ?_;rw [<-(rel.val k).ux,<-l];exact h _ (I.tok _)
 . subst ey;cases (show u=Value.ref b from ry);obtain ⟨z,hd,xs,rel,dd⟩:=FY I.hok e;refine wpAny_notIn_heap (tupleKind_room_in1 hu) (A8 I.hok eb) hd dd ?_;have q:=(rel.val k).ux;rw [Option.isSome_map] at q;rw [<-q,<-l];exact h _ (I.tok _)
theorem FZ{h':Heap}{t':Nat}{ob:HO}(I:Inv X pins σ H s)(mu:L5 (H a))(hs:Heap.SameBut a s.heap h')(he:∃ q,h'.get? a=some q)(new:eU X.prog X.w (upd H a ob) h' a ob) :
 Inv X pins σ (upd H a ob) {s with heap:=h',toks:=t'}:=
 I.write (x:=a) (e:=a) mu (.inl rfl) (fun b q hb z=>(hs.2 b hb).trans z) he new
theorem Nd{P:Program}{w:World}{H':Hp}{h':Heap}{kvs:List (Key × V)}{vs:List (Key × Value)}(z:kvs.length<=sizeLine)(hd:(a == sysModules)=false)(rel:KV kvs vs)(dd:h'.DictOf (f9 P w) a vs) :
 eU P w H' h' a (.dK kvs):=⟨z,hd,vs,rel,dd⟩
theorem GV{H':Hp}{Q:Unit->Shared->Prop}(hu:A.units+1<cLine)(I:Inv X pins σ H s)(g:IZ H a y v H')(ry:RelV y u)(rv:RelV v r)(h:∀ s',Inv X pins σ H' s'->Q () s') :
 wpAny (model X.prog X.w) A (setItem (.ref a) u r) Q E s:=by
 rcases g with ⟨kvs,k,e,ey,l,eH⟩|⟨kvs,k,b,e,ey,eb,l,eH⟩
 . subst ey eH;obtain ⟨z,hd,vs,rel,dd⟩:=O5 I.hok e;have hz:vs.length<=sizeLine:=by rw [<-rel.length];exact z
   have hl:(putK kvs k v).length<=sizeLine:=by have:=vE kvs k v;omega
   refine wpAny_setItem_pairs (hsz:=hz) (FU ry) dd fun h' QJ hs=>h _ ?_;have he:∃ q,h'.get? a=some q:=let ⟨q,_,_,hq,_⟩:=QJ;⟨q,hq⟩;exact FZ I (by rw [e];exact True.intro) hs he (Nd hl hd (rel.put k rv) QJ)
 . subst ey eH;cases (show u=Value.ref b from ry);obtain ⟨z,hd,xs,rel,dd⟩:=O6 I.hok e;have hz:xs.length<=sizeLine:=by rw [<-Paired.length rel];exact z
   have hl:(putK kvs k v).length<=sizeLine:=by have:=vE kvs k v;omega
   refine wpAny_setItem_heap (hsz:=hz) (tupleKind_room_in1 hu) (A8 I.hok eb) dd fun h' QJ hs=>h _ ?_;obtain ⟨q,es,ep,hq,h2,h3,h4,_,h5⟩:=QJ;refine FZ I (by rw [e];exact True.intro) hs ⟨q,hq⟩ ⟨hl,hd,_,(rel.put k eb rv).keeps fun c ys ec=>?_,q,es,ep,hq,h2,h3,h4,h5⟩;rw [aJ (Ox ec e (fun z=>nomatch z))];exact ec
end
noncomputable def O7(i:Expr):Prop:=∀ ov iv,subscripted i false ov iv=operate [ov,iv] (getItem ov iv)
theorem K8{prog:Program}{w:World}{A:Around}{E:Value->Shared->Prop}{s:Shared}{env:Env}{value slice:Expr}{pos:Pos}{T id:String}{Q:Value->Shared->Prop}
 (hl:typeLookup (.type T) "__getitem__"=pure (some (.builtin id))) (hs:O7 slice)
 (h:wpAny (model prog w) A (eval value env) (fun o s₁=>wpAny (model prog w) A (eval slice env) (fun i s₂=>s₂.TypeIs o T/\wpAny (model prog w) A (getItem o i) Q E s₂) E s₁) E s) :
 wpAny (model prog w) A (eval (.Subscript value slice pos) env) Q E s:=by
 refine Subscript_ (wpAny_mono h (fun o s₁ h₁=>wpAny_mono h₁ (fun i s₂ h₂=>?_) fun _ _ x=>x) fun _ _ x=>x);obtain ⟨hT,h₂⟩:=h₂;unfold subscriptTail;refine wpAny_bind ?_;rw [getitemInPython_of_ne hT.not_modules];refine wpAny_bind (wpAny_specialOf hT hl ?_);have fin:wpAny (model prog w) A (subscripted slice false o i) (fun r s₃=>wpAny (model prog w) A (letTemporaryGo value o r >>= fun _=>pure r) Q E s₃) E s₂:=by
  rw [hs o i];exact wpAny_operating (wpAny_mono h₂ (fun r s₃ h₃=>wpAny_bind (wpAny_letTemporaryGo (wpAny_pure h₃))) fun _ _ x=>x)
 first
  |exact wpAny_pure (wpAny_bind fin)
  |exact wpAny_bind (wpAny_pure (wpAny_bind fin))
  |exact wpAny_bind fin
theorem CC{X:Cx}{pins:List (Addr × Obj)}{σ:St}{H:Hp}{s:Shared}{a:Addr}{y:V}{o:Option V}(I:Inv X pins σ H s)(g:zc H a y o):s.TypeIs (.ref a) "dict":=by
 rcases g with ⟨kvs,k,e,_,_⟩|⟨kvs,k,b,e,_,_,_⟩
 . obtain ⟨_,_,vs,_,dd⟩:=FW I.hok e;exact dd.typeIs
 . obtain ⟨_,_,xs,_,dd⟩:=FY I.hok e;exact dd.typeIs
noncomputable def O8(td ty:TE):TE:=fun σ H Q=>td σ H fun x H1=>ty σ H1 fun y H2=>∃ a v,x=.ref a/\zc H2 a y (some v)/\Q v H2
noncomputable def K9(ty td:TE):TE:=fun σ H Q=>ty σ H fun y H1=>td σ H1 fun x H2=>∃ a o,x=.ref a/\zc H2 a y o/\Q (.bl (!o.isSome)) H2
noncomputable def O9(td ty tv:TE):TS:=fun D σ H=>tv σ H fun v H1=>td σ H1 fun x H2=>ty σ H2 fun y H3=>∃ a H4,x=.ref a/\IZ H3 a y v H4/\D.nx σ H4
section
variable {X:Cx}{o i e value:Expr}{pos pos' tpos:Pos}{td ty tv:TE}
theorem K_(hu:X.A.units+1<cLine)(ho:PE X o td)(hi:PE X i ty)(hs:O7 i):PE X (.Subscript o i pos) (O8 td ty):=by
 intro pins s σ H Q I h;refine K8 PySem.F.slot_dict_getitem.lookup hs (fc (ho pins s σ H _ I h) fun u s1 ⟨x,H1,I1,rx,q1⟩=>fc (hi pins s1 σ H1 _ I1 q1) fun iv s2 ⟨y,H2,I2,ry,a,v,ex,g,q2⟩=>?_);subst ex;obtain rfl:u=Value.ref a:=rx;exact ⟨CC I2 g,GU hu I2 g ry fun w' s3 I3 rw'=>⟨v,H2,I3,rw',q2⟩⟩
theorem GW(hu:X.A.units+1<cLine)(hi:PE X i ty)(ho:PE X o td):PC X .NotIn i o (K9 ty td):=by
 intro pins s σ H Q I h;refine fc (hi pins s σ H _ I h) fun iv s1 ⟨y,H1,I1,ry,q1⟩=>fc (ho pins s1 σ H1 _ I1 q1) fun u s2 ⟨x,H2,I2,rx,a,ov,ex,g,q2⟩=>?_;subst ex;obtain rfl:u=Value.ref a:=rx;exact K7 hu I2 g ry fun s3 I3=>⟨.bl (!ov.isSome),H2,I3,rfl,q2⟩
theorem La(hu:X.A.units+1<cLine)(ho:PE X o td)(hi:PE X i ty)(hv:PE X value tv)(hs:swapsWith value (some (.Subscript o i pos')) pos.line X.env=pure false) :
 PS X (.Assign [.Subscript o i pos'] value pos) (O9 td ty tv):=by
 intro pins s σ H D I h;refine wpAny_Assign_Subscript (fc (hv pins s σ H _ I h) fun r s1 ⟨v,H1,I1,rv,q1⟩=>fc (ho pins s1 σ H1 _ I1 q1) fun u s2 ⟨x,H2,I2,rx,q2⟩=>fc (hi pins s2 σ H2 _ I2 q2) fun iv s3 ⟨y,H3,I3,ry,a,H4,ex,g,q3⟩=>?_) hs;subst ex;obtain rfl:u=Value.ref a:=rx;exact GV hu I3 g ry rv fun s4 I4=>⟨σ,H4,I4,q3⟩
end
theorem I0{P:Program}{w:World}{H:Hp}(h:Heap)(hb:sysModules<h.objs.size):eU P w H (h.push {cls:=.type "dict",data:=.dict #[]}) h.objs.size (.dK []):=
 ⟨Nat.zero_le _,beq_eq_false_iff_ne.mpr (Ne.symm (Nat.ne_of_lt hb)),[],.nil,Heap.DictOf.new h⟩
noncomputable def Nf:TE:=fun _ H Q=>∀ p,H p=none->Q (.ref p) (upd H p (.dK []))
section
variable {X:Cx}{pos:Pos}
theorem I_:PE X (.Dict [] [] pos) Nf:=fun pins s σ H Q I h=>
 wpAny_Dict_empty ⟨.ref s.heap.objs.size,_,I.laid (a:=s.heap.objs.size) (o:=.dK []) (t':=s.toks) (fun _ _ q=>Heap.get?_push_of_some _ q) (Nat.le_refl _) (I0 s.heap I.big),rfl,h _ (I.hok.fresh (Nat.le_refl _))⟩
end
end L2
namespace L2
open PySem PySem.Spec PyProof.Rows
section
variable {X:Cx}{pins:List (Addr × Obj)}{σ:St}{H:Hp}{s:Shared}{h':Heap}
theorem Inv.Lb{t':Nat}{ch:List Addr}(I:Inv X pins σ H s)(k:∀ b o,b ∉ ch->s.heap.get? b=some o->h'.get? b=some o)(hf:∀ b∈ch,wg X pins H b):Inv X pins σ H {s with heap:=h',toks:=t'}:=by
 have L6:∀ b u,H b=some u->b ∉ ch:=fun b u e z=>by
  have q:=(hf b z).1;rw [q] at e;cases e
 refine I.step (g':=s.gens) (d':=s.drawn) (ch:=ch) (fun b hb=>⟨(hf b hb).2.2.2.1,(hf b hb).2.1,(hf b hb).2.2.2.2.1,(hf b hb).2.2.2.2.2⟩) (fun b o _ _ hc e _=>k b o hc e) (fun b o _ _ hc e _=>⟨o.slots,k b o hc e⟩)
  (fun _ _ _ _ n=>n) (fun b o hc e=>⟨o,k b o hc e⟩) (fun _ _ e=>e) (fun _ _ _ e=>e) (fun b ps e=>⟨#[],by rw [e];simp⟩) (fun m hm=>?_) (fun b u e=>?_) I.bare
 . obtain ⟨o,es,ep,ho,r⟩:=hm;exact ⟨o,es,ep,k _ o (fun z=>(hf _ z).2.1 rfl) ho,r⟩
 . refine (I.hok b u e).stay (fun c v hc q=>k c v ?_ q) (fun _ q=>q) fun _ _ q=>q;rcases hc with z|z
   . rw [z];exact L6 b u e
   . exact L6 c _ z
theorem Inv.Ad{t':Nat}{ch:List Addr}{T:Addr}{ob:HO}(I:Inv X pins σ H s)(k:∀ b o,b ∉ ch->s.heap.get? b=some o->h'.get? b=some o)(hf:∀ b∈ch,wg X pins H b)(hT:s.heap.objs.size<=T)
 (new:eU X.prog X.w (upd H T ob) h' T ob):Inv X pins σ (upd H T ob) {s with heap:=h',toks:=t'}:=by
 have hn:H T=none:=I.hok.fresh hT;have L6:∀ b u,H b=some u->b ∉ ch:=fun b u e z=>by
  have q:=(hf b z).1;rw [q] at e;cases e
 refine I.step (g':=s.gens) (d':=s.drawn) (ch:=ch) (fun b hb=>⟨(hf b hb).2.2.2.1,(hf b hb).2.1,(hf b hb).2.2.2.2.1,(hf b hb).2.2.2.2.2⟩) (fun b o _ _ hc e _=>k b o hc e) (fun b o _ _ hc e _=>⟨o.slots,k b o hc e⟩)
  (fun b o _ e n=>?_) (fun b o hc e=>⟨o,k b o hc e⟩) (fun b xs e=>?_) (fun b o u e=>?_) (fun b ps e=>⟨#[],?_⟩) (fun m hm=>?_) (fun b u e=>?_) I.bare
 . rw [aJ (Nat.ne_of_lt (Nat.lt_of_lt_of_le (Heap.lt_size e) hT))];exact n
 . rw [aJ (bg e hn)];exact e
 . rw [aJ (bg e hn)];exact e
 . rw [aJ (bg e hn),e];simp
 . obtain ⟨o,es,ep,ho,r⟩:=hm;exact ⟨o,es,ep,k _ o (fun z=>(hf _ z).2.1 rfl) ho,r⟩
 . by_cases hb:b=T
   . subst hb;rw [ao] at e;cases e;exact new
   . rw [aJ hb] at e;refine (I.hok b u e).stay (fun c v hc q=>k c v ?_ q) (fun c q=>by rw [aJ (bg q hn)];exact q) fun c xs q=>by rw [aJ (bg q hn)];exact q
     rcases hc with z|z
     . rw [z];exact L6 b u e
     . exact L6 c _ z
theorem Inv.lock{d:Addr}{u:HO}(I:Inv X pins σ H s)(h:H d=some u)(mu:L5 (some u)):∃ od,Inv X pins σ (upd H d (.n_ od u)) s:=by
 have x:=I.hok d u h;have ex:∃ od,s.heap.get? d=some od:=by
  cases u with
  |lst xs=>obtain ⟨_,_,_,_,e⟩:=x;exact ⟨_,e⟩
  |dK kvs=>obtain ⟨_,_,_,_,o,_,_,e,_⟩:=x;exact ⟨o,e⟩
  |dT kvs=>obtain ⟨_,_,_,_,o,_,_,e,_⟩:=x;exact ⟨o,e⟩
  |set S n=>obtain ⟨o,_,_,_,e,_⟩:=x;exact ⟨o,e⟩
  |ins C dx fs=>obtain ⟨_,_,_,e,_⟩:=x;exact ⟨_,e⟩
  |ext φ=>obtain ⟨_,⟨_,e⟩,_⟩:=x;exact ⟨_,e⟩
  |_=>exact False.elim mu
 obtain ⟨od,e⟩:=ex;have new:eU X.prog X.w (upd H d (.n_ od u)) s.heap d (.n_ od u):=by
  refine ⟨e,x.stay (fun b v _ q=>q) (fun b q=>?_) fun b xs q=>?_⟩
  . rw [aJ (fun z=>by rw [z,h] at q;cases q;exact mu)];exact q
  . rw [aJ (fun z=>by rw [z,h] at q;cases q;exact mu)];exact q
 exact ⟨od,I.write (x:=d) (e:=d) (t':=s.toks) (h':=s.heap) (by rw [h];exact mu) (.inl rfl) (fun b v _ q=>q) ⟨od,e⟩ new⟩
theorem Inv.O_{d:Addr}{u:HO}(I:Inv X pins σ H s)(h:H d=some u)(mu:L5 (some u)):∀ o' u',X.MG d≠some (.n_ o' u'):=fun o' u' e=>by
 have q:=I.base.xj d o' u' e;rw [h] at q;cases q;exact mu
theorem Inv.unlock{d:Addr}{od:Obj}{u:HO}(I:Inv X pins σ H s)(h:H d=some (.n_ od u))(hn:∀ o' u',X.MG d≠some (.n_ o' u')):Inv X pins σ (upd H d u) s:=by
 have Oe:∀ b o,H b=some o->(∀ o' u',o≠.n_ o' u')->b≠d:=fun b o e hne z=>by
  rw [z,h] at e;cases e;exact hne _ _ rfl
 have neN:∀ b,H b=none->b≠d:=fun b e z=>by rw [z,h] at e;cases e
 refine ⟨I.ok,I.os,I.bare,⟨I.base.keep,I.base.slot,fun b o e n hx=>?_,I.base.there,fun b xs e=>?_,fun b o x e=>?_,fun b ps e=>?_⟩,I.loc,I.cell,?_,fun x c e=>?_,fun p hp=>?_,fun b o e=>?_,I.len⟩
 . rw [aJ (neN b (I.base.free b o e n hx))];exact I.base.free b o e n hx
 . have q:=I.base.tups b xs e;rw [aJ (Oe b _ q (fun _ _ z=>nomatch z))];exact q
 . have q:=I.base.xj b o x e;rw [aJ (fun z=>by rw [z] at e;exact hn _ _ e)];exact q
 . obtain ⟨m,q⟩:=I.base.AW b ps e;exact ⟨m,by rw [aJ (Oe b _ q (fun _ _ z=>nomatch z))];exact q⟩
 . rw [aJ (neN _ I.free)];exact I.free
 . rw [aJ (neN c (I.mS x c e))];exact I.mS x c e
 . obtain ⟨e,n,r⟩:=I.pin p hp;exact ⟨e,by rw [aJ (neN _ n)];exact n,r⟩
 . by_cases hb:b=d
   . rw [hb,ao] at e;cases e;rw [hb];obtain ⟨_,x⟩:=I.hok d _ h;exact x.stay (fun c v _ q=>q) (fun c q=>by rw [aJ (Oe c _ q (fun _ _ z=>nomatch z))];exact q) fun c xs q=>by rw [aJ (Oe c _ q (fun _ _ z=>nomatch z))];exact q
   . rw [aJ hb] at e;exact (I.hok b o e).stay (fun c v _ q=>q) (fun c q=>by rw [aJ (Oe c _ q (fun _ _ z=>nomatch z))];exact q) fun c xs q=>by rw [aJ (Oe c _ q (fun _ _ z=>nomatch z))];exact q
end
noncomputable def Ng(t:TE):TE:=fun σ H Q=>∃ d u,H d=some u/\L5 (some u)/\∀ od,t σ (upd H d (.n_ od u)) fun v H'=>H' d=some (.n_ od u)/\Q v (upd H' d u)
section
variable {X:Cx}
theorem F0{e:Expr}{t:TE}(h:PE X e t):PE X e (Ng t):=by
 intro pins s σ H Q I hw;obtain ⟨d,u,hd,mu,hw⟩:=hw;obtain ⟨od,I1⟩:=I.lock hd mu;refine fc (h pins s σ _ _ I1 (hw od)) fun v s1 ⟨x,H1,I2,r,e2,q⟩=>?_;exact ⟨x,_,I2.unlock e2 (I.O_ hd mu),r,q⟩
end
noncomputable def Og(K:PySem.W.Frag)(a:Addr):It:=
 ⟨fun i H=>∃ (xs:List V) (x:V),aP K H a xs/\xs[i]?=some x,fun i H v H'=>∃ T x,v=.ref T/\H T=none/\H'=upd H T (.tup [.int (i:Nat),x])/\∀ xs,aP K H a xs->xs[i]?=some x,fun i H=>∃ xs:List V,aP K H a xs/\xs.length<=i⟩
theorem GX{P:Program}{w:World}{K:PySem.W.Frag}{elts:List Expr}{kk:Nat}{tpos:Pos}(a e it:Addr) :
 Turn P w K (.Tuple elts kk tpos) (Og K a) [e,it] e (fun i h=>(∃ old,IsEnum h e it ((i:Nat):Int) old)/\h.IsListIter it a i/\e≠it) where
 mem:=by simp
 obj:=fun i h st b hb=>by
  obtain ⟨⟨old,he⟩,⟨o,ho,hc,hd⟩,_⟩:=st;have e':b=e\/b=it:=by simpa using hb
  rcases e' with z|z
  . rw [z];exact ⟨_,he,fun v q=>nomatch q⟩
  . rw [z];exact ⟨o,ho,fun v q=>by rw [hd] at q;cases q⟩
 keep:=fun i h h' st k=>let ⟨⟨old,he⟩,hi,hne⟩:=st;⟨⟨old,k e (by simp) _ he⟩,hi.at fun o q=>k it (by simp) o q,hne⟩
 item:=by
  intro X hP hw hK hc i pins s σ H E I hf st hg;subst hP hw hK;obtain ⟨⟨old,he⟩,hit,hne⟩:=st;obtain ⟨xs,x,hq,hx⟩:=hg;obtain ⟨its,rv,p,hz⟩:=I.list hq;obtain ⟨u,hu,ru⟩:=rv.get hx;have hel:e<s.heap.objs.size:=Heap.lt_size he;have hil:it<s.heap.objs.size:=by obtain ⟨_,q,_⟩:=hit;exact Heap.lt_size q
  refine wpAny_pyNext_enum_item he hit p.isList (x:=u) (by simpa using hu) hne fun h' ho R3 hT hsz hk=>?_;refine ⟨_,rfl,wpAny_letOwnedTupleGo_enum (s:={s with heap:=h',toks:=s.toks+1}) ho fun h'' he' sb=>?_⟩;have hT2:h''.get? s.heap.objs.size=some {cls:=.type "tuple",data:=.seq #[.int i s.toks,u]}:=(sb.2 _ (Nat.ne_of_gt hel)).trans hT;have new:eU X.prog X.w (upd H s.heap.objs.size (.tup [.int (i:Nat),x])) h'' s.heap.objs.size (.tup [.int (i:Nat),x]):=
   ⟨by show 2<=sizeLine;decide,[.int i s.toks,u],.cons ⟨_,rfl⟩ (.cons ru .nil),⟨_,hT2,rfl,_,rfl⟩⟩
  have I1:Inv X pins σ (upd H s.heap.objs.size (.tup [.int (i:Nat),x])) {s with heap:=h'',toks:=s.toks+1}:=
   I.Ad (ch:=[e,it]) (fun b ob hb q=>(sb.2 b (fun z=>hb (by simp [z]))).trans (hk b ob (fun z=>hb (by simp [z])) (fun z=>hb (by simp [z])) q)) hf (Nat.le_refl _) new
  refine ⟨.ref s.heap.objs.size,_,I1,rfl,⟨_,x,rfl,I.hok.fresh (Nat.le_refl _),rfl,fun ys hy=>by rw [I.sf hy hq];exact hx⟩,⟨⟨u,?_⟩,R3.at fun o q=>(sb.2 it (Ne.symm hne)).trans q,hne⟩,fun b hb=>?_⟩
  . have e1:((i+1:Nat):Int)=(i:Int)+1:=by omega
    rw [e1];exact he'
  . have hb':b<s.heap.objs.size:=by
     have e':b=e\/b=it:=by simpa using hb
     rcases e' with z|z
     . rw [z];exact hel
     . rw [z];exact hil
    rw [aJ (Nat.ne_of_lt hb')];exact (hf b hb).1
 done:=by
  intro X hP hw hK hc i pins s σ H E I hf st hg;subst hP hw hK;obtain ⟨⟨old,he⟩,hit,hne⟩:=st;obtain ⟨xs,hq,hx⟩:=hg;obtain ⟨its,rv,p,hz⟩:=I.list hq;obtain ⟨f0,f1,f2,f3,f4,f5⟩:=hf it (by simp);have hl:=rv.length;exact wpAny_pyNext_enum_end (I.ok.hd hc) he hit p.isList (by simp;omega) fun h' eb=>⟨rfl,I.turned (t':=s.toks) (fun b o hb q=>eb b o hb q) f0 f1 f3 f4 f5⟩
 self:=fun A i s Q E st h=>let ⟨⟨_,he⟩,_⟩:=st;wpAny_pyIter_enum he h
noncomputable def Pa(K:PySem.W.Frag)(ta:TA):TI:=fun σ H R=>ta σ H fun vs H1=>∃ a xs,vs=[.ref a]/\aP K H1 a xs/\R (Og K a) H1
theorem sE{X:Cx}{e:Expr}{ta:TA}{p pos tpos:Pos}{elts:List Expr}{kk:Nat}(hg:Gl X "enumerate")(hm:X.mg "enumerate"=none)(ha:PA X [e] ta)(hs:starEach [e] X.env=[(false,eval e X.env)]:=by rfl) :
 PI X (.Tuple elts kk tpos) (.Call (.Name "enumerate" p) [e] [] pos) (Pa X.K ta):=by
 intro pins s σ H R I h;refine Call_ (uh I hg hm boot_enumerate (PyProof.Rows.callWith_type1 (fc (ha pos pins s σ H _ I h) fun us s1 ⟨vs,H1,I1,r1,q1⟩=>?_) hs rfl));obtain ⟨a,xs,ex,hq,q⟩:=q1;subst ex;cases r1 with
 |
  cons r rr=>
  cases rr;cases r;obtain ⟨its,rv,p',hz⟩:=I1.list hq;refine call_enumerate_list p'.isList fun h' he hit hsz hk=>wpAny_pyIter_enum he ?_;have I2:Inv X pins σ H1 {s1 with heap:=h'}:=I1.kept (t':=s1.toks) hk;refine ⟨s1.heap.objs.size+1,[s1.heap.objs.size+1,s1.heap.objs.size],_,_,H1,rfl,I2,GX a (s1.heap.objs.size+1) s1.heap.objs.size,⟨⟨.none,he⟩,hit,Nat.succ_ne_self _⟩,fun b hb=>?_,q⟩;have e':b=s1.heap.objs.size+1\/b=s1.heap.objs.size:=by simpa using hb
  have hle:s1.heap.objs.size<=b:=by
   rcases e' with z|z
   . rw [z];exact Nat.le_add_right _ _
   . rw [z];exact Nat.le_refl _
  exact I1.IC hle (I1.hok.fresh hle)
theorem GY:bootBuiltins "zip"=some (.type "zip"):=by decide +kernel
noncomputable def Oh(K:PySem.W.Frag)(a b:Addr):It:=
 ⟨fun i H=>∃ (xs ys:List V) (x y:V),aP K H a xs/\aP K H b ys/\xs[i]?=some x/\ys[i]?=some y,
  fun i H v H'=>∃ T x y,v=.ref T/\H T=none/\H'=upd H T (.tup [x,y])/\(∀ xs,aP K H a xs->xs[i]?=some x)/\∀ ys,aP K H b ys->ys[i]?=some y,
  fun i H=>∃ xs ys:List V,aP K H a xs/\aP K H b ys/\(xs.length<=i\/ys.length<=i)⟩
theorem Ja{P:Program}{w:World}{K:PySem.W.Frag}{elts:List Expr}{kk:Nat}{tpos:Pos}{a b z TI TO i1 i2:Addr}(D:ZipApart z TI TO i1 i2 a b) :
 Turn P w K (.Tuple elts kk tpos) (Oh K a b) [z,TI,TO,i1,i2] z (fun i h=>IsZip h z TI TO .none/\IsPair h TI (.ref i1) (.ref i2)/\(∃ x y,IsPair h TO x y)/\h.IsListIter i1 a i/\h.IsListIter i2 b i) where
 mem:=by simp
 obj:=fun i h st c hc=>by
  obtain ⟨hz,hTI,⟨x,y,hTO⟩,⟨o1,e1,_,d1⟩,⟨o2,e2,_,d2⟩⟩:=st;have e':c=z\/c=TI\/c=TO\/c=i1\/c=i2:=by simpa using hc
  rcases e' with q|q|q|q|q
  . rw [q];exact ⟨_,hz,fun v q=>nomatch q⟩
  . rw [q];exact ⟨_,hTI,fun v q=>nomatch q⟩
  . rw [q];exact ⟨_,hTO,fun v q=>nomatch q⟩
  . rw [q];exact ⟨o1,e1,fun v q=>by rw [d1] at q;cases q⟩
  . rw [q];exact ⟨o2,e2,fun v q=>by rw [d2] at q;cases q⟩
 keep:=fun i h h' st k=>by
  obtain ⟨hz,hTI,⟨x,y,hTO⟩,h1,h2⟩:=st;exact ⟨k z (by simp) _ hz,k TI (by simp) _ hTI,⟨x,y,k TO (by simp) _ hTO⟩,h1.at fun o q=>k i1 (by simp) o q,h2.at fun o q=>k i2 (by simp) o q⟩
 item:=by
  intro X hP hw hK hc i pins s σ H E I hf st hg;subst hP hw hK;obtain ⟨hz,hTI,⟨x0,y0,hTO⟩,h1,h2⟩:=st;obtain ⟨xs,ys,x,y,Oi,Oj,hx,hy⟩:=hg;obtain ⟨its,rv,p,_⟩:=I.list Oi;obtain ⟨its2,QK,p2,_⟩:=I.list Oj;obtain ⟨u,hu,ru⟩:=rv.get hx;obtain ⟨u2,R4,U3⟩:=QK.get hy;have T4:z<s.heap.objs.size:=Heap.lt_size hz;refine wpAny_pyNext_zip_item D hz hTI hTO h1 h2 p.isList p2.isList (x:=u) (y:=u2) (by simpa using hu) (by simpa using R4) fun h' z' U4 GZ h2' hT hsz hk=>?_;refine ⟨_,rfl,wpAny_letOwnedTupleGo_zip (s:={s with heap:=h'}) z' fun h'' U5 sb=>?_⟩;have hT2:h''.get? s.heap.objs.size=some {cls:=.type "tuple",data:=.seq #[u,u2]}:=(sb.2 _ (Nat.ne_of_gt T4)).trans hT;have new:eU X.prog X.w (upd H s.heap.objs.size (.tup [x,y])) h'' s.heap.objs.size (.tup [x,y]):=
   ⟨by show 2<=sizeLine;decide,[u,u2],.cons ru (.cons U3 .nil),⟨_,hT2,rfl,_,rfl⟩⟩
  have I1:Inv X pins σ (upd H s.heap.objs.size (.tup [x,y])) {s with heap:=h''}:=
   I.Ad (t':=s.toks) (ch:=[z,TI,TO,i1,i2]) (fun c o hb q=>(sb.2 c (fun q'=>hb (by simp [q']))).trans (hk c o (fun q'=>hb (by simp [q'])) (fun q'=>hb (by simp [q'])) (fun q'=>hb (by simp [q'])) (fun q'=>hb (by simp [q'])) q)) hf (Nat.le_refl _) new
  refine ⟨.ref s.heap.objs.size,_,I1,rfl,⟨_,x,y,rfl,I.hok.fresh (Nat.le_refl _),rfl,fun l hl=>by rw [I.sf hl Oi];exact hx,fun l hl=>by rw [I.sf hl Oj];exact hy⟩,⟨U5,?_,⟨u,u2,?_⟩,?_,?_⟩,fun c QL=>?_⟩
  . exact (sb.2 _ D.TIz).trans (hk _ _ D.TIz D.TITO D.TIi1 D.TIi2 hTI)
  . exact (sb.2 _ D.TOz).trans U4
  . exact GZ.at fun o q=>(sb.2 _ D.i1z).trans q
  . exact h2'.at fun o q=>(sb.2 _ D.i2z).trans q
  . have hlt:c<s.heap.objs.size:=by
     have e':c=z\/c=TI\/c=TO\/c=i1\/c=i2:=by simpa using QL
     rcases e' with q|q|q|q|q
     . rw [q];exact T4
     . rw [q];exact Heap.lt_size hTI
     . rw [q];exact Heap.lt_size hTO
     . rw [q];obtain ⟨_,e1,_⟩:=h1;exact Heap.lt_size e1
     . rw [q];obtain ⟨_,e2,_⟩:=h2;exact Heap.lt_size e2
    rw [aJ (Nat.ne_of_lt hlt)];exact (hf c QL).1
 done:=by
  intro X hP hw hK hc i pins s σ H E I hf st hg;subst hP hw hK;obtain ⟨hz,hTI,⟨x0,y0,hTO⟩,h1,h2⟩:=st;obtain ⟨xs,ys,Oi,Oj,hend⟩:=hg;obtain ⟨its,rv,p,_⟩:=I.list Oi;obtain ⟨its2,QK,p2,_⟩:=I.list Oj;have l1:=rv.length;have l2:=QK.length;have he:its.toArray[i]?=none\/its2.toArray[i]?=none:=by
   rcases hend with q|q
   . exact .inl (by simp;omega)
   . exact .inr (by simp;omega)
  exact wpAny_pyNext_zip_end (I.ok.hd hc) D hz hTI hTO h1 h2 p.isList p2.isList he fun h' hk=>⟨rfl,I.Lb (t':=s.toks) (ch:=[z,TI,TO,i1,i2]) (fun c o hb q=>
   hk c o (fun q'=>hb (by simp [q'])) (fun q'=>hb (by simp [q'])) (fun q'=>hb (by simp [q'])) (fun q'=>hb (by simp [q'])) q) hf⟩
 self:=fun A i s Q E st h=>wpAny_pyIter_zip st.1 h
noncomputable def R5(K:PySem.W.Frag)(ta:TA):TI:=fun σ H R=>ta σ H fun vs H1=>∃ a b xs ys,vs=[.ref a,.ref b]/\aP K H1 a xs/\aP K H1 b ys/\R (Oh K a b) H1
theorem nv{X:Cx}{e e2:Expr}{ta:TA}{p pos tpos:Pos}{elts:List Expr}{kk:Nat}(hg:Gl X "zip")(hm:X.mg "zip"=none)(ha:PA X [e,e2] ta)
 (hs:starEach [e,e2] X.env=(false,eval e X.env)::starEach [e2] X.env:=by rfl) (hpl:(backTo pos (starEach [e2] X.env)).any (·.1)=false:=by rfl) :
 PI X (.Tuple elts kk tpos) (.Call (.Name "zip" p) [e,e2] [] pos) (R5 X.K ta):=by
 intro pins s σ H R I h;refine Call_ (uh I hg hm GY (PyProof.Rows.callWith_type1 (fc (ha pos pins s σ H _ I h) fun us s1 ⟨vs,H1,I1,r1,q1⟩=>?_) hs hpl));obtain ⟨a,b,xs,ys,ex,Oi,Oj,q⟩:=q1;subst ex;cases r1 with
 |
  cons r rr=>
  cases rr with
  |
   cons r' rr=>
   cases rr;cases r;cases r';obtain ⟨its,rv,p1,_⟩:=I1.list Oi;obtain ⟨its2,QK,p2,_⟩:=I1.list Oj;have la:a<s1.heap.objs.size:=p1.lt;have lb:b<s1.heap.objs.size:=p2.lt;refine call_zip_2 p1.isList p2.isList fun h' hz hTI hTO h1 h2 hsz hk=>wpAny_pyIter_zip hz ?_;have I2:Inv X pins σ H1 {s1 with heap:=h'}:=I1.kept (t':=s1.toks) hk;refine ⟨s1.heap.objs.size+4,[s1.heap.objs.size+4,s1.heap.objs.size+2,s1.heap.objs.size+3,s1.heap.objs.size,s1.heap.objs.size+1],_,_,H1,rfl,I2,Ja (PySem.W.ktu_apart s1.heap.objs.size a b la lb),⟨hz,hTI,⟨_,_,hTO⟩,h1,h2⟩,fun c QL=>?_,q⟩;have e':c=s1.heap.objs.size+4\/c=s1.heap.objs.size+2\/c=s1.heap.objs.size+3\/c=s1.heap.objs.size\/c=s1.heap.objs.size+1:=by simpa using QL
   have hle:s1.heap.objs.size<=c:=by
    rcases e' with z|z|z|z|z
    . rw [z];exact Nat.le_add_right _ _
    . rw [z];exact Nat.le_add_right _ _
    . rw [z];exact Nat.le_add_right _ _
    . rw [z];exact Nat.le_refl _
    . rw [z];exact Nat.le_add_right _ _
   exact I1.IC hle (I1.hok.fresh hle)
end L2
section
namespace TL
open PySem PySem.Builtin PySem.Builtin.Str PySem.StrLaws
noncomputable def pre(S l:List Nat):Bool:=l.take S.length == S
noncomputable def par(S:List Nat):List Nat->List Nat->Option (List Nat × List Nat)
 |_,[]=>none
 |acc,c::r=>if pre S (c::r)=true then some (acc,(c::r).drop S.length) else par S (acc++[c]) r
end TL
end
section
namespace L2
open PySem PySem.Spec PyProof.Rows
open PySem.W (WData Codec OpenSpec Well WellAll ReadsW ReadsAllW)
mutual
inductive Dw(K:PySem.W.Frag)(H:Hp):V->WData->Prop
 |non:Dw K H .non .none
 |bl (b:Bool):Dw K H (.bl b) (.bool b)
 |int (i:Int):Dw K H (.int i) (.int i)
 |str (x:Str):Dw K H (.str x) (.str x)
 |DV (b:Array UInt8):Dw K H (.DV b) (.bytes b.toList)
 |lst {a:Addr} {xs:List V} {ds:List WData}:aP K H a xs->oh K H xs ds->Dw K H (.ref a) (.list ds)
 |tup {a:Addr} {xs:List V} {ds:List WData}:fG K H a xs->oh K H xs ds->Dw K H (.ref a) (.tuple ds)
inductive oh(K:PySem.W.Frag)(H:Hp):List V->List WData->Prop
 |nil:oh K H [] []
 |cons {v:V} {vs:List V} {d:WData} {ds:List WData}:Dw K H v d->oh K H vs ds->oh K H (v::vs) (d::ds)
end
theorem F1{K:PySem.W.Frag}{H:Hp}:∀ ns:List Int,oh K H (ns.map V.int) (ns.map WData.int)
 |[]=>.nil
 |n::r=>.cons (.int n) (F1 r)
theorem F3{K:PySem.W.Frag}{H:Hp}:∀ (ns:List Int) (xs:List V),oh K H xs (ns.map WData.int)->xs=ns.map V.int
 |
  [],xs,h=>by
  cases h;rfl
 |
  n::r,xs,h=>by
  cases h with
  |
   cons h1 h2=>
   cases h1;rw [F3 r _ h2]<;>rfl
section
variable {P:Program}{w:World}{K:PySem.W.Frag}{H:Hp}{h:Heap}{R:PySem.W.WRecords}{cl:Str->Option Addr}
theorem Nh{a:Addr}{xs:List V}(hok:oW P w H h)(KX:K.In h)(q:aP K H a xs):∃ (its:List Value) (o:Obj) (n:Nat),Vals xs its/\h.get? a=some o/\o.cls=.type "list"/\o.data=.seq its.toArray n:=by
 rcases q with q|⟨o,its,n,e,hc,_,hd,_,hv⟩
 . obtain ⟨_,its,n,hv,e⟩:=(show eU P w H h a (.lst xs) from q.ok hok)
   exact ⟨its,_,n,hv,e,rfl,rfl⟩
 . exact ⟨its.toList,o,n,hv,KX _ _ e,hc,by simp [hd]⟩
theorem Ni{a:Addr}{xs:List V}(hok:oW P w H h)(KX:K.In h)(q:fG K H a xs):∃ (its:List Value) (o:Obj) (n:Nat),Vals xs its/\h.get? a=some o/\o.cls=.type "tuple"/\o.data=.seq its.toArray n:=by
 rcases q with q|⟨o,its,n,e,hc,hd,_,hv⟩
 . obtain ⟨_,its,hv,o,e,hc,n,hd⟩:=(show eU P w H h a (.tup xs) from q.ok hok)
   exact ⟨its,o,n,hv,e,hc,hd⟩
 . exact ⟨its.toList,o,n,hv,KX _ _ e,hc,by simp [hd]⟩
mutual
theorem Dw.reads(hok:oW P w H h)(KX:K.In h):∀ (d:WData) (v:V) (u:Value),Dw K H v d->RelV v u->∃ as,ReadsW R cl h u d as
 |
  .none,_,_,x,r=>by
  cases x;cases r;exact ⟨_,ReadsW.none⟩
 |
  .bool b,_,_,x,r=>by
  cases x;cases r;exact ⟨_,ReadsW.bool b⟩
 |
  .int i,_,_,x,r=>by
  cases x;obtain ⟨t,rfl⟩:=r;exact ⟨_,ReadsW.int i t⟩
 |
  .str s,_,_,x,r=>by
  cases x;obtain ⟨t,rfl⟩:=r;exact ⟨_,ReadsW.str s t⟩
 |
  .bytes b,_,_,x,r=>by
  cases x;obtain ⟨t,rfl⟩:=r;exact ⟨_,ReadsW.bytes _ t⟩
 |
  .list ds,_,_,x,r=>by
  cases x with
  |
   lst hs ha=>
   cases r;obtain ⟨its,o,n,rv,ho,hc,hd⟩:=Nh hok KX hs;obtain ⟨as,hr⟩:=Dw.readsAll hok KX ds _ its ha rv;exact ⟨_,ReadsW.list ho hc hd hr⟩
 |
  .tuple ds,_,_,x,r=>by
  cases x with
  |
   tup hs ha=>
   cases r;obtain ⟨its,o,n,rv,ho,hc,hd⟩:=Ni hok KX hs;obtain ⟨as,hr⟩:=Dw.readsAll hok KX ds _ its ha rv;exact ⟨_,ReadsW.tuple ho hc hd hr⟩
 |.float _,_,_,x,_=>by cases x
 |.dict _,_,_,x,_=>by cases x
 |.bytearray _,_,_,x,_=>by cases x
 |.set _,_,_,x,_=>by cases x
 |.frozenset _,_,_,x,_=>by cases x
 |.obj _ _,_,_,x,_=>by cases x
theorem Dw.readsAll(hok:oW P w H h)(KX:K.In h):∀ (ds:List WData) (vs:List V) (us:List Value),oh K H vs ds->Vals vs us->∃ as,ReadsAllW R cl h us ds as
 |
  [],_,_,x,r=>by
  cases x;cases r;exact ⟨_,ReadsAllW.nil⟩
 |
  d::ds,_,_,x,r=>by
  cases x with
  |
   cons h1 h2=>
   cases r with
   |
    cons r1 r2=>
    obtain ⟨as,q1⟩:=Dw.reads hok KX d _ _ h1 r1;obtain ⟨bs,q2⟩:=Dw.readsAll hok KX ds _ _ h2 r2;exact ⟨_,ReadsAllW.cons q1 q2⟩
end
end
mutual
noncomputable def F4:WData->Bool
 |.none=>true
 |.bool _=>true
 |.int _=>true
 |.str _=>true
 |.bytes _=>true
 |.list xs=>wj xs
 |.tuple xs=>wj xs
 |_=>false
noncomputable def wj:List WData->Bool
 |[]=>true
 |x::r=>F4 x && wj r
end
theorem CD{α:Type}{f:α->WData}(h:∀ a,F4 (f a)=true):∀ l:List α,wj (l.map f)=true
 |[]=>rfl
 |
  x::r=>by
  show (F4 (f x) && wj (r.map f))=true;rw [h x,CD h r]<;>rfl
theorem pC:∀ (c:Codec) (a:c.denote),F4 (c.enc a)=true
 |.unit,_=>rfl
 |.bool,_=>rfl
 |.int _ _,_=>rfl
 |.nat _ _,_=>rfl
 |.u8,_=>rfl
 |.bytes _ _,_=>rfl
 |.text _ _ _ _,_=>rfl
 |.list _ _ c,a=>CD (fun x=>pC c x) a
 |
  .pair c d,a=>by
  show (F4 (c.enc a.1) && (F4 (d.enc a.2) && true))=true;rw [pC c a.1,pC d a.2]<;>rfl
 |
  .triple c d e,a=>by
  show (F4 (c.enc a.1) && (F4 (d.enc a.2.1) && (F4 (e.enc a.2.2) && true)))=true;rw [pC c a.1,pC d a.2.1,pC e a.2.2]<;>rfl
 |.option c,none=>rfl
 |.option c,some x=>pC c x
theorem Ae:∀ (cs:List Codec) (a:Codec.denoteAll cs),wj (Codec.encAll cs a)=true
 |[],_=>rfl
 |
  c::cs,a=>by
  show (F4 (c.enc a.1) && wj (Codec.encAll cs a.2))=true;rw [pC c a.1,Ae cs a.2]<;>rfl
theorem qT:∀ {xs:List WData} {d:WData},d∈xs->d.weight<=WData.weightAll xs
 |[],d,h=>absurd h (by simp)
 |
  x::r,d,h=>by
  show d.weight<=x.weight+1+WData.weightAll r;rcases List.mem_cons.mp h with e|m
  . rw [e];omega
  . have z:=qT m;omega
noncomputable def toV:Value->V
 |.none=>.non
 |.bool b=>.bl b
 |.int i _=>.int i
 |.str x _=>.str x
 |.bytes b _=>.DV b
 |.ref a=>.ref a
 |_=>.non
noncomputable def G0(A:List Addr):Value->Prop
 |.none=>True
 |.bool _=>True
 |.int _ _=>True
 |.str _ _=>True
 |.bytes _ _=>True
 |.ref a=>a∈A
 |_=>False
theorem G0.mono{A B:List Addr}(h:∀ a∈A,a∈B):∀ {u:Value},G0 A u->G0 B u:=fun {u} x=>by
 cases u with
 |ref a=>exact h a x
 |none=>trivial
 |bool b=>trivial
 |int i t=>trivial
 |str s t=>trivial
 |bytes b t=>trivial
 |_=>exact False.elim x
theorem Jb{A:List Addr}{u:Value}(x:G0 A u):RelV (toV u) u:=by
 cases u with
 |ref a=>rfl
 |none=>rfl
 |bool b=>rfl
 |int i t=>exact ⟨t,rfl⟩
 |str s t=>exact ⟨t,rfl⟩
 |bytes b t=>exact ⟨t,rfl⟩
 |_=>exact False.elim x
theorem mY{A:List Addr}:∀ {vs:List Value},(∀ u∈vs,G0 A u)->Vals (vs.map toV) vs
 |[],_=>.nil
 |u::r,h=>.cons (Jb (h u (List.mem_cons_self ..))) (mY fun x hx=>h x (List.mem_cons_of_mem _ hx))
noncomputable def oj(h:Heap)(A:List Addr)(a:Addr):Prop:=∃ vs:List Value,vs.length<=sizeLine/\(∀ u∈vs,G0 A u)/\
 (h.get? a=some {cls:=.type "list",data:=.seq vs.toArray}\/h.get? a=some {cls:=.type "tuple",data:=.seq vs.toArray})
theorem oj.mono{h:Heap}{A B:List Addr}{a:Addr}(k:∀ a∈A,a∈B)(x:oj h A a):oj h B a:=by
 obtain ⟨vs,h1,h2,h3⟩:=x;exact ⟨vs,h1,fun u hu=>(h2 u hu).mono k,h3⟩
theorem lD{P:Params}{h:Heap}:∀ {vs:List Value} {ds:List WData},WellAll P h vs ds->vs.length=ds.length
 |_,_,.nil=>rfl
 |
  _,_,.cons _ b=>by
  show _+1=_+1;rw [lD b]
theorem Af{P:Params}{h:Heap}{v:Value}{ds:List WData}(x:Well P h v (.list ds)):∃ (a:Addr) (vs:List Value),v=.ref a/\h.get? a=some {cls:=.type "list",data:=.seq vs.toArray}/\WellAll P h vs ds:=by
 cases x with
 |list ho hall=>exact ⟨_,_,rfl,ho,hall⟩
theorem xy{P:Params}{h:Heap}{v:Value}{ds:List WData}(x:Well P h v (.tuple ds)):∃ (a:Addr) (vs:List Value),v=.ref a/\h.get? a=some {cls:=.type "tuple",data:=.seq vs.toArray}/\WellAll P h vs ds:=by
 cases x with
 |tuple ho hall=>exact ⟨_,_,rfl,ho,hall⟩
theorem Ag{P:Params}{h:Heap}{us:List Value}{d:WData}{ds:List WData}(x:WellAll P h us (d::ds)):∃ (v:Value) (vs:List Value),us=v::vs/\Well P h v d/\WellAll P h vs ds:=by
 cases x with
 |cons a b=>exact ⟨_,_,rfl,a,b⟩
theorem F5{n:Nat}(h:n<=1048576):n<=sizeLine:=Nat.le_trans h (by decide)
section
variable {P:Params}{h:Heap}
mutual
theorem Jc:∀ (d:WData) (v:Value),Well P h v d->F4 d=true->d.weight<=1048576->∃ A:List Addr,G0 A v/\∀ a∈A,oj h A a
 |
  .none,_,x,_,_=>by
  cases x;exact ⟨[],trivial,fun a m=>absurd m (by simp)⟩
 |
  .bool b,_,x,_,_=>by
  cases x;exact ⟨[],trivial,fun a m=>absurd m (by simp)⟩
 |
  .int i,_,x,_,_=>by
  cases x;exact ⟨[],trivial,fun a m=>absurd m (by simp)⟩
 |
  .str s,_,x,_,_=>by
  cases x;exact ⟨[],trivial,fun a m=>absurd m (by simp)⟩
 |
  .bytes b,_,x,_,_=>by
  cases x;exact ⟨[],trivial,fun a m=>absurd m (by simp)⟩
 |
  .list ds,_,x,p,z=>by
  obtain ⟨a,vs,rfl,ho,hall⟩:=Af x;have z2:WData.weightAll ds<=1048576:=z;obtain ⟨A,h1,h2⟩:=sI ds _ hall p fun d hd=>Nat.le_trans (qT hd) z2;have k:∀ b∈A,b∈a::A:=fun b hb=>List.mem_cons_of_mem _ hb;refine ⟨a::A,List.mem_cons_self ..,fun b hb=>?_⟩;rcases List.mem_cons.mp hb with e|m
  . rw [e];exact ⟨vs,F5 (by rw [lD hall];exact Nat.le_trans (PySem.W.length_le_weightAllW ds) z2),fun u hu=>(h1 u hu).mono k,.inl ho⟩
  . exact (h2 b m).mono k
 |
  .tuple ds,_,x,p,z=>by
  obtain ⟨a,vs,rfl,ho,hall⟩:=xy x;have z2:WData.weightAll ds<=1048576:=z;obtain ⟨A,h1,h2⟩:=sI ds _ hall p fun d hd=>Nat.le_trans (qT hd) z2;have k:∀ b∈A,b∈a::A:=fun b hb=>List.mem_cons_of_mem _ hb;refine ⟨a::A,List.mem_cons_self ..,fun b hb=>?_⟩;rcases List.mem_cons.mp hb with e|m
  . rw [e];exact ⟨vs,F5 (by rw [lD hall];exact Nat.le_trans (PySem.W.length_le_weightAllW ds) z2),fun u hu=>(h1 u hu).mono k,.inr ho⟩
  . exact (h2 b m).mono k
 |.float _,_,_,p,_=>Bool.noConfusion (show false=true from p)
 |.dict _,_,_,p,_=>Bool.noConfusion (show false=true from p)
 |.bytearray _,_,_,p,_=>Bool.noConfusion (show false=true from p)
 |.set _,_,_,p,_=>Bool.noConfusion (show false=true from p)
 |.frozenset _,_,_,p,_=>Bool.noConfusion (show false=true from p)
 |.obj _ _,_,_,p,_=>Bool.noConfusion (show false=true from p)
theorem sI:∀ (ds:List WData) (vs:List Value),WellAll P h vs ds->wj ds=true->(∀ d∈ds,d.weight<=1048576)->∃ A:List Addr,(∀ u∈vs,G0 A u)/\∀ a∈A,oj h A a
 |
  [],_,x,_,_=>by
  cases x;exact ⟨[],fun u m=>absurd m (by simp),fun a m=>absurd m (by simp)⟩
 |
  d::ds,_,x,p,z=>by
  obtain ⟨v,vs,rfl,x1,x2⟩:=Ag x;have q:F4 d=true/\wj ds=true:=Bool.and_eq_true_iff.mp p;obtain ⟨A,a1,a2⟩:=Jc d v x1 q.1 (z d (List.mem_cons_self ..));obtain ⟨B,b1,b2⟩:=sI ds vs x2 q.2 fun e he=>z e (List.mem_cons_of_mem _ he);have kA:∀ b∈A,b∈A++B:=fun b hb=>List.mem_append.mpr (.inl hb);have kB:∀ b∈B,b∈A++B:=fun b hb=>List.mem_append.mpr (.inr hb);refine ⟨A++B,fun u hu=>?_,fun b hb=>?_⟩
  . rcases List.mem_cons.mp hu with e|m
    . rw [e];exact a1.mono kA
    . exact (b1 u m).mono kB
  . rcases List.mem_append.mp hb with m|m
    . exact (a2 b m).mono kA
    . exact (b2 b m).mono kB
end
end
noncomputable def Lc(o:Obj):Option HO:=match o.data with
 |.seq vs _=>if (o.cls == Value.type "list")=true then some (.n_ o (.lst (vs.toList.map toV))) else some (.n_ o (.tup (vs.toList.map toV)))
 |_=>none
noncomputable def lV(K:PySem.W.Frag)(h:Heap)(A:List Addr):Hp:=fun b=>if b∈A then (if (K.lookup b).isNone=true then (h.get? b).bind Lc else none) else none
noncomputable def CF(H:Hp):Prop:=∀ b,H b=none\/∃ o u,H b=some (.n_ o u)
theorem CG(vs:List Value):Lc {cls:=.type "list",data:=.seq vs.toArray}=some (.n_ {cls:=.type "list",data:=.seq vs.toArray} (.lst (vs.map toV))):=by
 show (if (Value.type "list" == Value.type "list")=true then some (HO.n_ {cls:=.type "list",data:=.seq vs.toArray} (.lst (vs.toArray.toList.map toV))) else some (HO.n_ {cls:=.type "list",data:=.seq vs.toArray} (.tup (vs.toArray.toList.map toV))))=_;rw [if_pos (beq_self_eq_true _)]
theorem CH(vs:List Value):Lc {cls:=.type "tuple",data:=.seq vs.toArray}=some (.n_ {cls:=.type "tuple",data:=.seq vs.toArray} (.tup (vs.map toV))):=by
 show (if (Value.type "tuple" == Value.type "list")=true then some (HO.n_ {cls:=.type "tuple",data:=.seq vs.toArray} (.lst (vs.toArray.toList.map toV))) else some (HO.n_ {cls:=.type "tuple",data:=.seq vs.toArray} (.tup (vs.toArray.toList.map toV))))=_;rw [if_neg (by decide)]
section
variable {P:Program}{w:World}{K:PySem.W.Frag}{h:Heap}{A:List Addr}
theorem wY{b:Addr}{o:Obj}(hb:b∈A)(hk:K.lookup b=none)(e:h.get? b=some o):lV K h A b=Lc o:=by
 unfold lV;rw [if_pos hb,hk,if_pos (show (none:Option Obj).isNone=true from rfl),e]<;>rfl
theorem Ld{b:Addr}{u:HO}(q:lV K h A b=some u):b∈A/\K.lookup b=none:=by
 unfold lV at q;by_cases hb:b∈A
 . rw [if_pos hb] at q;cases hk:K.lookup b with
   |none=>exact ⟨hb,rfl⟩
   |
    some o=>
    rw [hk,if_neg (by simp)] at q;cases q
 . rw [if_neg hb] at q;cases q
theorem sJ(ar:∀ a∈A,oj h A a){b:Addr}{u:HO}(q:lV K h A b=some u):K.lookup b=none/\∃ vs:List Value,vs.length<=sizeLine/\(∀ u∈vs,G0 A u)/\
 (
  (h.get? b=some {cls:=.type "list",data:=.seq vs.toArray}/\u=.n_ {cls:=.type "list",data:=.seq vs.toArray} (.lst (vs.map toV))) ∨
  (h.get? b=some {cls:=.type "tuple",data:=.seq vs.toArray}/\u=.n_ {cls:=.type "tuple",data:=.seq vs.toArray} (.tup (vs.map toV)))):=by
 obtain ⟨hb,hk⟩:=Ld q;obtain ⟨vs,h1,h2,h3⟩:=ar b hb;refine ⟨hk,vs,h1,h2,?_⟩;rcases h3 with e|e
 . rw [wY hb hk e,CG] at q;exact .inl ⟨e,(Option.some.inj q).symm⟩
 . rw [wY hb hk e,CH] at q;exact .inr ⟨e,(Option.some.inj q).symm⟩
theorem G2(ar:∀ a∈A,oj h A a):CF (lV K h A):=fun b=>by
 cases q:lV K h A b with
 |none=>exact .inl rfl
 |
  some u=>
  obtain ⟨_,vs,_,_,⟨_,e⟩|⟨_,e⟩⟩:=sJ ar q
  . exact .inr ⟨_,_,by rw [e]⟩
  . exact .inr ⟨_,_,by rw [e]⟩
theorem Le(ar:∀ a∈A,oj h A a):oW P w (lV K h A) h:=fun b u q=>by
 obtain ⟨_,vs,h1,h2,⟨e,rfl⟩|⟨e,rfl⟩⟩:=sJ ar q
 . exact ⟨e,by rw [List.length_map];exact h1,vs,_,mY h2,e⟩
 . exact ⟨e,by rw [List.length_map];exact h1,vs,mY h2,_,e,rfl,_,rfl⟩
theorem wZ{c c':Value}{vs us:List Value}(e:(some {cls:=c,data:=.seq vs.toArray}:Option Obj)=some {cls:=c',data:=.seq us.toArray}):c=c'/\vs=us:=by
 have e1:=Option.some.inj e;have e2:c=c':=congrArg Obj.cls e1;have e3:Data.seq vs.toArray=Data.seq us.toArray:=congrArg Obj.data e1;injection e3 with e4
 refine ⟨e2,?_⟩;have e5:=congrArg Array.toList e4
 simpa using e5
theorem R6(KX:K.In h)(ar:∀ a∈A,oj h A a){a:Addr}{vs:List Value}(ha:a∈A)(e:h.get? a=some {cls:=.type "list",data:=.seq vs.toArray}):(∀ u∈vs,G0 A u)/\aP K (lV K h A) a (vs.map toV):=by
 obtain ⟨us,h1,h2,h3⟩:=ar a ha;have hu:us=vs:=by
  rcases h3 with q|q
  . rw [e] at q;exact (wZ q).2.symm
  . rw [e] at q;exact absurd (Value.type.inj (wZ q).1) (by decide)
 subst hu;refine ⟨h2,?_⟩;cases hk:K.lookup a with
 |none=>exact .inl (.inr ⟨_,by rw [wY ha hk e,CG]⟩)
 |
  some o=>
  have e2:=KX a o hk;rw [e] at e2;obtain rfl:=Option.some.inj e2;exact .inr ⟨_,us.toArray,_,hk,rfl,rfl,rfl,by rw [List.size_toArray];exact h1,by simpa using mY h2⟩
theorem R7(KX:K.In h)(ar:∀ a∈A,oj h A a){a:Addr}{vs:List Value}(ha:a∈A)(e:h.get? a=some {cls:=.type "tuple",data:=.seq vs.toArray}):(∀ u∈vs,G0 A u)/\fG K (lV K h A) a (vs.map toV):=by
 obtain ⟨us,h1,h2,h3⟩:=ar a ha;have hu:us=vs:=by
  rcases h3 with q|q
  . rw [e] at q;exact absurd (Value.type.inj (wZ q).1) (by decide)
  . rw [e] at q;exact (wZ q).2.symm
 subst hu;refine ⟨h2,?_⟩;cases hk:K.lookup a with
 |none=>exact .inl (.inr ⟨_,by rw [wY ha hk e,CH]⟩)
 |
  some o=>
  have e2:=KX a o hk;rw [e] at e2;obtain rfl:=Option.some.inj e2;exact .inr ⟨_,us.toArray,_,hk,rfl,rfl,by rw [List.size_toArray];exact h1,by simpa using mY h2⟩
mutual
theorem Nj{Pm:Params}(KX:K.In h)(ar:∀ a∈A,oj h A a):∀ (d:WData) (v:Value),Well Pm h v d->F4 d=true->G0 A v->Dw K (lV K h A) (toV v) d
 |
  .none,_,x,_,_=>by
  cases x;exact .non
 |
  .bool b,_,x,_,_=>by
  cases x;exact .bl b
 |
  .int i,_,x,_,_=>by
  cases x;exact .int i
 |
  .str s,_,x,_,_=>by
  cases x;exact .str s
 |
  .bytes b,_,x,_,_=>by
  cases x;have z:=Dw.DV (K:=K) (H:=lV K h A) b.toArray;exact z
 |
  .list ds,_,x,p,hu=>by
  obtain ⟨a,vs,rfl,ho,hall⟩:=Af x;obtain ⟨h2,hs⟩:=R6 KX ar hu ho;exact .lst hs (A9 KX ar ds _ hall p h2)
 |
  .tuple ds,_,x,p,hu=>by
  obtain ⟨a,vs,rfl,ho,hall⟩:=xy x;obtain ⟨h2,hs⟩:=R7 KX ar hu ho;exact .tup hs (A9 KX ar ds _ hall p h2)
 |.float _,_,_,p,_=>Bool.noConfusion (show false=true from p)
 |.dict _,_,_,p,_=>Bool.noConfusion (show false=true from p)
 |.bytearray _,_,_,p,_=>Bool.noConfusion (show false=true from p)
 |.set _,_,_,p,_=>Bool.noConfusion (show false=true from p)
 |.frozenset _,_,_,p,_=>Bool.noConfusion (show false=true from p)
 |.obj _ _,_,_,p,_=>Bool.noConfusion (show false=true from p)
theorem A9{Pm:Params}(KX:K.In h)(ar:∀ a∈A,oj h A a):∀ (ds:List WData) (vs:List Value),WellAll Pm h vs ds->wj ds=true->(∀ u∈vs,G0 A u)->oh K (lV K h A) (vs.map toV) ds
 |
  [],_,x,_,_=>by
  cases x;exact .nil
 |
  d::ds,_,x,p,hu=>by
  obtain ⟨v,vs,rfl,x1,x2⟩:=Ag x;have q:F4 d=true/\wj ds=true:=Bool.and_eq_true_iff.mp p;exact .cons (Nj KX ar d v x1 q.1 (hu _ (List.mem_cons_self ..))) (A9 KX ar ds vs x2 q.2 fun u m=>hu u (List.mem_cons_of_mem _ m))
end
end
theorem G3{P:Program}{w:World}{K:PySem.W.Frag}{mg mb:Str->Option Value}{CX:Ig}{k:Nat}{fa:Addr}{fd:FuncData}{ps:List Str}{sp:Sp}{s₁:Shared}{vals:List Value}{ds:List WData}{R:PySem.W.WRecords}{cl:Str->Option Addr}{d0:WData}
 (KX:K.In s₁.heap) (hns:s₁.heap.Ns mainGlobals mg) (hb:s₁.heap.Ns builtinsNs mb) (R8:∀ x:Str,x≠"__name__"->mb x=bootBuiltins x) (hlim:s₁.heap.NoLimit) (F6:s₁.heap.NoSeer) (CI:P.given.tree=none) (hg:s₁.gens=#[])
 (hwl:WellAll w.params s₁.heap vals ds) (hpl:wj ds=true) (Nk:∀ d∈ds,d.weight<=1048576) (hr:fT k callerA)
 (F:∀ base:Heap,K.In base->base.Ns mainGlobals mg->nt P w K mg base CX k fa fd ps sp) (hbind:∀ (s:Shared) (us:List Value),us.length=ps.length->BindsTo s fd ⟨us,[]⟩ (ps.zip us)) (hlen:ds.length=ps.length)
 (Kv:∀ (H:Hp) (xs:List V),CF H->oh K H xs ds->sp xs H (fun v H'=>Dw K H' v d0) fun _ _ _=>False)
 (Pb:∀ H e s',CX [] H s₁ (fun _ _ _=>False) e s'->False) :
 codeAny (model P w) callerA (.call (.ref fa) ⟨vals,[]⟩) (fun r s'=>∃ u as,r=.ok (.ret u)/\ReadsW R cl s'.heap u d0 as/\OldK s₁.heap s'.heap/\s'.os=s₁.os/\AllBare s'.gens) s₁:=by
 obtain ⟨A,ho,ar⟩:=sI ds vals hwl hpl Nk;have hO:CF (lV K s₁.heap A):=G2 ar;have hok:oW P w (lV K s₁.heap A) s₁.heap:=Le ar;have hS:=A9 KX ar ds vals hwl hpl ho;have hV:=mY ho;have hK:∀ b u,lV K s₁.heap A b=some u->K.lookup b=none:=fun b u q=>(sJ ar q).1;have Od:∀ {b:Addr} {o:Obj} {es:Array DictEntry} {ep:Nat},s₁.heap.get? b=some o->o.data=.dict es ep->lV K s₁.heap A b=none:=fun {b o es ep} e d=>by
  cases q:lV K s₁.heap A b with
  |none=>rfl
  |
   some u=>
   obtain ⟨_,vs,_,_,⟨e2,_⟩|⟨e2,_⟩⟩:=sJ ar q
   . rw [e2] at e;cases e;have d':Data.seq vs.toArray _=Data.dict es ep:=d;cases d'
   . rw [e2] at e;cases e;have d':Data.seq vs.toArray _=Data.dict es ep:=d;cases d'
 have T5:∀ {b:Addr} {o:Obj},s₁.heap.get? b=some o->o.cls=.type "module"->lV K s₁.heap A b=none:=fun {b o} e d=>by
  cases q:lV K s₁.heap A b with
  |none=>rfl
  |
   some u=>
   obtain ⟨_,vs,_,_,⟨e2,_⟩|⟨e2,_⟩⟩:=sJ ar q
   . rw [e2] at e;cases e;exact absurd (Value.type.inj (show Value.type "list"=Value.type "module" from d)) (by decide)
   . rw [e2] at e;cases e;exact absurd (Value.type.inj (show Value.type "tuple"=Value.type "module" from d)) (by decide)
 generalize lV K s₁.heap A=H at hO hok hS hK Od T5;have A_:∀ {b:Addr} {o:Obj},s₁.heap.get? b=some o->H b=none->(AX s₁.heap H).get? b=some o:=fun e n=>Ip e n;have Mh:∀ {b:Addr} {m:Str->Option Value},s₁.heap.Ns b m->(AX s₁.heap H).Ns b m:=fun {b m} ⟨o,es,ep,e,d,r⟩=>⟨o,es,ep,A_ e (Od e d),d,r⟩
 have nK:∀ b o,K.lookup b=some o->H b=none:=fun b o e=>by
  cases q:H b with
  |none=>rfl
  |
   some u=>
   rw [hK b u q] at e;cases e
 have T6:K.In (AX s₁.heap H):=fun b o e=>A_ (KX b o e) (nK b o e);have hM:Mod K mg (AX s₁.heap H):=⟨T6,Mh hns,⟨mb,Mh hb,R8⟩,let ⟨mc,h1,h2⟩:=hlim;⟨mc,Mh h1,h2⟩,⟨let ⟨mc,a,b⟩:=F6.statics;⟨mc,Mh a,b⟩,let ⟨mc,a,b⟩:=F6.mods;⟨mc,Mh a,b⟩,let ⟨mc,a,b⟩:=F6.imp;⟨mc,Mh a,b⟩,let ⟨mg',bm,ob,a,b,c,d,e⟩:=F6.main;⟨mg',bm,ob,Mh a,b,A_ c (T5 c d),d,e⟩⟩⟩
 have e0:Ea P w K mg (AX s₁.heap H) callerA [] s₁ H:=⟨rfl,hM,fun b o e=>KC e,Nat.le_of_eq (GJ _ _),trivial,fun b hb=>absurd (show b∈([]:List Addr) from hb) (by simp),hok,.of_eq hg,CI⟩
 have hl:vals.length=ps.length:=by rw [lD hwl];exact hlen
 refine codeAny_mono ((F _ T6 (Mh hns)).run callerA [] s₁ H ⟨vals,[]⟩ vals (vals.map toV) _ _ hr e0 (hbind s₁ vals hl) hV (Kv H _ hO hS)) fun r s' x=>?_;cases r with
 |error e=>exact (Pb H e s' x).elim
 |
  ok fl=>
  cases fl with
  |next=>exact False.elim x
  |brk=>exact False.elim x
  |cont=>exact False.elim x
  |
   ret u=>
   obtain ⟨v,H',os,bare,un,Pc,r',q⟩:=x;have kept:∀ b o,s₁.heap.get? b=some o->s'.heap.get? b=some o:=fun b o e=>by
    cases q2:H b with
    |none=>exact un.keep b o e q2 (by intro z;exact absurd (show b∈([]:List Addr) from z) (by simp)) (by simp)
    |
     some u2=>
     rcases hO b with z|⟨ob,u3,z⟩
     . rw [q2] at z;cases z
     . have z2:=un.xj b ob _ z;obtain ⟨e1,_⟩:=hok b _ z;obtain ⟨e2,_⟩:=Pc b _ z2;rw [e] at e1;cases e1;exact e2
   have U6:K.In s'.heap:=fun b o e=>kept b o (KX b o e);obtain ⟨as,hrd⟩:=Dw.reads (R:=R) (cl:=cl) Pc U6 d0 v u q r';exact ⟨u,as,rfl,hrd,OldK.of_keep kept,os,bare⟩
theorem xA{ds:List WData}(h:WData.layableAll ds=true):∀ d∈ds,d.weight<=1048576:=fun d hd=>
 (PySem.W.layableW_iff.mp (List.all_eq_true.mp h d hd)).2.2
theorem xB:∀ (cs:List Codec) (a:Codec.denoteAll cs),(Codec.encAll cs a).length=cs.length
 |[],_=>rfl
 |
  c::cs,a=>by
  show (Codec.encAll cs a.2).length+1=cs.length+1;rw [xB cs a.2]
theorem G4{r:OpenSpec}{k:Nat}{q:Program}{loose:List Str}{XP:(Str->Option Value)->Heap->Prop}{YP:World->Heap->Prop}{d:DefRec}{K:Params->PySem.W.Frag}{CX:World->Ig}{ps:List Str}{sp:World->Sp}
 (Jd:r.wellSaid=true) (himp:importsNone q=true) (CI:r.prog.given.tree=none) (hdf:d.params.defaults=[]) (hlen:r.args.length=ps.length) (hr:fT k callerA)
 (hY:∀ (w:World) (h:Heap),YP w h->(K w.params).In h)
 (F:∀ (w:World) (mg:Str->Option Value) (fa:Addr) (h:Heap),YP w h->(K w.params).In h->h.Ns mainGlobals mg->mg d.name=some (.ref fa)->
  ∃ fd:FuncData,(∀ (s:Shared) (us:List Value),us.length=ps.length->BindsTo s fd ⟨us,[]⟩ (ps.zip us))/\
   ∀ base:Heap,(K w.params).In base->base.Ns mainGlobals mg->nt r.prog w (K w.params) mg base (CX w) k fa fd ps (sp w))
 (Kv:∀ (w:World) (H:Hp) (xs:List V) (a:Codec.denoteAll r.args),CF H->Codec.withinAll r.args a=true->Codec.app r.args r.asked a=true->oh (K w.params) H xs (Codec.encAll r.args a)->
  sp w xs H (fun v H'=>Dw (K w.params) H' v (r.ret.enc (Codec.app r.args r.f a))) fun _ _ _=>False)
 (Pb:∀ (w:World) (H:Hp) (s:Shared) (e:Value) (s':Shared),CX w [] H s (fun _ _ _=>False) e s'->False) :
 PySem.W.WalkOS q loose XP YP r d [] (fun f vs=>PySem.call f vs):=by
 intro w zT s₁ mg mb G Y fa o pm cd doc dV kV ho hd hcd hD hmg hg args vals as hpre hlay hrd hwl hlo;obtain ⟨a,e1,e2⟩:=PySem.W.os_pre_some hpre;obtain ⟨e3,hwi⟩:=Codec.encAll_of_decAll r.args args a e1;subst e3;have KX:=hY w _ Y;obtain ⟨fd,hb,hF⟩:=F w mg fa _ Y KX G.T.g hmg;refine PySem.W.enter_call (codeAny_mono (G3 (R:=[]) (cl:=classAt zT.heap) (d0:=r.ret.enc (Codec.app r.args r.f a)) KX G.T.g G.T.b G.T.builtins G.T.nolimit (G.T.seer himp) CI hg hwl (Ae _ _) (xA hlay) hr hF hb (by rw [xB];exact hlen)
  (fun H xs hO hS=>Kv w H xs a hO hwi e2 hS) fun H e s'=>Pb w H s₁ e s') fun r' s' hq=>?_)
 obtain ⟨u,as',rfl,h1,h2,h3,h4⟩:=hq;exact ⟨.inl ⟨u,_,as',rfl,fun _=>rfl,h1,(OpenSpec.post_iff Jd hwi _ _).mpr rfl,fun z=>Bool.noConfusion (show false=true from z)⟩,h2,h3,h4⟩
theorem Eh{r:OpenSpec}{k:Nat}{q:Program}{loose:List Str}{XP:(Str->Option Value)->Heap->Prop}{YP:World->Heap->Prop}{d:DefRec}{K:Params->PySem.W.Frag}{CX:Ig}{ps:List Str}{sp:PySem.W.Frag->Sp}
 (Jd:r.wellSaid=true) (himp:importsNone q=true) (CI:r.prog.given.tree=none) (hdf:d.params.defaults=[]) (hlen:r.args.length=ps.length) (hr:fT k callerA)
 (hY:∀ (w:World) (h:Heap),YP w h->(K w.params).In h)
 (F:∀ (w:World) (mg:Str->Option Value) (fa:Addr) (h:Heap),YP w h->(K w.params).In h->h.Ns mainGlobals mg->mg d.name=some (.ref fa)->
  ∃ fd:FuncData,(∀ (s:Shared) (us:List Value),us.length=ps.length->BindsTo s fd ⟨us,[]⟩ (ps.zip us))/\
   ∀ base:Heap,(K w.params).In base->base.Ns mainGlobals mg->nt r.prog w (K w.params) mg base CX k fa fd ps (sp (K w.params)))
 (Kv:∀ (K:PySem.W.Frag) (H:Hp) (xs:List V) (a:Codec.denoteAll r.args),CF H->Codec.withinAll r.args a=true->Codec.app r.args r.asked a=true->oh K H xs (Codec.encAll r.args a)->
  sp K xs H (fun v H'=>Dw K H' v (r.ret.enc (Codec.app r.args r.f a))) fun _ _ _=>False)
 (Pb:∀ (H:Hp) (s:Shared) (e:Value) (s':Shared),CX [] H s (fun _ _ _=>False) e s'->False) :
 PySem.W.WalkOS q loose XP YP r d [] (fun f vs=>PySem.call f vs):=
 G4 (K:=K) (CX:=fun _=>CX) (sp:=fun w=>sp (K w.params)) Jd himp CI hdf hlen hr hY F (fun w H xs a h1 h2 h3 h4=>Kv (K w.params) H xs a h1 h2 h3 h4) fun _ H s e s'=>Pb H s e s'
end L2
end
namespace L2
open PySem PySem.Spec PyProof.Rows
noncomputable def inClass(s:Stmt)(j:Nat):Stmt:=match s with
 |.ClassDef _ _ _ body _ _ _ _ _ _ _=>body.getD j (.Pass ⟨0,0,0,0⟩)
 |_=>.Pass ⟨0,0,0,0⟩
noncomputable def lE(s:Stmt):Arguments:=match s with
 |.FunctionDef _ a _ _ _ _ _ _ _ _=>a
 |_=>{posonlyargs:=[],args:=[],vararg:=none,kwonlyargs:=[],kw_defaults:=[],kwarg:=none,defaults:=[]}
noncomputable def gK(s:Stmt):List Stmt:=match s with
 |.FunctionDef _ _ b _ _ _ _ _ _ _=>b
 |_=>[]
noncomputable def aB(s:Stmt):Scope:=match s with
 |.FunctionDef _ _ _ _ _ _ sc _ _ _=>sc
 |_=>{kind:=.function,names:=[],isGenerator:=false,isCoroutine:=false}
noncomputable abbrev Ih:Ig:=fun _ _ _ _ _ _=>False
noncomputable abbrev E0:XK:=fun _ _ _=>False
theorem F7{X:Cx}:Passes Ih X E0:=fun _ _ _ _ _ _ _ h=>h.elim
structure Ky(K:PySem.W.Frag)(x qual:Str)(st:Stmt)(f:Addr)(fd:FuncData):Prop where
 ex:∃ (oc:Value) (od:Option Addr) (kV doc pm:Value) (an:Option Addr) (cdv ct:Value) (osl:Array (Option Value)),
  fd=PySem.W.fnOf x qual (lE st) (gK st) (aB st) .none kV doc pm an cdv ct/\K.lookup f=some ⟨oc,od,.func fd,osl⟩/\PySem.W.codeIn K cdv qual=true
 kp:PySem.W.keepIn K (.ref f)=true
section
variable {P:Program}{w:World}{K:PySem.W.Frag}{mg:Str->Option Value}{base:Heap}
theorem Ky.ok{x qual:Str}{st:Stmt}{f:Addr}{fd:FuncData}{N ps:List Str}{k:Nat}{sp:Sp}(F:Ky K x qual st f fd)(S:aK N ps (aB st))(len:∀ vs H Q E,sp vs H Q E->vs.length=ps.length)
 (hbody:∀ (cdv:Value) (A:Around) (outer:List Env) (s:Shared) (H:Hp) (vs:List V) (Q:VK) (E:XK),fT k (A.deeper (envOfC qual (aB st) s.heap.objs.size f cdv))->sp vs H Q E->
  ∃ t,Cm (A1 Ih P w K mg base N qual (aB st) f cdv A outer s H E).MN (gK st) t/\t {nx:=fun _ H'=>Q .non H',rt:=Q} (start N vs) H):nt P w K mg base Ih (k+1) f fd ps sp:=by
 obtain ⟨oc,od,kV,doc,pm,an,cdv,ct,osl,rfl,lk,hcd⟩:=F.ex;refine OW lk hcd S len fun A outer s H vs Q E hr Kv=>?_;obtain ⟨t,h,q⟩:=hbody cdv A outer s H vs Q E hr Kv;exact ⟨t,h.MN,q⟩
theorem Ky.binds{x qual:Str}{st:Stmt}{f:Addr}{fd:FuncData}{ps:List Str}(F:Ky K x qual st f fd)
 (h:∀ (kV doc pm:Value) (an:Option Addr) (cdv ct:Value) (us:List Value),us.length=ps.length->bindArgs (PySem.W.fnOf x qual (lE st) (gK st) (aB st) .none kV doc pm an cdv ct) ⟨us,[]⟩=pure (ps.zip us)):Binds K fd ps []:=by
 obtain ⟨oc,od,kV,doc,pm,an,cdv,ct,osl,rfl,lk,hcd⟩:=F.ex;exact .all (h kV doc pm an cdv ct)
theorem Ei{x qual:Str}{st:Stmt}{f:Addr}{oc:Value}{od an:Option Addr}{osl:Array (Option Value)}{kV doc pm cdv ct:Value}(l:K.lookup f=some ⟨oc,od,.func (PySem.W.fnOf x qual (lE st) (gK st) (aB st) .none kV doc pm an cdv ct),osl⟩)
 (c:PySem.W.codeIn K cdv qual=true) (k:PySem.W.keepIn K (.ref f)=true):Ky K x qual st f (PySem.W.fnOf x qual (lE st) (gK st) (aB st) .none kV doc pm an cdv ct):=⟨⟨oc,od,kV,doc,pm,an,cdv,ct,osl,rfl,l,c⟩,k⟩
end
theorem Je{A:Around}{k:Nat}(hr:fT k A):A.units+1<cLine:=Nat.lt_of_le_of_lt (Nat.add_le_add_left (by decide:1<=64) _) hr.units
section
variable {X:Cx}
theorem pv(i:Nat){x:Str}{pos:Pos}(hN:X.N[i]?=some x:=by rfl)(hv:Ob X.env.scope x:=by first|exact Or.inl rfl|exact Or.inr (Or.inl rfl)|exact Or.inr (Or.inr rfl))(hd:(x == ("__debug__":Str))=false:=by decide)
 (hcd:(x == ("__classdict__":Str))=false:=by decide):PE X (.Name x pos) (KG i):=MJ hN hv hd hcd
end
theorem aQ{A B:Prop}(h:B):if false=true then A else B:=by
 rw [if_neg Bool.false_ne_true];exact h
theorem aW{A B:Prop}(h:A):if true=true then A else B:=by
 rw [if_pos rfl];exact h
theorem ny{c A B:Prop}[Decidable c](h1:c->A)(h2:¬ c->B):if c then A else B:=by
 by_cases h:c
 . rw [if_pos h];exact h1 h
 . rw [if_neg h];exact h2 h
noncomputable def aH(H H':Hp):Prop:=∀ b o,H b=some o->H' b=some o
theorem aH.refl(H:Hp):aH H H:=fun _ _ h=>h
theorem aH.trans{H H1 H2:Hp}(a:aH H H1)(b:aH H1 H2):aH H H2:=fun c o h=>b c o (a c o h)
theorem aH.free{H H':Hp}(e:aH H H'){l:Addr}(h:H' l=Option.none):H l=Option.none:=by
 cases q:H l with
 |none=>rfl
 |
  some o=>
  rw [e l o q] at h;cases h
section
variable {κ:Type}[DecidableEq κ]
theorem Jf{kvs:List (κ × V)}{k:κ}(h:iV kvs k=none):¬ k∈kvs.map (·.1):=by
 intro m;obtain ⟨p,hp,e⟩:=List.mem_map.mp m;have q:(kvs.any fun kv=>decide (kv.1=k))=true:=List.any_eq_true.mpr ⟨p,hp,decide_eq_true e⟩;rw [j7,h] at q;exact absurd q (by simp)
end
theorem at_of{xs:List V}{z:Int}{j:Nat}{v:V}(e:z=(j:Int))(h:xs[j]?=some v):Mf xs z=some v:=by
 rw [e];exact KW h
end L2
namespace Ex
open Vagraa (Frac)
noncomputable def F(q:Rat):Frac:=⟨q.num,q.den⟩
theorem Pd{p q:Rat}(h:F p=F q):p=q:=by
 have h1:=congrArg Frac.num h;have h2:=congrArg Frac.den h;exact Rat.ext h1 h2
theorem j0(n:Int){d:Nat}(h:d≠0):(mkRat n d).num=n / (Nat.gcd n.natAbs d:Nat):=by
 simp only [mkRat,h,dite_false,Rat.normalize_eq,Rat.normalize];simp [Rat.maybeNormalize_eq]
theorem iW(n:Int){d:Nat}(h:d≠0):(mkRat n d).den=d / Nat.gcd n.natAbs d:=by
 simp only [mkRat,h,dite_false,Rat.normalize_eq,Rat.normalize];simp [Rat.maybeNormalize_eq]
theorem jS(n:Int)(d:Nat):Vagraa.frac n d=F (mkRat n d):=by
 unfold Vagraa.frac F;by_cases h:d=0
 . subst h;rfl
 . rw [if_neg h,j0 n h,iW n h]
theorem sL(p q:Rat):Vagraa.add (F p) (F q)=F (p+q):=by
 show Vagraa.frac (p.num*q.den+q.num*p.den) (p.den*q.den)=_;rw [jS,Rat.add_def']
theorem Jg(p:Rat):Vagraa.neg (F p)=F (-p):=rfl
theorem CJ(p q:Rat):Vagraa.sub (F p) (F q)=F (p-q):=by
 show Vagraa.add (F p) (Vagraa.neg (F q))=_;rw [Jg,sL,Rat.sub_eq_add_neg]
theorem qG(p q:Rat):Vagraa.mul (F p) (F q)=F (p*q):=by
 show Vagraa.frac (p.num*q.num) (p.den*q.den)=_;rw [jS,Rat.mul_def,Rat.normalize_eq_mkRat]
theorem Pe(p:Rat):Vagraa.inv (F p)=F p⁻¹:=by
 show (if p.num<0 then (⟨-(p.den:Int),p.num.natAbs⟩:Frac) else if p.num=0 then Vagraa.zero else ⟨p.den,p.num.natAbs⟩)=_;have e:p⁻¹=Rat.inv p:=rfl;rw [e];unfold Rat.inv F;by_cases h:p.num<0
 . rw [if_pos h,dif_pos h]
 . rw [if_neg h,dif_neg h];by_cases h0:p.num=0
   . rw [if_pos h0,dif_neg (by omega)];have:p=0:=Rat.num_eq_zero.mp h0;subst this;rfl
   . rw [if_neg h0,dif_pos (by omega)]
theorem Jh(p q:Rat):Vagraa.div (F p) (F q)=F (p / q):=by
 show Vagraa.mul (F p) (Vagraa.inv (F q))=_;rw [Pe,qG,Rat.div_def]
theorem R9(p q:Rat):Vagraa.lt (F p) (F q)=decide (p<q):=by
 unfold Vagraa.lt;exact decide_eq_decide.mpr (Rat.lt_iff p q).symm
theorem CK(p:Rat):Vagraa.isZero (F p)=decide (p=0):=by
 unfold Vagraa.isZero;exact decide_eq_decide.mpr Rat.num_eq_zero
theorem CL(p q:Rat) :
 (p+q).num=(p.num*((q.den / Nat.gcd p.den q.den:Nat):Int)+q.num*((p.den / Nat.gcd p.den q.den:Nat):Int)) / (Nat.gcd (p.num*((q.den / Nat.gcd p.den q.den:Nat):Int)+q.num*((p.den / Nat.gcd p.den q.den:Nat):Int)).natAbs (Nat.gcd p.den q.den):Nat)/\
 (p+q).den=(p.den / Nat.gcd p.den q.den)*(q.den / Nat.gcd (p.num*((q.den / Nat.gcd p.den q.den:Nat):Int)+q.num*((p.den / Nat.gcd p.den q.den:Nat):Int)).natAbs (Nat.gcd p.den q.den)):=by
 generalize hs:Nat.gcd p.den q.den=s;have hp:0<p.den:=p.den_pos;have hq:0<q.den:=q.den_pos;have hs0:0<s:=by rw [<-hs];exact Nat.gcd_pos_of_pos_left _ hp
 obtain ⟨a,ha⟩:s∣p.den:=by rw [<-hs];exact Nat.gcd_dvd_left _ _
 obtain ⟨b,hb⟩:s∣q.den:=by rw [<-hs];exact Nat.gcd_dvd_right _ _
 have ea:p.den / s=a:=by rw [ha,Nat.mul_div_cancel_left _ hs0]
 have eb:q.den / s=b:=by rw [hb,Nat.mul_div_cancel_left _ hs0]
 rw [ea,eb];have e:p+q=mkRat (p.num*b+q.num*a) (a*q.den):=by
  rw [Rat.add_def'];have h1:p.num*(q.den:Int)+q.num*(p.den:Int)=(p.num*b+q.num*a)*s:=by
   rw [ha,hb];push_cast;grind
  have h2:p.den*q.den=(a*q.den)*s:=by rw [ha];grind
  rw [h1,h2,Rat.mkRat_mul_right (by omega)]
 have ad:a≠0:=by intro h;subst h;omega
 have hne:a*q.den≠0:=Nat.mul_ne_zero ad (by omega);have key:Nat.gcd (p.num*(b:Int)+q.num*(a:Int)).natAbs (a*q.den)=Nat.gcd (p.num*(b:Int)+q.num*(a:Int)).natAbs s:=by
  have:=Rat.add.aux p q (g:=s) (ad:=a) (bd:=b) hs.symm ea.symm eb.symm;exact this.symm
 rw [e,j0 _ hne,iW _ hne,key];refine ⟨rfl,?_⟩;apply Nat.mul_div_assoc;exact Nat.dvd_trans (Nat.gcd_dvd_right _ _) ⟨b,hb⟩
theorem vF(p q:Rat) :
 (p*q).num=(p.num / (Nat.gcd p.num.natAbs q.den:Nat))*(q.num / (Nat.gcd q.num.natAbs p.den:Nat))/\
 (p*q).den=(p.den / Nat.gcd q.num.natAbs p.den)*(q.den / Nat.gcd p.num.natAbs q.den):=by
 have e:p*q=Rat.mul p q:=rfl;rw [e];unfold Rat.mul;simp only [Int.divExact_eq_ediv,Nat.divExact_eq_div];exact ⟨trivial,trivial⟩
noncomputable def wt(q:Rat):Nat:=Vagraa.weight (F q)
end Ex
namespace Ex
noncomputable def fS(a b:Nat->Int)(p q:Nat):Int:=a p*b q-a q*b p
noncomputable def dR(a b c:Nat->Int)(p q r:Nat):Int:=c r*fS a b p q-c q*fS a b p r+c p*fS a b q r
noncomputable def mZ(a b c e:Nat->Int)(p q r s:Nat):Int:=e s*dR a b c p q r-e r*dR a b c p q s+e q*dR a b c p r s-e p*dR a b c q r s
theorem U7(a b:Nat->Int)(p q j:Nat):a p*fS a b j q=fS a b p q*a j-a q*fS a b p j:=by
 unfold fS;grind
theorem R_(a b c:Nat->Int)(p q r j:Nat):fS a b p q*dR a b c j q r=dR a b c p q r*fS a b j q-fS a b r q*dR a b c p q j:=by
 unfold dR fS;grind
theorem Sa(a b c:Nat->Int)(p q r j:Nat):fS a b p q*dR a b c p j r=dR a b c p q r*fS a b p j-fS a b p r*dR a b c p q j:=by
 unfold dR fS;grind
theorem Sb(a b c e:Nat->Int)(p q r s j:Nat):dR a b c p q r*mZ a b c e j q r s=mZ a b c e p q r s*dR a b c j q r-dR a b c s q r*mZ a b c e p q r j:=by
 unfold mZ dR fS;generalize a p=ap,a q=aq,a r=ar,a s=as,a j=aj,b p=bp,b q=bq,b r=br,b s=bs,b j=bj,c p=cp,c q=cq,c r=cr,c s=cs,c j=cj,e p=ep,e q=eq,e r=er,e s=es,e j=ej
 grind
theorem Sd(a b c e:Nat->Int)(p q r s j:Nat):dR a b c p q r*mZ a b c e p j r s=mZ a b c e p q r s*dR a b c p j r-dR a b c p s r*mZ a b c e p q r j:=by
 unfold mZ dR fS;generalize a p=ap,a q=aq,a r=ar,a s=as,a j=aj,b p=bp,b q=bq,b r=br,b s=bs,b j=bj,c p=cp,c q=cq,c r=cr,c s=cs,c j=cj,e p=ep,e q=eq,e r=er,e s=es,e j=ej
 grind
theorem Se(a b c e:Nat->Int)(p q r s j:Nat):dR a b c p q r*mZ a b c e p q j s=mZ a b c e p q r s*dR a b c p q j-dR a b c p q s*mZ a b c e p q r j:=by
 unfold mZ dR fS;generalize a p=ap,a q=aq,a r=ar,a s=as,a j=aj,b p=bp,b q=bq,b r=br,b s=bs,b j=bj,c p=cp,c q=cq,c r=cr,c s=cs,c j=cj,e p=ep,e q=eq,e r=er,e s=es,e j=ej
 grind
noncomputable def cD(k p i:Nat):Nat:=if i=k then p else if i=p then k else i
noncomputable def bJ(M:Nat->Nat->Int)(k p c:Nat)(d:Int)(i j:Nat):Int:=
 if i=k then M p j else (M p c*M (cD k p i) j-M (cD k p i) c*M p j).fdiv d
noncomputable def Good(M A:Nat->Nat->Int)(d:Int):List Nat->Prop
 |[]=>d=1/\∀ i j,M i j=A i j
 |[p]=>d=A 0 p/\(∀ j,M 0 j=A 0 j)/\∀ i j,1<=i->M i j=d*A i j-A i p*A 0 j
 |[p,q]=>d=fS (A 0) (A 1) p q/\(∀ j,M 0 j=fS (A 0) (A 1) j q)/\(∀ j,M 1 j=fS (A 0) (A 1) p j)/\
  ∀ i j,2<=i->M i j=d*A i j-A i p*fS (A 0) (A 1) j q-A i q*fS (A 0) (A 1) p j
 |[p,q,r]=>d=dR (A 0) (A 1) (A 2) p q r/\(∀ j,M 0 j=dR (A 0) (A 1) (A 2) j q r)/\(∀ j,M 1 j=dR (A 0) (A 1) (A 2) p j r)/\(∀ j,M 2 j=dR (A 0) (A 1) (A 2) p q j)/\
  ∀ i j,3<=i->M i j=d*A i j-A i p*dR (A 0) (A 1) (A 2) j q r-A i q*dR (A 0) (A 1) (A 2) p j r-A i r*dR (A 0) (A 1) (A 2) p q j
 |_=>True
theorem jT{x d y:Int}(hd:d≠0)(h:d*y=x):x.fdiv d=y/\d*x.fdiv d=x:=by
 have e:x.fdiv d=y:=by
  rw [<-h,Int.fdiv_eq_ediv_of_dvd (Int.dvd_mul_right d y),Int.mul_ediv_cancel_left _ hd]
 exact ⟨e,by rw [e];exact h⟩
theorem Ah{M A:Nat->Nat->Int}{d:Int}{cs:List Nat}{p c:Nat}(G:Good M A d cs)(hk:cs.length<=3)(hp:cs.length<=p)(hd:d≠0) :
 Good (bJ M cs.length p c d) (fun i=>A (cD cs.length p i)) (M p c) (cs++[c])/\
 ∀ i j,i≠cs.length->d*bJ M cs.length p c d i j=M p c*M (cD cs.length p i) j-M (cD cs.length p i) c*M p j:=by
 match cs,G,hk,hp with
 |
  [],⟨hd1,g⟩,_,hp=>
  subst hd1;have ex:∀ i j,i≠0->bJ M 0 p c 1 i j=M p c*M (cD 0 p i) j-M (cD 0 p i) c*M p j:=fun i j hi=>by
   unfold bJ;rw [if_neg hi,Int.fdiv_one]
  refine ⟨⟨?_,?_,?_⟩,?_⟩
  . show M p c=A (cD 0 p 0) c;rw [g];rfl
  . intro j;show bJ M 0 p c 1 0 j=A (cD 0 p 0) j;unfold bJ;rw [if_pos rfl,g];rfl
  . intro i j hi;show bJ M 0 p c 1 i j=M p c*A (cD 0 p i) j-A (cD 0 p i) c*A (cD 0 p 0) j;rw [ex i j (by omega),g,g,g,g];rfl
  . intro i j hi;show 1*bJ M 0 p c 1 i j=M p c*M (cD 0 p i) j-M (cD 0 p i) c*M p j;rw [ex i j hi,Int.one_mul]
 |
  [q],⟨hd1,g0,g⟩,_,hp=>
  have hp:1<=p:=hp;have s0:cD 1 p 0=0:=by unfold cD;rw [if_neg (by omega),if_neg (by omega)]
  have s1:cD 1 p 1=p:=by unfold cD;rw [if_pos rfl]
  have sg:∀ i,2<=i->1<=cD 1 p i:=fun i hi=>by unfold cD;rw [if_neg (by omega)];split<;>omega
  have hM:∀ j,M p j=fS (A 0) (A p) q j:=fun j=>by rw [g p j hp,hd1];unfold fS;grind
  have e0:∀ j,bJ M 1 p c d 0 j=fS (A 0) (A p) j c/\d*bJ M 1 p c d 0 j=M p c*M 0 j-M 0 c*M p j:=fun j=>by
   unfold bJ;rw [if_neg (by omega),s0];refine jT hd ?_;rw [hM,hM,g0,g0,hd1];exact U7 _ _ _ _ _
  have ei:∀ i j,2<=i->bJ M 1 p c d i j=M p c*A (cD 1 p i) j-A (cD 1 p i) q*fS (A 0) (A p) j c-A (cD 1 p i) c*fS (A 0) (A p) q j/\d*bJ M 1 p c d i j=M p c*M (cD 1 p i) j-M (cD 1 p i) c*M p j:=fun i j hi=>by
   unfold bJ;rw [if_neg (by omega)];refine jT hd ?_;rw [g _ j (sg i hi),g _ c (sg i hi),hM,hM,hd1];generalize A (cD 1 p i)=X;unfold fS;grind
  refine ⟨⟨?_,?_,?_,?_⟩,?_⟩
  . show M p c=fS (A (cD 1 p 0)) (A (cD 1 p 1)) q c;rw [s0,s1,hM]
  . intro j;show bJ M 1 p c d 0 j=fS (A (cD 1 p 0)) (A (cD 1 p 1)) j c;rw [s0,s1,(e0 j).1]
  . intro j;show bJ M 1 p c d 1 j=fS (A (cD 1 p 0)) (A (cD 1 p 1)) q j;rw [s0,s1];unfold bJ;rw [if_pos rfl,hM]
  . intro i j hi;show bJ M 1 p c d i j=M p c*A (cD 1 p i) j-A (cD 1 p i) q*fS (A (cD 1 p 0)) (A (cD 1 p 1)) j c-A (cD 1 p i) c*fS (A (cD 1 p 0)) (A (cD 1 p 1)) q j;rw [s0,s1,(ei i j hi).1]
  . intro i j hi;show d*bJ M 1 p c d i j=M p c*M (cD 1 p i) j-M (cD 1 p i) c*M p j;by_cases h0:i=0
    . subst h0;rw [(e0 j).2,s0]
    . exact (ei i j (by have:i≠1:=hi;omega)).2
 |
  [q,r],⟨hd1,g0,g1,g⟩,_,hp=>
  have hp:2<=p:=hp;have s0:cD 2 p 0=0:=by unfold cD;rw [if_neg (by omega),if_neg (by omega)]
  have s1:cD 2 p 1=1:=by unfold cD;rw [if_neg (by omega),if_neg (by omega)]
  have s2:cD 2 p 2=p:=by unfold cD;rw [if_pos rfl]
  have sg:∀ i,3<=i->2<=cD 2 p i:=fun i hi=>by unfold cD;rw [if_neg (by omega)];split<;>omega
  have hM:∀ j,M p j=dR (A 0) (A 1) (A p) q r j:=fun j=>by rw [g p j hp,hd1];unfold dR fS;grind
  have e0:∀ j,bJ M 2 p c d 0 j=dR (A 0) (A 1) (A p) j r c/\d*bJ M 2 p c d 0 j=M p c*M 0 j-M 0 c*M p j:=fun j=>by
   unfold bJ;rw [if_neg (by omega),s0];refine jT hd ?_;rw [hM,hM,g0,g0,hd1];exact R_ _ _ _ _ _ _ _
  have e1:∀ j,bJ M 2 p c d 1 j=dR (A 0) (A 1) (A p) q j c/\d*bJ M 2 p c d 1 j=M p c*M 1 j-M 1 c*M p j:=fun j=>by
   unfold bJ;rw [if_neg (by omega),s1];refine jT hd ?_;rw [hM,hM,g1,g1,hd1];exact Sa _ _ _ _ _ _ _
  have ei:∀ i j,3<=i->bJ M 2 p c d i j=M p c*A (cD 2 p i) j-A (cD 2 p i) q*dR (A 0) (A 1) (A p) j r c-A (cD 2 p i) r*dR (A 0) (A 1) (A p) q j c-A (cD 2 p i) c*dR (A 0) (A 1) (A p) q r j/\d*bJ M 2 p c d i j=M p c*M (cD 2 p i) j-M (cD 2 p i) c*M p j:=fun i j hi=>by
   unfold bJ;rw [if_neg (by omega)];refine jT hd ?_;have h0:=(e0 j).2;rw [(e0 j).1,g0,g0] at h0;have h1:=(e1 j).2;rw [(e1 j).1,g1,g1] at h1;rw [g _ j (sg i hi),g _ c (sg i hi)];rw [hM j] at *;generalize A (cD 2 p i)=X at *;generalize M p c=Y at *
   grind
  refine ⟨⟨?_,?_,?_,?_,?_⟩,?_⟩
  . show M p c=dR (A (cD 2 p 0)) (A (cD 2 p 1)) (A (cD 2 p 2)) q r c;rw [s0,s1,s2,hM]
  . intro j;show bJ M 2 p c d 0 j=dR (A (cD 2 p 0)) (A (cD 2 p 1)) (A (cD 2 p 2)) j r c;rw [s0,s1,s2,(e0 j).1]
  . intro j;show bJ M 2 p c d 1 j=dR (A (cD 2 p 0)) (A (cD 2 p 1)) (A (cD 2 p 2)) q j c;rw [s0,s1,s2,(e1 j).1]
  . intro j;show bJ M 2 p c d 2 j=dR (A (cD 2 p 0)) (A (cD 2 p 1)) (A (cD 2 p 2)) q r j;rw [s0,s1,s2];unfold bJ;rw [if_pos rfl,hM]
  . intro i j hi;show bJ M 2 p c d i j=M p c*A (cD 2 p i) j-A (cD 2 p i) q*dR (A (cD 2 p 0)) (A (cD 2 p 1)) (A (cD 2 p 2)) j r c-A (cD 2 p i) r*dR (A (cD 2 p 0)) (A (cD 2 p 1)) (A (cD 2 p 2)) q j c-A (cD 2 p i) c*dR (A (cD 2 p 0)) (A (cD 2 p 1)) (A (cD 2 p 2)) q r j;rw [s0,s1,s2,(ei i j hi).1]
  . intro i j hi;show d*bJ M 2 p c d i j=M p c*M (cD 2 p i) j-M (cD 2 p i) c*M p j;by_cases h0:i=0
    . subst h0;rw [(e0 j).2,s0]
    . by_cases h1:i=1
      . subst h1;rw [(e1 j).2,s1]
      . exact (ei i j (by have:i≠2:=hi;omega)).2
 |
  [q,r,t],⟨hd1,g0,g1,g2,g⟩,_,hp=>
  have hp:3<=p:=hp;have s0:cD 3 p 0=0:=by unfold cD;rw [if_neg (by omega),if_neg (by omega)]
  have s1:cD 3 p 1=1:=by unfold cD;rw [if_neg (by omega),if_neg (by omega)]
  have s2:cD 3 p 2=2:=by unfold cD;rw [if_neg (by omega),if_neg (by omega)]
  have sg:∀ i,4<=i->3<=cD 3 p i:=fun i hi=>by unfold cD;rw [if_neg (by omega)];split<;>omega
  have hM:∀ j,M p j=mZ (A 0) (A 1) (A 2) (A p) q r t j:=fun j=>by rw [g p j hp,hd1];unfold mZ dR fS;grind
  have e0:∀ j,bJ M 3 p c d 0 j=mZ (A 0) (A 1) (A 2) (A p) j r t c/\d*bJ M 3 p c d 0 j=M p c*M 0 j-M 0 c*M p j:=fun j=>by
   unfold bJ;rw [if_neg (by omega),s0];refine jT hd ?_;rw [hM,hM,g0,g0,hd1];exact Sb _ _ _ _ _ _ _ _ _
  have e1:∀ j,bJ M 3 p c d 1 j=mZ (A 0) (A 1) (A 2) (A p) q j t c/\d*bJ M 3 p c d 1 j=M p c*M 1 j-M 1 c*M p j:=fun j=>by
   unfold bJ;rw [if_neg (by omega),s1];refine jT hd ?_;rw [hM,hM,g1,g1,hd1];exact Sd _ _ _ _ _ _ _ _ _
  have e2:∀ j,bJ M 3 p c d 2 j=mZ (A 0) (A 1) (A 2) (A p) q r j c/\d*bJ M 3 p c d 2 j=M p c*M 2 j-M 2 c*M p j:=fun j=>by
   unfold bJ;rw [if_neg (by omega),s2];refine jT hd ?_;rw [hM,hM,g2,g2,hd1];exact Se _ _ _ _ _ _ _ _ _
  have ei:∀ i j,4<=i->d*bJ M 3 p c d i j=M p c*M (cD 3 p i) j-M (cD 3 p i) c*M p j:=fun i j hi=>by
   unfold bJ;rw [if_neg (by omega)];have h0:=(e0 j).2;rw [(e0 j).1,g0,g0] at h0;have h1:=(e1 j).2;rw [(e1 j).1,g1,g1] at h1;have h2:=(e2 j).2;rw [(e2 j).1,g2,g2] at h2;refine (jT (y:=M p c*A (cD 3 p i) j-A (cD 3 p i) q*mZ (A 0) (A 1) (A 2) (A p) j r t c-A (cD 3 p i) r*mZ (A 0) (A 1) (A 2) (A p) q j t c-A (cD 3 p i) t*mZ (A 0) (A 1) (A 2) (A p) q r j c-A (cD 3 p i) c*M p j) hd ?_).2;rw [g _ j (sg i hi),g _ c (sg i hi)];generalize A (cD 3 p i)=X at *;generalize M p c=Y at *
   grind
  refine ⟨trivial,?_⟩;intro i j hi;show d*bJ M 3 p c d i j=M p c*M (cD 3 p i) j-M (cD 3 p i) c*M p j;by_cases h0:i=0
  . subst h0;rw [(e0 j).2,s0]
  . by_cases h1:i=1
    . subst h1;rw [(e1 j).2,s1]
    . by_cases h2:i=2
      . subst h2;rw [(e2 j).2,s2]
      . exact ei i j (by have:i≠3:=hi;omega)
end Ex
namespace Ex
open Vagraa (Frac)
open Vagram (Mat)
theorem Ba{a:Rat}(h:a≠0):a / a=1:=by grind
theorem sN(a:Rat):0 / a=0:=by rw [Rat.div_def,Rat.zero_mul]
theorem j8{α:Type}(f:Nat->α)(n i:Nat)(d:α):((List.range n).map f).getD i d=if i<n then f i else d:=by
 rw [List.getD_eq_getElem?_getD,List.getElem?_map];by_cases h:i<n
 . rw [List.getElem?_range h,if_pos h];rfl
 . rw [List.getElem?_eq_none (by rw [List.length_range];omega),if_neg h];rfl
theorem Ji{m n:Nat}{f:Nat->Nat->Frac}{i j:Nat}(hi:i<m)(hj:j<n):(Vagram.make m n f).get i j=f i j:=by
 unfold Vagram.make Mat.get VagraLine.at_;simp only [j8,if_pos hi,if_pos hj]
theorem fh{m n:Nat}{f f':Nat->Nat->Frac}(h:∀ i,i<m->∀ j,j<n->f i j=f' i j):Vagram.make m n f=Vagram.make m n f':=by
 unfold Vagram.make;congr 1;apply List.map_congr_left;intro i hi;apply List.map_congr_left;intro j hj;exact h i (List.mem_range.mp hi) j (List.mem_range.mp hj)
noncomputable def cM(m n:Nat)(g:Nat->Nat->Rat):Mat:=Vagram.make m n fun i j=>F (g i j)
theorem dJ{m n:Nat}{g:Nat->Nat->Rat}{i j:Nat}(hi:i<m)(hj:j<n):(cM m n g).get i j=F (g i j):=Ji hi hj
theorem qt(m n:Nat)(g:Nat->Nat->Rat):(cM m n g).cols=n:=rfl
theorem xC{m n:Nat}{g g':Nat->Nat->Rat}(h:∀ i,i<m->∀ j,j<n->g i j=g' i j):cM m n g=cM m n g':=
 fh fun i hi j hj=>by rw [h i hi j hj]
noncomputable def eV(g:Nat->Nat->Rat)(r s:Nat):Nat->Nat->Rat:=fun i j=>g (cD r s i) j
noncomputable def dM(g:Nat->Nat->Rat)(r c:Nat):Nat->Nat->Rat:=fun i j=>if i=r then g r j / g r c else g i j-g i c*(g r j / g r c)
noncomputable def iX(m:Nat)(g:Nat->Nat->Rat)(r c:Nat):Option Nat:=(List.range m).find? fun i=>decide (r<=i) && !decide (g i c=0)
noncomputable def bX(m:Nat):Nat->Nat->Nat->(Nat->Nat->Rat)->List Nat->(Nat->Nat->Rat) × List Nat
 |0,_,_,g,ps=>(g,ps)
 |
  f+1,r,c,g,ps=>match iX m g r c with
  |none=>bX m f r (c+1) g ps
  |some i=>bX m f (r+1) (c+1) (dM (eV g r i) r c) (ps++[c])
theorem j3{m:Nat}{g:Nat->Nat->Rat}{r c p:Nat}(h:iX m g r c=some p):p<m/\r<=p/\g p c≠0:=by
 unfold iX at h;have h1:=List.mem_of_find?_eq_some h;have h2:=List.find?_some h;simp only [Bool.and_eq_true,decide_eq_true_eq,Bool.not_eq_true',decide_eq_false_iff_not] at h2;exact ⟨List.mem_range.mp h1,h2.1,h2.2⟩
theorem G5{m:Nat}{g:Nat->Nat->Rat}{r c:Nat}(h:iX m g r c=none):∀ i,r<=i->i<m->g i c=0:=by
 intro i hr hm;unfold iX at h;have:=List.find?_eq_none.mp h i (List.mem_range.mpr hm);simp only [Bool.and_eq_true,decide_eq_true_eq,Bool.not_eq_true',decide_eq_false_iff_not,not_and,Classical.not_not] at this;exact this hr
theorem qU{α:Type}{p q:α->Bool}:∀ (l:List α),(∀ x,x∈l->p x=q x)->l.find? p=l.find? q
 |[],_=>rfl
 |
  a::l,h=>by
  rw [List.find?_cons,List.find?_cons,h a List.mem_cons_self,qU l fun x hx=>h x (List.mem_cons_of_mem _ hx)]
theorem CM{m n:Nat}{g:Nat->Nat->Rat}{r c:Nat}(hc:c<n):Vagram.pivotRow (cM m n g) r c=iX m g r c:=by
 unfold Vagram.pivotRow iX;apply qU;intro i hi;have hi:i<m:=List.mem_range.mp hi;rw [dJ hi hc,CK]
theorem Ej{m n:Nat}{g:Nat->Nat->Rat}{r s:Nat}(hr:r<m)(hs:s<m):Vagram.swapped (cM m n g) r s=cM m n (eV g r s):=by
 show Vagram.make m n _=Vagram.make m n _;apply fh;intro i hi j hj;unfold eV cD;by_cases h1:i=r
 . rw [if_pos h1,if_pos h1,dJ hs hj]
 . rw [if_neg h1,if_neg h1];by_cases h2:i=s
   . rw [if_pos h2,if_pos h2,dJ hr hj]
   . rw [if_neg h2,if_neg h2,dJ hi hj]
theorem Ek{m n:Nat}{g:Nat->Nat->Rat}{r c:Nat}(hr:r<m)(hc:c<n):Vagram.cleared (cM m n g) r c=cM m n (dM g r c):=by
 show Vagram.make m n _=Vagram.make m n _;apply fh;intro i hi j hj;show (if i=r then Vagraa.div ((cM m n g).get r j) ((cM m n g).get r c) else Vagraa.sub ((cM m n g).get i j) (Vagraa.mul ((cM m n g).get i c) (Vagraa.div ((cM m n g).get r j) ((cM m n g).get r c))))=F (dM g r c i j);rw [dJ hr hj,dJ hr hc,dJ hi hj,dJ hi hc,Jh,qG,CJ];unfold dM;split<;>rfl
theorem lW{m n:Nat}:∀ (f r c:Nat) (g:Nat->Nat->Rat) (ps:List Nat),c+f<=n->
 Vagram.reduceFrom f r c (cM m n g) ps=(cM m n (bX m f r c g ps).1,(bX m f r c g ps).2)
 |0,_,_,_,_,_=>rfl
 |
  f+1,r,c,g,ps,h=>by
  unfold Vagram.reduceFrom bX;rw [CM (by omega)];cases e:iX m g r c with
  |none=>exact lW f r (c+1) g ps (by omega)
  |
   some p=>
   obtain ⟨h1,h2,_⟩:=j3 e;dsimp only;rw [Ej (by omega) h1,Ek (by omega) (by omega)];exact lW f (r+1) (c+1) _ _ (by omega)
theorem uy{k p l:Nat}(h:l<k)(hp:k<=p):cD k p l=l:=by
 unfold cD;rw [if_neg (by omega),if_neg (by omega)]
theorem El{k p i:Nat}(h:k<=i)(hp:k<=p):k<=cD k p i:=by
 unfold cD;split
 . exact hp
 . split<;>omega
theorem qV{k p i m:Nat}(hi:i<m)(hk:k<m)(hp:p<m):cD k p i<m:=by
 unfold cD;split
 . exact hp
 . split<;>omega
structure Red(m:Nat)(g:Nat->Nat->Rat)(ps:List Nat)(c:Nat):Prop where
 lead:∀ (l:Nat) (x:Nat),ps[l]?=some x->∀ i,i<m->g i x=if i=l then 1 else 0
 low:∀ i,ps.length<=i->i<m->∀ j,j<c->g i j=0
 few:ps.length<=c
 lt:∀ x,x∈ps->x<c
 rows:ps.length<=m
 nd:ps.Nodup
theorem Red.start{m:Nat}{g:Nat->Nat->Rat}:Red m g [] 0:=
 ⟨fun l x h=>(by simp at h),fun _ _ _ j hj=>absurd hj (Nat.not_lt_zero j),Nat.le_refl 0,fun x h=>(nomatch h),Nat.zero_le _,List.nodup_nil⟩
theorem Red.skip{m:Nat}{g:Nat->Nat->Rat}{ps:List Nat}{c:Nat}(R:Red m g ps c)(h:iX m g ps.length c=none):Red m g ps (c+1):=by
 refine ⟨R.lead,fun i hi hm j hj=>?_,Nat.le_succ_of_le R.few,fun x hx=>Nat.lt_succ_of_lt (R.lt x hx),R.rows,R.nd⟩;by_cases e:j=c
 . subst e;exact G5 h i hi hm
 . exact R.low i hi hm j (by omega)
theorem Red.take{m:Nat}{g:Nat->Nat->Rat}{ps:List Nat}{c p:Nat}(R:Red m g ps c)(h:iX m g ps.length c=some p) :
 Red m (dM (eV g ps.length p) ps.length c) (ps++[c]) (c+1):=by
 obtain ⟨hp,hkp,hne⟩:=j3 h;have hk:ps.length<m:=by omega
 have ek:eV g ps.length p ps.length=g p:=by unfold eV cD;rw [if_pos rfl]
 have Pf:∀ i,i<m->dM (eV g ps.length p) ps.length c i c=if i=ps.length then 1 else 0:=fun i hi=>by
  unfold dM;rw [ek,Ba hne];by_cases hi2:i=ps.length
  . rw [if_pos hi2,if_pos hi2]
  . rw [if_neg hi2,if_neg hi2];grind
 refine ⟨fun l x hx i hi=>?_,fun i hi hm j hj=>?_,?_,fun x hx=>?_,?_,?_⟩
 . by_cases hl:l<ps.length
   . rw [List.getElem?_append_left hl] at hx;have z:g p x=0:=by rw [R.lead l x hx p hp,if_neg (by omega)]
     have e2:dM (eV g ps.length p) ps.length c i x=if i=ps.length then 0 else eV g ps.length p i x:=by
      unfold dM;rw [ek,z,sN];split
      . rfl
      . grind
     rw [e2];by_cases hi2:i=ps.length
     . rw [if_pos hi2,if_neg (by omega)]
     . rw [if_neg hi2];unfold eV;by_cases hil:i<ps.length
       . rw [uy hil hkp];exact R.lead l x hx i hi
       . have h1:=El (k:=ps.length) (p:=p) (i:=i) (by omega) hkp;rw [R.lead l x hx _ (qV hi hk hp),if_neg (by omega),if_neg (by omega)]
   . have hl2:l=ps.length:=by
      have:=(List.getElem?_eq_some_iff.mp hx).1;rw [List.length_append] at this;simp at this;omega
     subst hl2;rw [List.getElem?_append_right (Nat.le_refl _),Nat.sub_self] at hx;have:c=x:=Option.some.inj hx;subst this;exact Pf i hi
 . rw [List.length_append,List.length_singleton] at hi;by_cases e:j=c
   . subst e;rw [Pf i hm,if_neg (by omega)]
   . have z:g p j=0:=R.low p hkp hp j (by omega);have h1:=El (k:=ps.length) (p:=p) (i:=i) (by omega) hkp;unfold dM;rw [ek,z,sN,if_neg (by omega)];unfold eV;rw [R.low _ h1 (qV hm hk hp) j (by omega)]
     grind
 . rw [List.length_append,List.length_singleton];have:=R.few;omega
 . rcases List.mem_append.mp hx with hx|hx
   . exact Nat.lt_succ_of_lt (R.lt x hx)
   . rw [List.mem_singleton.mp hx];exact Nat.lt_succ_self c
 . rw [List.length_append,List.length_singleton];omega
 . rw [List.nodup_append];refine ⟨R.nd,List.nodup_cons.mpr ⟨fun z=>(nomatch z),List.nodup_nil⟩,fun x hx y hy=>?_⟩;rw [List.mem_singleton.mp hy];have:=R.lt x hx;omega
theorem Red.all{m:Nat}:∀ (f c:Nat) (g:Nat->Nat->Rat) (ps:List Nat),Red m g ps c->
 Red m (bX m f ps.length c g ps).1 (bX m f ps.length c g ps).2 (c+f)
 |0,c,g,ps,R=>R
 |
  f+1,c,g,ps,R=>by
  unfold bX;cases e:iX m g ps.length c with
  |
   none=>
   have:=Red.all f (c+1) g ps (R.skip e);rw [show c+(f+1)=c+1+f by omega];exact this
  |
   some p=>
   have:=Red.all f (c+1) _ _ (R.take e);rw [List.length_append,List.length_singleton] at this;rw [show c+(f+1)=c+1+f by omega];exact this
theorem uz{m:Nat}:∀ (f c:Nat) (g:Nat->Nat->Rat) (ps:List Nat),
 bX m (f+1) ps.length c g ps=bX m 1 (bX m f ps.length c g ps).2.length (c+f) (bX m f ps.length c g ps).1 (bX m f ps.length c g ps).2
 |0,c,g,ps=>rfl
 |
  f+1,c,g,ps=>by
  rw [bX]
  conv=>rhs;rw [show bX m (f+1) ps.length c g ps=(match iX m g ps.length c with
   |none=>bX m f ps.length (c+1) g ps
   |some i=>bX m f (ps.length+1) (c+1) (dM (eV g ps.length i) ps.length c) (ps++[c])) from rfl]
  cases e:iX m g ps.length c with
  |
   none=>
   dsimp only;rw [uz f (c+1) g ps,show c+1+f=c+(f+1) by omega]
  |
   some p=>
   dsimp only;have:=uz (m:=m) f (c+1) (dM (eV g ps.length p) ps.length c) (ps++[c]);rw [List.length_append,List.length_singleton] at this;rw [this,show c+1+f=c+(f+1) by omega]
end Ex
namespace Ex
open Vagraa (Frac)
open Vagram (Mat)
noncomputable def wk(m:Nat)(M:Nat->Nat->Int)(r c:Nat):Option Nat:=(List.range m).find? fun i=>decide (r<=i) && !decide (M i c=0)
structure Bare where
 M:Nat->Nat->Int
 ps:List Nat
 d:Int
noncomputable def gw(m:Nat):Nat->Nat->Bare->Bare
 |0,_,X=>X
 |
  f+1,c,X=>match wk m X.M X.ps.length c with
  |none=>gw m f (c+1) X
  |some p=>gw m f (c+1) ⟨bJ X.M X.ps.length p c X.d,X.ps++[c],X.M p c⟩
structure Rel(m w:Nat)(b:Int)(X:Bare)(g:Nat->Nat->Rat):Prop where
 top:∀ l,l<X.ps.length->∀ j,j<w->(X.M l j:Rat)=X.d*g l j
 low:∀ i,X.ps.length<=i->i<m->∀ j,j<w->(X.M i j:Rat)=b*X.d*g i j
 d0:X.d≠0
 b0:b≠0
theorem b_{a:Int}(h:a≠0):(a:Rat)≠0:=fun e=>h (by exact_mod_cast e)
theorem Rel.T7{m w:Nat}{b:Int}{X:Bare}{g:Nat->Nat->Rat}(R:Rel m w b X g){c:Nat}(hc:c<w):wk m X.M X.ps.length c=iX m g X.ps.length c:=by
 unfold wk iX;apply qU;intro i hi;have hi:i<m:=List.mem_range.mp hi;by_cases hk:X.ps.length<=i
 . have e:=R.low i hk hi c hc;have hb:=b_ R.b0;have hd:=b_ R.d0;congr 2;apply decide_eq_decide.mpr;constructor
   . intro h;rw [h] at e;have e:(b:Rat)*X.d*g i c=0:=by rw [<-e];rfl
     grind
   . intro h;rw [h,Rat.mul_zero] at e
     exact_mod_cast e
 . rw [decide_eq_false hk];rfl
theorem Rel.take{m w:Nat}{b:Int}{X:Bare}{g:Nat->Nat->Rat}{A:Nat->Nat->Int}(R:Rel m w b X g)(G:Good X.M A X.d X.ps)(h3:X.ps.length<=3){c p:Nat}(hc:c<w)(h:iX m g X.ps.length c=some p) :
 Rel m w b ⟨bJ X.M X.ps.length p c X.d,X.ps++[c],X.M p c⟩ (dM (eV g X.ps.length p) X.ps.length c):=by
 obtain ⟨hp,hkp,hne⟩:=j3 h;have hk:X.ps.length<m:=by omega
 have hb:=b_ R.b0;have hd:=b_ R.d0;have ec:=R.low p hkp hp c hc;have U8:X.M p c≠0:=fun z=>by
  rw [z] at ec;have ec:(b:Rat)*X.d*g p c=0:=by rw [<-ec];rfl
  grind
 have ek:eV g X.ps.length p X.ps.length=g p:=by unfold eV cD;rw [if_pos rfl]
 obtain ⟨_,ex⟩:=Ah (c:=c) G h3 hkp R.d0;have ex':∀ i j,i≠X.ps.length->(X.d:Rat)*(bJ X.M X.ps.length p c X.d i j:Rat)=(X.M p c:Rat)*(X.M (cD X.ps.length p i) j:Rat)-(X.M (cD X.ps.length p i) c:Rat)*(X.M p j:Rat):=fun i j hi=>by
  exact_mod_cast ex i j hi
 have Sf:∀ i,i≠X.ps.length->i<m->∀ j,j<w->X.ps.length<=i->(bJ X.M X.ps.length p c X.d i j:Rat)=b*(X.M p c:Rat)*(eV g X.ps.length p i j-eV g X.ps.length p i c*(g p j / g p c)):=fun i hi hm j hj hki=>by
  have e:=ex' i j hi;have h1:=El (k:=X.ps.length) (p:=p) (i:=i) hki hkp;have h2:=qV (k:=X.ps.length) (p:=p) hm hk hp;rw [R.low _ h1 h2 j hj,R.low _ h1 h2 c hc,R.low p hkp hp j hj] at e;rw [ec] at e ⊢;unfold eV
  grind
 refine ⟨fun l hl j hj=>?_,fun i hi hm j hj=>?_,U8,R.b0⟩
 . have hl:l<X.ps.length+1:=by simpa using hl
   by_cases e:l=X.ps.length
   . subst e;show ((bJ X.M X.ps.length p c X.d X.ps.length j:Int):Rat)=(X.M p c:Rat)*dM (eV g X.ps.length p) X.ps.length c X.ps.length j;unfold bJ dM;rw [if_pos rfl,if_pos rfl,ek,R.low p hkp hp j hj,ec]
     grind
   . have hl2:l<X.ps.length:=by omega
     show ((bJ X.M X.ps.length p c X.d l j:Int):Rat)=(X.M p c:Rat)*dM (eV g X.ps.length p) X.ps.length c l j;have e1:=ex' l j e;rw [uy hl2 hkp,R.top l hl2 j hj,R.top l hl2 c hc,R.low p hkp hp j hj] at e1;unfold dM;rw [if_neg e,ek];have es:∀ y,eV g X.ps.length p l y=g l y:=fun y=>by unfold eV;rw [uy hl2 hkp]
     rw [es,es];rw [ec] at e1 ⊢
     grind
 . have hi:X.ps.length+1<=i:=by simpa using hi
   show ((bJ X.M X.ps.length p c X.d i j:Int):Rat)=(b:Rat)*(X.M p c:Rat)*dM (eV g X.ps.length p) X.ps.length c i j;rw [Sf i (by omega) hm j hj (by omega)];unfold dM;rw [if_neg (by omega),ek]
theorem lock{m w:Nat}{b:Int}:∀ (f c:Nat) (X:Bare) (A:Nat->Nat->Int) (g:Nat->Nat->Rat),Good X.M A X.d X.ps->Rel m w b X g->X.ps.length<=c->c+f<=4->c+f<=w->
 (bX m f X.ps.length c g X.ps).2=(gw m f c X).ps/\Rel m w b (gw m f c X) (bX m f X.ps.length c g X.ps).1
 |0,c,X,A,g,G,R,_,_,_=>⟨rfl,R⟩
 |
  f+1,c,X,A,g,G,R,h1,h2,h3=>by
  unfold bX gw;rw [R.T7 (by omega)];cases e:iX m g X.ps.length c with
  |none=>exact lock f (c+1) X A g G R (by omega) (by omega) (by omega)
  |
   some p=>
   obtain ⟨hp,hkp,hne⟩:=j3 e;have R1:=R.take G (by omega) (by omega) e;have G1:=(Ah (c:=c) G (by omega) hkp R.d0).1;have:=lock f (c+1) ⟨bJ X.M X.ps.length p c X.d,X.ps++[c],X.M p c⟩ _ _ G1 R1 (by simp;omega) (by omega) (by omega);dsimp only at this ⊢;rw [List.length_append,List.length_singleton] at this;exact this
noncomputable def sumTo:Nat->(Nat->Rat)->Rat
 |0,_=>0
 |n+1,f=>sumTo n f+f n
theorem bO{f g:Nat->Rat}:∀ (n:Nat),(∀ i,i<n->f i=g i)->sumTo n f=sumTo n g
 |0,_=>rfl
 |
  n+1,h=>by
  show sumTo n f+f n=sumTo n g+g n;rw [bO n fun i hi=>h i (by omega),h n (by omega)]
theorem j9:∀ (n:Nat),sumTo n (fun _=>0)=0
 |0=>rfl
 |n+1=>by show sumTo n (fun _=>0)+0=0;rw [j9 n];grind
theorem uA(f g:Nat->Rat):∀ (n:Nat),sumTo n (fun i=>f i+g i)=sumTo n f+sumTo n g
 |0=>by show (0:Rat)=0+0;grind
 |
  n+1=>by
  show sumTo n (fun i=>f i+g i)+(f n+g n)=(sumTo n f+f n)+(sumTo n g+g n)
  rw [uA f g n];grind
theorem gY(a:Rat)(f:Nat->Rat):∀ (n:Nat),sumTo n (fun i=>a*f i)=a*sumTo n f
 |0=>by show (0:Rat)=a*0;grind
 |
  n+1=>by
  show sumTo n (fun i=>a*f i)+a*f n=a*(sumTo n f+f n);rw [gY a f n];grind
theorem qW(f:Nat->Nat->Rat)(m:Nat):∀ (n:Nat),sumTo n (fun i=>sumTo m (fun j=>f i j))=sumTo m (fun j=>sumTo n (fun i=>f i j))
 |0=>by show (0:Rat)=sumTo m (fun _=>0);rw [j9]
 |
  n+1=>by
  show sumTo n (fun i=>sumTo m (fun j=>f i j))+sumTo m (fun j=>f n j)=sumTo m (fun j=>sumTo n (fun i=>f i j)+f n j);rw [qW f m n,uA]
theorem sq_nonneg(a:Rat):0<=a*a:=by
 rcases Rat.le_total (a:=0) (b:=a) with h|h
 . exact Rat.mul_nonneg h h
 . have:0<=(-a)*(-a):=Rat.mul_nonneg (by grind) (by grind)
   grind
theorem om(f:Nat->Rat):∀ (n:Nat),0<=sumTo n (fun i=>f i*f i)
 |0=>by show (0:Rat)<=0;exact Rat.le_refl
 |
  n+1=>by
  show 0<=sumTo n (fun i=>f i*f i)+f n*f n;have h1:=om f n;have h2:=sq_nonneg (f n)
  grind
theorem qH(f:Nat->Rat):∀ (n:Nat),sumTo n (fun i=>f i*f i)=0->∀ i,i<n->f i=0
 |0,_,i,hi=>absurd hi (Nat.not_lt_zero i)
 |
  n+1,h,i,hi=>by
  have h:sumTo n (fun i=>f i*f i)+f n*f n=0:=h;have h1:=om f n;have h2:=sq_nonneg (f n);have h3:f n*f n=0:=by grind
  have h4:sumTo n (fun i=>f i*f i)=0:=by grind
  by_cases e:i=n
  . subst e;rcases Rat.mul_eq_zero.mp h3 with z|z<;>exact z
  . exact qH f n h4 i (by omega)
noncomputable def wm(m:Nat)(G g:Nat->Nat->Rat):Prop:=∀ i,i<m->∃ y:Nat->Rat,∀ j,g i j=sumTo m fun t=>y t*G t j
theorem Bb(n i:Nat)(f:Nat->Rat)(h:i<n):sumTo n (fun t=>(if t=i then 1 else 0)*f t)=f i:=by
 induction n with
 |zero=>omega
 |
  succ n ih=>
  show sumTo n (fun t=>(if t=i then 1 else 0)*f t)+(if n=i then 1 else 0)*f n=f i;by_cases e:n=i
  . subst e;rw [if_pos rfl,bO (g:=fun _=>0) n (fun t ht=>by rw [if_neg (by omega)];grind),j9];grind
  . rw [ih (by omega),if_neg e];grind
theorem wm.start{m:Nat}{G:Nat->Nat->Rat}:wm m G G:=fun i hi=>⟨fun t=>if t=i then 1 else 0,fun j=>(Bb m i (fun t=>G t j) hi).symm⟩
theorem wm.take{m:Nat}{G g:Nat->Nat->Rat}(C:wm m G g){k p c:Nat}(hk:k<m)(hp:p<m):wm m G (dM (eV g k p) k c):=fun i hi=>by
 obtain ⟨y,hy⟩:=C p hp;obtain ⟨z,hz⟩:=C (cD k p i) (qV hi hk hp);have ek:eV g k p k=g p:=by unfold eV cD;rw [if_pos rfl]
 by_cases e:i=k
 . refine ⟨fun t=>y t*(g p c)⁻¹,fun j=>?_⟩;unfold dM;rw [if_pos e,ek,hy j,Rat.div_def,Rat.mul_comm,<-gY];apply bO;intro t _;grind
 . refine ⟨fun t=>z t-g (cD k p i) c*(g p c)⁻¹*y t,fun j=>?_⟩;unfold dM;rw [if_neg e,ek];show g (cD k p i) j-g (cD k p i) c*(g p j / g p c)=_;have e2:sumTo m (fun t=>(z t-g (cD k p i) c*(g p c)⁻¹*y t)*G t j)=sumTo m (fun t=>z t*G t j+(-(g (cD k p i) c*(g p c)⁻¹))*(y t*G t j)):=by
    apply bO;intro t _;grind
   rw [e2,uA,gY,<-hz j,<-hy j,Rat.div_def]
   grind
theorem wm.all{m:Nat}{G:Nat->Nat->Rat}:∀ (f r c:Nat) (g:Nat->Nat->Rat) (ps:List Nat),wm m G g->wm m G (bX m f r c g ps).1
 |0,_,_,_,_,C=>C
 |
  f+1,r,c,g,ps,C=>by
  unfold bX;cases e:iX m g r c with
  |none=>exact wm.all f r (c+1) g ps C
  |
   some p=>
   obtain ⟨hp,hkp,_⟩:=j3 e;exact wm.all f (r+1) (c+1) _ _ (C.take (by omega) hp)
theorem G6{m n:Nat}{J:Nat->Nat->Rat}{h:Nat->Rat}{G:Nat->Nat->Rat}(hG:∀ i,i<n->∀ j,j<n->G i j=sumTo m fun r=>J r i*J r j)(hH:∀ i,i<n->G i n=sumTo m fun r=>J r i*h r)
 {y:Nat->Rat} (hy:∀ j,j<n->sumTo n (fun t=>y t*G t j)=0):sumTo n (fun t=>y t*G t n)=0:=by
 have e0:∀ (z:Nat->Rat),sumTo n (fun t=>y t*sumTo m fun r=>J r t*z r)=sumTo m fun r=>z r*sumTo n fun t=>J r t*y t:=fun z=>by
  have a1:sumTo n (fun t=>y t*sumTo m fun r=>J r t*z r)=sumTo n (fun t=>sumTo m fun r=>y t*(J r t*z r)):=
   bO n fun t _=>(gY (y t) _ m).symm
  rw [a1,qW];apply bO;intro r _;rw [<-gY];apply bO;intro t _
  grind
 have e1:∀ j,j<n->sumTo m (fun r=>J r j*sumTo n fun t=>J r t*y t)=0:=fun j hj=>by
  rw [<-e0 fun r=>J r j,<-hy j hj];apply bO;intro t ht;rw [hG t ht j hj]
 have e2:sumTo m (fun r=>(sumTo n fun t=>J r t*y t)*(sumTo n fun t=>J r t*y t))=0:=by
  have b1:sumTo m (fun r=>(sumTo n fun t=>J r t*y t)*(sumTo n fun t=>J r t*y t))=sumTo m (fun r=>sumTo n fun j=>y j*(J r j*sumTo n fun t=>J r t*y t)):=by
   apply bO;intro r _;rw [<-gY];apply bO;intro t _
   grind
  rw [b1,qW];rw [<-j9 n];apply bO;intro j hj;rw [gY,e1 j hj];grind
 have e3:=qH _ m e2;have e4:sumTo n (fun t=>y t*G t n)=sumTo n (fun t=>y t*sumTo m fun r=>J r t*h r):=bO n fun t ht=>by rw [hH t ht]
 rw [e4,e0 h,<-j9 m];apply bO;intro r hr;rw [e3 r hr];grind
end Ex
namespace Ex
open Vagraa (Frac)
open Vagram (Mat)
theorem vG(f:Nat->Rat):∀ (k:Nat),((List.range k).map fun r=>F (f r)).foldl Vagraa.add Vagraa.zero=F (sumTo k f)
 |0=>rfl
 |
  k+1=>by
  rw [List.range_succ,List.map_append,List.foldl_append,vG f k];exact sL _ _
theorem Ph(f:Nat->Rat)(k:Nat):Vagrae.sum ((List.range k).map fun r=>F (f r))=F (sumTo k f):=vG f k
theorem xD{m k n:Nat}{g h:Nat->Nat->Rat}:Vagram.mul (cM m k g) (cM k n h)=cM m n fun i j=>sumTo k fun t=>g i t*h t j:=by
 show Vagram.make m n _=Vagram.make m n _;apply fh;intro i hi j hj;show Vagrae.sum ((List.range k).map fun t=>Vagraa.mul ((cM m k g).get i t) ((cM k n h).get t j))=F (sumTo k fun t=>g i t*h t j);rw [<-Ph];congr 1;apply List.map_congr_left;intro t ht;have ht:t<k:=List.mem_range.mp ht;rw [dJ hi ht,dJ ht hj,qG]
theorem G7{m n:Nat}{g:Nat->Nat->Rat}:Vagram.turn (cM m n g)=cM n m fun i j=>g j i:=by
 show Vagram.make n m _=Vagram.make n m _;apply fh;intro i hi j hj;rw [dJ hj hi]
theorem lF{m:Nat}{g:Nat->Nat->Rat}:Vagran.listOf (cM m 1 g)=(List.range m).map fun i=>F (g i 0):=by
 show (List.range m).map _=_;apply List.map_congr_left;intro i hi;exact dJ (List.mem_range.mp hi) (by omega)
theorem cO(l:List Rat)(i:Nat):VagraLine.at_ (l.map F) i=F (l.getD i 0):=by
 unfold VagraLine.at_;rw [List.getD_eq_getElem?_getD,List.getElem?_map,List.getD_eq_getElem?_getD];cases l[i]?<;>rfl
theorem xE(l:List Rat):Vagran.column (l.map F)=cM l.length 1 fun i _=>l.getD i 0:=by
 unfold Vagran.column cM;rw [List.length_map];apply fh;intro i hi j hj;exact cO l i
theorem Ai(l:List Rat):(l.map F).map Vagraa.neg=(l.map fun q=>-q).map F:=by
 rw [List.map_map,List.map_map];rfl
noncomputable def gn(n:Nat)(J:Nat->Nat->Rat)(h:Nat->Rat):Nat->Nat->Rat:=fun i j=>if j<n then J i j else h i
theorem CN{m n:Nat}{J:Nat->Nat->Rat}{h:Nat->Rat}:Vagram.beside (cM m n J) (cM m 1 fun i _=>h i)=cM m (n+1) (gn n J h):=by
 show Vagram.make m (n+1) _=Vagram.make m (n+1) _;apply fh;intro i hi j hj;show (if j<n then (cM m n J).get i j else (cM m 1 fun i _=>h i).get i (j-n))=F (gn n J h i j);unfold gn;by_cases e:j<n
 . rw [if_pos e,if_pos e,dJ hi e]
 . rw [if_neg e,if_neg e,dJ hi (by omega)]
noncomputable def Bc(n:Nat)(Y:(Nat->Nat->Rat) × List Nat)(i:Nat):Rat:=match Y.2.findIdx? fun c=>decide (c=i) with
 |some r=>Y.1 r n
 |none=>0
theorem Jj{m n:Nat}{g:Nat->Nat->Rat}{ps:List Nat}:bX m 1 ps.length n g ps=match iX m g ps.length n with
 |none=>(g,ps)
 |some p=>(dM (eV g ps.length p) ps.length n,ps++[n]):=by
 unfold bX bX;cases iX m g ps.length n<;>rfl
theorem CO{m n:Nat}{J:Nat->Nat->Rat}{h:Nat->Rat}:Vagram.solve (cM m n J) (cM m 1 fun i _=>h i) =
 match iX m (bX m n 0 0 (gn n J h) []).1 (bX m n 0 0 (gn n J h) []).2.length n with
 |some _=>.none
 |none=>if (bX m n 0 0 (gn n J h) []).2.length=n then .one (cM n 1 fun i _=>Bc n (bX m n 0 0 (gn n J h) []) i) else .many (cM n 1 fun i _=>Bc n (bX m n 0 0 (gn n J h) []) i):=by
 unfold Vagram.solve;rw [CN];have e0:Vagram.reduce (cM m (n+1) (gn n J h))=(cM m (n+1) (bX m (n+1) 0 0 (gn n J h) []).1,(bX m (n+1) 0 0 (gn n J h) []).2):=by
  unfold Vagram.reduce;exact lW (n+1) 0 0 _ [] (by omega)
 rw [e0];have e1:=uz (m:=m) n 0 (gn n J h) [];rw [Nat.zero_add] at e1;have R:=Red.all (m:=m) n 0 (gn n J h) [] Red.start;rw [Nat.zero_add] at R;have e2:bX m (n+1) 0 0 (gn n J h) []=bX m 1 (bX m n 0 0 (gn n J h) []).2.length n (bX m n 0 0 (gn n J h) []).1 (bX m n 0 0 (gn n J h) []).2:=e1;have R:Red m (bX m n 0 0 (gn n J h) []).1 (bX m n 0 0 (gn n J h) []).2 n:=R;rw [e2];generalize bX m n 0 0 (gn n J h) []=Y at R;rw [Jj];cases e:iX m Y.1 Y.2.length n with
 |
  some p=>
  dsimp only;rw [if_pos];rw [List.any_append];simp [qt]
 |
  none=>
  dsimp only;rw [if_neg]
  . rw [qt,qt];have h2:∀ (A B:Mat),A=B->(if Y.2.length=n then Vagram.Solved.one A else Vagram.Solved.many A)=(if Y.2.length=n then Vagram.Solved.one B else Vagram.Solved.many B):=fun A B h=>by rw [h]
    refine h2 _ _ ?_;apply fh;intro i hi j hj;dsimp only;unfold Bc;cases ef:Y.2.findIdx? fun c=>decide (c=i) with
    |none=>rfl
    |
     some r=>
     have hr:=(List.findIdx?_eq_some_iff_findIdx_eq.mp ef).1;have:=R.rows;have ej:j=0:=by omega
     subst ej;exact dJ (by omega) (by omega)
  . rw [Bool.not_eq_true,List.any_eq_false];intro c hc;have:=R.lt c hc;rw [qt];simp;omega
theorem Aj{m n:Nat}{J:Nat->Nat->Rat}{fs:List Rat}(hf:fs.length=m):Vagran.newton (cM m n J) (fs.map F) =
 match iX m (bX m n 0 0 (gn n J fun i=>-fs.getD i 0) []).1 (bX m n 0 0 (gn n J fun i=>-fs.getD i 0) []).2.length n with
 |some _=>none
 |none=>if (bX m n 0 0 (gn n J fun i=>-fs.getD i 0) []).2.length=n then some ((List.range n).map fun i=>F (Bc n (bX m n 0 0 (gn n J fun i=>-fs.getD i 0) []) i)) else none:=by
 unfold Vagran.newton;rw [Ai,xE,List.length_map,hf];have e:(cM m 1 fun i _=>(fs.map fun q=>-q).getD i 0)=cM m 1 fun i _=>(fun i=>-fs.getD i 0) i:=by
  apply xC;intro i hi j hj;show (fs.map fun q=>-q).getD i 0=-fs.getD i 0;rw [List.getD_eq_getElem?_getD,List.getElem?_map,List.getD_eq_getElem?_getD];cases fs[i]?<;>rfl
 rw [e,CO];cases iX m (bX m n 0 0 (gn n J fun i=>-fs.getD i 0) []).1 (bX m n 0 0 (gn n J fun i=>-fs.getD i 0) []).2.length n with
 |some p=>rfl
 |
  none=>
  dsimp only;by_cases h:(bX m n 0 0 (gn n J fun i=>-fs.getD i 0) []).2.length=n
  . rw [if_pos h,if_pos h];unfold Vagran.solvedOne;dsimp only;rw [lF]
  . rw [if_neg h,if_neg h];rfl
noncomputable def oK(m:Nat)(J:Nat->Nat->Rat):Nat->Nat->Rat:=fun i j=>sumTo m fun r=>J r i*J r j
noncomputable def oM(m:Nat)(J:Nat->Nat->Rat)(h:Nat->Rat):Nat->Rat:=fun i=>sumTo m fun r=>J r i*h r
theorem CP{m n:Nat}{J:Nat->Nat->Rat}{fs:List Rat}(hf:fs.length=m):Vagran.least (cM m n J) (fs.map F) =
 some ((List.range n).map fun i=>F (Bc n (bX n n 0 0 (gn n (oK m J) (oM m J fun i=>-fs.getD i 0)) []) i)):=by
 unfold Vagran.least;rw [Ai,xE,List.length_map,hf];have e:(cM m 1 fun i _=>(fs.map fun q=>-q).getD i 0)=cM m 1 fun i _=>(fun i=>-fs.getD i 0) i:=by
  apply xC;intro i hi j hj;show (fs.map fun q=>-q).getD i 0=-fs.getD i 0;rw [List.getD_eq_getElem?_getD,List.getElem?_map,List.getD_eq_getElem?_getD];cases fs[i]?<;>rfl
 rw [e,G7,xD,xD];have e2:(cM n 1 fun i j=>sumTo m fun t=>J t i*(fun i=>-fs.getD i 0) t)=cM n 1 fun i _=>oM m J (fun i=>-fs.getD i 0) i:=rfl;have e3:(cM n n fun i j=>sumTo m fun t=>J t i*J t j)=cM n n (oK m J):=rfl;rw [e2,e3,CO];have R:=Red.all (m:=n) n 0 (gn n (oK m J) (oM m J fun i=>-fs.getD i 0)) [] Red.start;rw [Nat.zero_add] at R;have C:=wm.all (m:=n) n 0 0 (gn n (oK m J) (oM m J fun i=>-fs.getD i 0)) [] wm.start;have R:Red n (bX n n 0 0 (gn n (oK m J) (oM m J fun i=>-fs.getD i 0)) []).1 (bX n n 0 0 (gn n (oK m J) (oM m J fun i=>-fs.getD i 0)) []).2 n:=R;cases e:iX n (bX n n 0 0 (gn n (oK m J) (oM m J fun i=>-fs.getD i 0)) []).1 (bX n n 0 0 (gn n (oK m J) (oM m J fun i=>-fs.getD i 0)) []).2.length n with
 |
  some p=>
  obtain ⟨hp,hkp,hne⟩:=j3 e;obtain ⟨y,hy⟩:=C p hp;exfalso;apply hne;rw [hy n];refine G6 (m:=m) (J:=J) (h:=fun i=>-fs.getD i 0) (fun i _ j hj=>?_) (fun i _=>?_) fun j hj=>?_
  . unfold gn;rw [if_pos hj];rfl
  . unfold gn;rw [if_neg (by omega)];rfl
  . rw [<-hy j];exact R.low p hkp hp j hj
 |
  none=>
  dsimp only;split
  . unfold Vagran.solvedAny;dsimp only;rw [lF]
  . unfold Vagran.solvedAny;dsimp only;rw [lF]
end Ex
namespace Ex
noncomputable def iY(a b:Nat):Nat:=if h:b=0 then 0 else 1+iY b (a % b)
termination_by b
decreasing_by exact Nat.mod_lt _ (Nat.pos_of_ne_zero h)
theorem pD(a:Nat):iY a 0=0:=by rw [iY,dif_pos rfl]
theorem qX{a b:Nat}(h:b≠0):iY a b=1+iY b (a % b):=by rw [iY,dif_neg h]
noncomputable def fb:Nat->Nat
 |0=>1
 |1=>1
 |n+2=>fb (n+1)+fb n
theorem Jk(g:Nat)(hg:0<g):∀ (n a b:Nat),g∣a->g∣b->b<=a->n+1<=iY a b->g*fb n<=b/\g*fb (n+1)<=a
 |
  0,a,b,ha,hb,hab,h=>by
  have hb0:b≠0:=fun z=>by subst z;rw [pD] at h;omega
  have h1:=Nat.le_of_dvd (Nat.pos_of_ne_zero hb0) hb;show g*1<=b/\g*1<=a;omega
 |
  n+1,a,b,ha,hb,hab,h=>by
  have hb0:b≠0:=fun z=>by subst z;rw [pD] at h;omega
  rw [qX hb0] at h;have hr:a % b<b:=Nat.mod_lt _ (Nat.pos_of_ne_zero hb0);have hgr:g∣a % b:=(Nat.dvd_mod_iff hb).mpr ha;have ih:=Jk g hg n b (a % b) hb hgr (by omega) (by omega);refine ⟨ih.2,?_⟩;have e:=Nat.div_add_mod a b;have hq:1<=a / b:=(Nat.le_div_iff_mul_le (Nat.pos_of_ne_zero hb0)).mpr (by omega);have h2:b*1<=b*(a / b):=Nat.mul_le_mul_left b hq;show g*(fb (n+1)+fb n)<=a;rw [Nat.mul_add];omega
theorem Pj{g a b n:Nat}(hg:0<g)(ha:g∣a)(hb:g∣b)(h:n+2<=iY a b):g*fb n<=a/\g*fb n<=b:=by
 have mono:∀ k,fb k<=fb (k+1):=fun k=>match k with
  |0=>Nat.le_refl 1
  |k+1=>by show fb (k+1)<=fb (k+1)+fb k;omega
 by_cases hab:b<=a
 . have h1:=Jk g hg n a b ha hb hab (by omega);have h2:g*fb n<=g*fb (n+1):=Nat.mul_le_mul_left g (mono n);omega
 . have hb0:b≠0:=by omega
   rw [qX hb0,Nat.mod_eq_of_lt (by omega)] at h;have h1:=Jk g hg n b a hb ha (by omega) (by omega);have h2:g*fb n<=g*fb (n+1):=Nat.mul_le_mul_left g (mono n);omega
noncomputable def Lf:Nat->Nat->Nat->Nat
 |0,x,_=>x
 |n+1,x,y=>Lf n y (x+y)
theorem F8:∀ (n k:Nat),Lf n (fb k) (fb (k+1))=fb (k+n)
 |0,k=>rfl
 |
  n+1,k=>by
  show Lf n (fb (k+1)) (fb k+fb (k+1))=fb (k+(n+1));have e:fb k+fb (k+1)=fb (k+1+1):=by show _=fb (k+1)+fb k;omega
  rw [e,F8 n (k+1)];congr 1;omega
theorem Nl:2 ^ 3050<fb 4595:=by
 have e:=F8 4595 0;rw [Nat.zero_add] at e;rw [<-e];show 2 ^ 3050<Lf 4595 1 1;decide +kernel
theorem jU(n:Nat):n<2 ^ Vagraa.bits n:=by
 unfold Vagraa.bits;split
 . rename_i h;subst h;decide
 . exact Nat.lt_log2_self
theorem lt_pow_of_bits{n k:Nat}(h:Vagraa.bits n<=k):n<2 ^ k:=Nat.lt_of_lt_of_le (jU n) (Nat.pow_le_pow_right (by decide) h)
theorem qI{n k:Nat}(h:n<2 ^ k):Vagraa.bits n<=k:=by
 unfold Vagraa.bits;split
 . omega
 . rename_i h0;have:=(Nat.log2_lt h0).mpr h;omega
theorem CQ{a b:Nat}(hb:0<b)(h:Vagraa.bits (a / Nat.gcd a b)+Vagraa.bits (b / Nat.gcd a b)<=6100):iY a b<=4596:=by
 apply Classical.byContradiction;intro hn;have hg:0<Nat.gcd a b:=Nat.gcd_pos_of_pos_right _ hb;obtain ⟨h1,h2⟩:=Pj (n:=4595) hg (Nat.gcd_dvd_left a b) (Nat.gcd_dvd_right a b) (by omega);have h3:fb 4595<=a / Nat.gcd a b:=(Nat.le_div_iff_mul_le hg).mpr (by rw [Nat.mul_comm];exact h1);have h4:fb 4595<=b / Nat.gcd a b:=(Nat.le_div_iff_mul_le hg).mpr (by rw [Nat.mul_comm];exact h2);have hbig:=Nl;rcases Nat.le_total (Vagraa.bits (a / Nat.gcd a b)) 3050 with h5|h5
 . have:=lt_pow_of_bits h5;omega
 . have:=lt_pow_of_bits (n:=b / Nat.gcd a b) (k:=3050) (by omega);omega
theorem vH{a b:Int}(hb:0<b):((a:Rat) / (b:Rat)).num=a / (Nat.gcd a.natAbs b.natAbs:Nat)/\(((a:Rat) / (b:Rat)).den:Int)=b / (Nat.gcd a.natAbs b.natAbs:Nat):=by
 obtain ⟨k,rfl⟩:∃ k:Nat,b=k:=⟨b.toNat,by omega⟩
 have hk:k≠0:=by omega
 have e:(a:Rat) / ((k:Int):Rat)=mkRat a k:=by
  rw [Rat.mkRat_eq_div];rfl
 rw [e,j0 a hk,iW a hk,Int.natAbs_natCast];exact ⟨rfl,by exact_mod_cast rfl⟩
theorem qY{a b:Int}(hb:0<b):a.fdiv (Nat.gcd a.natAbs b.natAbs:Nat)=((a:Rat) / (b:Rat)).num/\b.fdiv (Nat.gcd a.natAbs b.natAbs:Nat)=(((a:Rat) / (b:Rat)).den:Int):=by
 obtain ⟨h1,h2⟩:=vH (a:=a) hb;rw [h1,h2,Int.fdiv_eq_ediv_of_nonneg _ (by omega),Int.fdiv_eq_ediv_of_nonneg _ (by omega)];exact ⟨rfl,rfl⟩
theorem xF{a b:Int}(hb:b<0):(-a).fdiv (Nat.gcd a.natAbs b.natAbs:Nat)=((a:Rat) / (b:Rat)).num/\(-b).fdiv (Nat.gcd a.natAbs b.natAbs:Nat)=(((a:Rat) / (b:Rat)).den:Int):=by
 have e:(a:Rat) / (b:Rat)=((-a:Int):Rat) / ((-b:Int):Rat):=by
  have:(b:Rat)≠0:=b_ (by omega);have h1:((-a:Int):Rat)=-(a:Rat):=by exact_mod_cast rfl
  have h2:((-b:Int):Rat)=-(b:Rat):=by exact_mod_cast rfl
  rw [h1,h2];grind
 have:=qY (a:=-a) (b:=-b) (by omega);rw [Int.natAbs_neg,Int.natAbs_neg] at this;rw [e];exact this
end Ex
namespace Ex
open Vagraa (Frac)
noncomputable def pairAt(X:Bare)(n i:Nat):Int × Int:=match X.ps.findIdx? fun c=>decide (c=i) with
 |some l=>(X.M l n,X.M l i)
 |none=>(0,1)
noncomputable def a_(x:Int × Int):Rat:=(x.1:Rat) / (x.2:Rat)
theorem sO{m n:Nat}{b:Int}{X:Bare}{Y:(Nat->Nat->Rat) × List Nat}(hp:Y.2=X.ps)(R:Rel m (n+1) b X Y.1)(E:Red m Y.1 Y.2 n){i:Nat}(hi:i<n) :
 Bc n Y i=a_ (pairAt X n i)/\(pairAt X n i).2≠0:=by
 unfold Bc pairAt;rw [hp];cases e:X.ps.findIdx? fun c=>decide (c=i) with
 |none=>exact ⟨by unfold a_;grind,Int.one_ne_zero⟩
 |
  some l=>
  obtain ⟨hl,h2⟩:=List.findIdx?_eq_some_iff_findIdx_eq.mp e;have h3:X.ps[l]?=some i:=by
   have:=List.findIdx?_eq_some_iff_getElem.mp e;obtain ⟨h,h4,_⟩:=this;rw [List.getElem?_eq_getElem h]
   simpa using h4
  have U9:l<m:=by have:=E.rows;rw [hp] at this;omega
  have e1:=R.top l hl n (by omega);have e2:=R.top l hl i (by omega);have e3:=E.lead l i (by rw [hp];exact h3) l U9;rw [if_pos rfl] at e3;rw [e3,Rat.mul_one] at e2;have hd:=b_ R.d0;dsimp only;refine ⟨?_,?_⟩
  . unfold a_;dsimp only;rw [e1,e2];grind
  . intro z;rw [z] at e2;exact hd (by rw [<-e2];rfl)
theorem Ak{m n:Nat}{b:Int}(hb:b≠0){A:Nat->Nat->Int}{G:Nat->Nat->Rat}(hA:∀ i,i<m->∀ j,j<n+1->(A i j:Rat)=b*G i j):Rel m (n+1) b ⟨A,[],1⟩ G:=
 ⟨fun l hl=>absurd hl (Nat.not_lt_zero l),fun i _ hi j hj=>by
  show (A i j:Rat)=b*((1:Int):Rat)*G i j;rw [hA i hi j hj];have:((1:Int):Rat)=1:=rfl;rw [this];grind,Int.one_ne_zero,hb⟩
theorem Bf{m n:Nat}{J:Nat->Nat->Rat}{fs:List Rat}(hf:fs.length=m)(hn:n<=4){b:Int}(hb:b≠0){A:Nat->Nat->Int}(hA:∀ i,i<m->∀ j,j<n+1->(A i j:Rat)=b*gn n J (fun i=>-fs.getD i 0) i j) :
 Vagran.newton (cM m n J) (fs.map F)=(if (gw m n 0 ⟨A,[],1⟩).ps.length<n then none else match wk m (gw m n 0 ⟨A,[],1⟩).M n n with
  |some _=>none
  |none=>some ((List.range n).map fun i=>F (a_ (pairAt (gw m n 0 ⟨A,[],1⟩) n i))))/\
 ∀ i,i<n->(pairAt (gw m n 0 ⟨A,[],1⟩) n i).2≠0:=by
 have R0:=Ak hb hA;obtain ⟨hps,R⟩:=lock (m:=m) (w:=n+1) (b:=b) n 0 ⟨A,[],1⟩ A (gn n J fun i=>-fs.getD i 0) ⟨rfl,fun _ _=>rfl⟩ R0 (Nat.le_refl 0) (by omega) (by omega);have E:=Red.all (m:=m) n 0 (gn n J fun i=>-fs.getD i 0) [] Red.start;rw [Nat.zero_add] at E;rw [Aj hf];have hps:(bX m n 0 0 (gn n J fun i=>-fs.getD i 0) []).2=(gw m n 0 ⟨A,[],1⟩).ps:=hps;have R:Rel m (n+1) b (gw m n 0 ⟨A,[],1⟩) (bX m n 0 0 (gn n J fun i=>-fs.getD i 0) []).1:=R;have E:Red m (bX m n 0 0 (gn n J fun i=>-fs.getD i 0) []).1 (bX m n 0 0 (gn n J fun i=>-fs.getD i 0) []).2 n:=E;generalize gw m n 0 ⟨A,[],1⟩=X at *;generalize bX m n 0 0 (gn n J fun i=>-fs.getD i 0) []=Y at *;refine ⟨?_,fun i hi=>(sO hps R E hi).2⟩;have hfew:=E.few;rw [hps] at hfew;rw [hps,<-R.T7 (c:=n) (by omega)];by_cases h:X.ps.length<n
 . rw [if_pos h];cases wk m X.M X.ps.length n with
   |some _=>rfl
   |none=>dsimp only;rw [if_neg (by omega)]
 . have hl:X.ps.length=n:=by omega
   rw [if_neg h,hl];cases wk m X.M n n with
   |some _=>rfl
   |
    none=>
    dsimp only;rw [if_pos rfl];congr 1;apply List.map_congr_left;intro i hi;rw [(sO hps R E (List.mem_range.mp hi)).1]
theorem CS{m n:Nat}{J:Nat->Nat->Rat}{fs:List Rat}(hf:fs.length=m)(hn:n<=4){b:Int}(hb:b≠0){A:Nat->Nat->Int}(hA:∀ i,i<n->∀ j,j<n+1->(A i j:Rat)=b*gn n (oK m J) (oM m J fun i=>-fs.getD i 0) i j) :
 Vagran.least (cM m n J) (fs.map F)=some ((List.range n).map fun i=>F (a_ (pairAt (gw n n 0 ⟨A,[],1⟩) n i)))/\
 ∀ i,i<n->(pairAt (gw n n 0 ⟨A,[],1⟩) n i).2≠0:=by
 have R0:=Ak (m:=n) hb hA;obtain ⟨hps,R⟩:=lock (m:=n) (w:=n+1) (b:=b) n 0 ⟨A,[],1⟩ A (gn n (oK m J) (oM m J fun i=>-fs.getD i 0)) ⟨rfl,fun _ _=>rfl⟩ R0 (Nat.le_refl 0) (by omega) (by omega);have E:=Red.all (m:=n) n 0 (gn n (oK m J) (oM m J fun i=>-fs.getD i 0)) [] Red.start;rw [Nat.zero_add] at E;rw [CP hf];have hps:(bX n n 0 0 (gn n (oK m J) (oM m J fun i=>-fs.getD i 0)) []).2=(gw n n 0 ⟨A,[],1⟩).ps:=hps;have R:Rel n (n+1) b (gw n n 0 ⟨A,[],1⟩) (bX n n 0 0 (gn n (oK m J) (oM m J fun i=>-fs.getD i 0)) []).1:=R;have E:Red n (bX n n 0 0 (gn n (oK m J) (oM m J fun i=>-fs.getD i 0)) []).1 (bX n n 0 0 (gn n (oK m J) (oM m J fun i=>-fs.getD i 0)) []).2 n:=E;generalize gw n n 0 ⟨A,[],1⟩=X at *;generalize bX n n 0 0 (gn n (oK m J) (oM m J fun i=>-fs.getD i 0)) []=Y at *;refine ⟨?_,fun i hi=>(sO hps R E hi).2⟩;congr 1;apply List.map_congr_left;intro i hi;rw [(sO hps R E (List.mem_range.mp hi)).1]
noncomputable def cell(rows:List (List Int))(i j:Nat):Int:=(rows.getD i []).getD j 0
noncomputable def d7(row lead:List Int)(c:Nat)(before:Int):List Int:=List.zipWith (fun l r=>(lead.getD c 0*l-row.getD c 0*r).fdiv before) row lead
noncomputable def gZ(rows:List (List Int))(k p:Nat):List (List Int):=(rows.set p (rows.getD k [])).set k (rows.getD p [])
noncomputable def fz(rows:List (List Int))(k p c:Nat)(before:Int):List (List Int):=
 (gZ rows k p).mapIdx fun i row=>if i=k then row else d7 row (rows.getD p []) c before
structure gx where
 rows:List (List Int)
 ps:List Nat
 d:Int
noncomputable def dN(rows:List (List Int))(c start:Nat):Option Nat:=(List.range rows.length).find? fun i=>decide (start<=i) && !decide (cell rows i c=0)
noncomputable def gy:Nat->Nat->gx->gx
 |0,_,X=>X
 |
  f+1,c,X=>match dN X.rows c X.ps.length with
  |none=>gy f (c+1) X
  |some p=>gy f (c+1) ⟨fz X.rows X.ps.length p c X.d,X.ps++[c],cell X.rows p c⟩
noncomputable def gx.fn(X:gx):Bare:=⟨cell X.rows,X.ps,X.d⟩
noncomputable def Wide(w:Nat)(rows:List (List Int)):Prop:=∀ r,r∈rows->r.length=w
theorem getD_mem{α:Type}{l:List α}{i:Nat}{d:α}(h:i<l.length):l.getD i d∈l:=by
 rw [List.getD_eq_getElem?_getD,List.getElem?_eq_getElem h];exact List.getElem_mem h
theorem qu{α:Type}{l:List α}{i:Nat}{d:α}(h:l.length<=i):l.getD i d=d:=by
 rw [List.getD_eq_getElem?_getD,List.getElem?_eq_none h];rfl
theorem iu(rows:List (List Int))(k p:Nat):(gZ rows k p).length=rows.length:=by unfold gZ;rw [List.length_set,List.length_set]
theorem qZ{rows:List (List Int)}{k p i:Nat}(hk:k<rows.length)(hp:p<rows.length):(gZ rows k p).getD i []=rows.getD (cD k p i) []:=by
 unfold gZ cD;rw [List.getD_eq_getElem?_getD,List.getElem?_set];by_cases h1:k=i
 . subst h1;rw [if_pos rfl,if_pos rfl,if_pos (by rw [List.length_set];exact hk)];rfl
 . rw [if_neg h1,if_neg (fun z=>h1 z.symm),List.getElem?_set];by_cases h2:p=i
   . subst h2;rw [if_pos rfl,if_pos rfl,if_pos hp];rfl
   . rw [if_neg h2,if_neg (fun z=>h2 z.symm),List.getD_eq_getElem?_getD]
theorem jV(rows:List (List Int))(k p c:Nat)(d:Int):(fz rows k p c d).length=rows.length:=by unfold fz;rw [List.length_mapIdx,iu]
theorem wo(row lead:List Int)(c:Nat)(d:Int)(h:row.length=lead.length):(d7 row lead c d).length=row.length:=by
 unfold d7;rw [List.length_zipWith];omega
theorem zg{row lead:List Int}(h:row.length=lead.length)(c j:Nat)(d:Int):(d7 row lead c d).getD j 0=(lead.getD c 0*row.getD j 0-row.getD c 0*lead.getD j 0).fdiv d:=by
 unfold d7;rw [List.getD_eq_getElem?_getD,List.getElem?_zipWith];by_cases hj:j<row.length
 . rw [List.getElem?_eq_getElem hj,List.getElem?_eq_getElem (by omega:j<lead.length)];show _=_;rw [List.getD_eq_getElem?_getD (l:=row) (i:=j),List.getElem?_eq_getElem hj,List.getD_eq_getElem?_getD (l:=lead) (i:=j),List.getElem?_eq_getElem (by omega:j<lead.length)];rfl
 . rw [List.getElem?_eq_none (by omega),qu (l:=row) (i:=j) (by omega),qu (l:=lead) (i:=j) (by omega)];simp
theorem j_{w:Nat}{rows:List (List Int)}{k p c:Nat}{d:Int}(hw:Wide w rows)(hk:k<rows.length)(hp:p<rows.length):Wide w (fz rows k p c d):=by
 intro r hr;unfold fz at hr;rw [List.mem_mapIdx] at hr;obtain ⟨i,hi,e⟩:=hr;have hm:(gZ rows k p)[i]∈rows:=by
  have e1:=qZ (i:=i) hk hp;rw [List.getD_eq_getElem?_getD,List.getElem?_eq_getElem hi] at e1;have e1:(gZ rows k p)[i]=rows.getD (cD k p i) []:=e1;rw [e1];rw [iu] at hi;exact getD_mem (qV hi hk hp)
 split at e
 . rw [<-e];exact hw _ hm
 . rw [<-e,wo]
   . exact hw _ hm
   . rw [hw _ hm,hw _ (getD_mem hp)]
theorem xG{w:Nat}{rows:List (List Int)}{k p c:Nat}{d:Int}(hw:Wide w rows)(hk:k<rows.length)(hp:p<rows.length):cell (fz rows k p c d)=bJ (cell rows) k p c d:=by
 funext i j;unfold bJ;by_cases hi:i<rows.length
 . have hi2:i<(gZ rows k p).length:=by rw [iu];exact hi
   have e0:(fz rows k p c d).getD i []=if i=k then (gZ rows k p).getD i [] else d7 ((gZ rows k p).getD i []) (rows.getD p []) c d:=by
    unfold fz;rw [List.getD_eq_getElem?_getD (l:=List.mapIdx _ _),List.getElem?_mapIdx,List.getD_eq_getElem?_getD (l:=gZ rows k p),List.getElem?_eq_getElem hi2];rfl
   unfold cell;rw [e0,qZ hk hp];by_cases e:i=k
   . rw [if_pos e,if_pos e];have:cD k p i=p:=by unfold cD;rw [if_pos e]
     rw [this]
   . rw [if_neg e,if_neg e];rw [zg];rw [hw _ (getD_mem (qV hi hk hp)),hw _ (getD_mem hp)]
 . have e1:cell (fz rows k p c d) i j=0:=by
    unfold cell;rw [qu (l:=fz rows k p c d) (by rw [jV];omega)];rfl
   rw [e1,if_neg (by omega)];have e2:cD k p i=i:=by unfold cD;rw [if_neg (by omega),if_neg (by omega)]
   have e3:∀ y,cell rows i y=0:=fun y=>by unfold cell;rw [qu (l:=rows) (by omega)];rfl
   rw [e2,e3,e3];simp
theorem pF{m w:Nat}:∀ (f c:Nat) (X:gx),X.rows.length=m->Wide w X.rows->
 (gy f c X).fn=gw m f c X.fn/\(gy f c X).rows.length=m/\Wide w (gy f c X).rows
 |0,c,X,hl,hw=>⟨rfl,hl,hw⟩
 |
  f+1,c,X,hl,hw=>by
  unfold gy gw;have e:dN X.rows c X.ps.length=wk m X.fn.M X.fn.ps.length c:=by unfold dN wk;rw [hl];rfl
  rw [<-e];cases e1:dN X.rows c X.ps.length with
  |none=>exact pF f (c+1) X hl hw
  |
   some p=>
   rw [e] at e1;have h1:=List.mem_of_find?_eq_some e1;have h2:=List.find?_some e1;have hp:p<m:=List.mem_range.mp h1;have hkp:X.ps.length<=p:=by
    simp only [Bool.and_eq_true,decide_eq_true_eq] at h2;exact h2.1
   dsimp only;have ih:=pF (m:=m) f (c+1) ⟨fz X.rows X.ps.length p c X.d,X.ps++[c],cell X.rows p c⟩ ((jV _ _ _ _ _).trans hl) (j_ hw (by omega) (by omega));have e3:gx.fn ⟨fz X.rows X.ps.length p c X.d,X.ps++[c],cell X.rows p c⟩=⟨bJ X.fn.M X.fn.ps.length p c X.fn.d,X.fn.ps++[c],X.fn.M p c⟩:=by
    unfold gx.fn;dsimp only;rw [xG hw (by omega) (by omega)]
   rw [e3] at ih;exact ih
end Ex
namespace Ex
open Vagraa (Frac)
open VagraLine (Line at_)
noncomputable abbrev Raw:=List Int
noncomputable def bx:Raw->Line
 |[0,k]=>.input k.toNat
 |[1,n,d]=>.num (Vagraa.frac n d.toNat)
 |[2,i,j]=>.add i.toNat j.toNat
 |[3,i,j]=>.sub i.toNat j.toNat
 |[4,i,j]=>.mul i.toNat j.toNat
 |[5,i,j]=>.div i.toNat j.toNat
 |[6,i]=>.neg i.toNat
 |_=>.input 0
noncomputable def lenOf(k:Int):Nat:=if k=0\/k=6 then 2 else 3
noncomputable def fits(t:Raw):Bool:=if t.getD 0 0=1 then decide (1<=t.getD 2 0) else (t.drop 1).all fun x=>decide (0<=x)
noncomputable def di:List Int->Option Raw
 |[]=>none
 |
  k::r=>if k<0\/7<=k then none else
  if ((k::r).take (lenOf k)).length<lenOf k\/fits ((k::r).take (lenOf k))=false then none else some ((k::r).take (lenOf k))
inductive cE:Raw->Prop
 |input {k:Int} (h:0<=k):cE [0,k]
 |num {n d:Int} (h:1<=d):cE [1,n,d]
 |add {i j:Int} (h:0<=i) (h':0<=j):cE [2,i,j]
 |sub {i j:Int} (h:0<=i) (h':0<=j):cE [3,i,j]
 |mul {i j:Int} (h:0<=i) (h':0<=j):cE [4,i,j]
 |div {i j:Int} (h:0<=i) (h':0<=j):cE [5,i,j]
 |neg {i:Int} (h:0<=i):cE [6,i]
theorem CT(f:Nat)(k:Int)(r:List Int):VagraLine.codeOf (f+1) (k::r)=match di (k::r) with
 |none=>none
 |some t=>(VagraLine.codeOf f ((k::r).drop t.length)).map fun c=>bx t::c:=by
 by_cases hk:k<0\/7<=k
 . have e:di (k::r)=none:=by show (if k<0\/7<=k then none else _)=none;rw [if_pos hk]
   rw [e];unfold VagraLine.codeOf;split<;>first|omega|rfl
 . have hk2:k=0\/k=1\/k=2\/k=3\/k=4\/k=5\/k=6:=by omega
   rcases hk2 with rfl|rfl|rfl|rfl|rfl|rfl|rfl
   . match r with
     |[]=>rfl
     |x::s=>by_cases h:x<0<;>simp [VagraLine.codeOf,di,lenOf,fits,h,bx]<;>(try omega)<;>(try (rw [if_neg (by omega)]))<;>simp [bx]
   . match r with
     |[]=>rfl
     |[x]=>rfl
     |x::y::s=>by_cases h:y<1<;>simp [VagraLine.codeOf,di,lenOf,fits,h,bx]<;>(try omega)<;>(try (rw [if_neg (by omega)]))<;>simp [bx]
   . match r with
     |[]=>rfl
     |[x]=>rfl
     |x::y::s=>by_cases h:x<0<;>by_cases h2:y<0<;>simp [VagraLine.codeOf,di,lenOf,fits,h,h2,bx]<;>(try omega)<;>(try (rw [if_neg (by omega)]))<;>simp [bx]
   . match r with
     |[]=>rfl
     |[x]=>rfl
     |x::y::s=>by_cases h:x<0<;>by_cases h2:y<0<;>simp [VagraLine.codeOf,di,lenOf,fits,h,h2,bx]<;>(try omega)<;>(try (rw [if_neg (by omega)]))<;>simp [bx]
   . match r with
     |[]=>rfl
     |[x]=>rfl
     |x::y::s=>by_cases h:x<0<;>by_cases h2:y<0<;>simp [VagraLine.codeOf,di,lenOf,fits,h,h2,bx]<;>(try omega)<;>(try (rw [if_neg (by omega)]))<;>simp [bx]
   . match r with
     |[]=>rfl
     |[x]=>rfl
     |x::y::s=>by_cases h:x<0<;>by_cases h2:y<0<;>simp [VagraLine.codeOf,di,lenOf,fits,h,h2,bx]<;>(try omega)<;>(try (rw [if_neg (by omega)]))<;>simp [bx]
   . match r with
     |[]=>rfl
     |x::s=>by_cases h:x<0<;>simp [VagraLine.codeOf,di,lenOf,fits,h,bx]<;>(try omega)<;>(try (rw [if_neg (by omega)]))<;>simp [bx]
theorem jn{ns:List Int}{t:Raw}(h:di ns=some t):cE t/\t <+: ns/\0<t.length:=by
 match ns,h with
 |
  k::r,h=>
  by_cases hk:k<0\/7<=k
  . have e:di (k::r)=none:=by show (if k<0\/7<=k then none else _)=none;rw [if_pos hk]
    rw [e] at h;cases h
  . have hk2:k=0\/k=1\/k=2\/k=3\/k=4\/k=5\/k=6:=by omega
    have e:(if k<0\/7<=k then none else
     if ((k::r).take (lenOf k)).length<lenOf k\/fits ((k::r).take (lenOf k))=false then none else some ((k::r).take (lenOf k)))=some t:=h
    rw [if_neg hk] at e;split at e
    . cases e
    . rename_i h2;cases e;have h3:lenOf k<=((k::r).take (lenOf k)).length:=by omega
      have h4:fits ((k::r).take (lenOf k))=true:=by
       cases q:fits ((k::r).take (lenOf k)) with
       |true=>rfl
       |false=>exact absurd (Or.inr q) h2
      refine ⟨?_,List.take_prefix _ _,?_⟩
      . rcases hk2 with rfl|rfl|rfl|rfl|rfl|rfl|rfl
        . match r,h3,h4 with
          |x::s,h3,h4=>exact .input (by simpa [fits,lenOf] using h4)
          |[],h3,h4=>simp [lenOf] at h3
        . match r,h3,h4 with
          |x::y::s,h3,h4=>exact .num (by simpa [fits,lenOf] using h4)
          |[x],h3,h4=>simp [lenOf] at h3
          |[],h3,h4=>simp [lenOf] at h3
        . match r,h3,h4 with
          |x::y::s,h3,h4=>have:0<=x/\0<=y:=(by simpa [fits,lenOf] using h4);exact .add this.1 this.2
          |[x],h3,h4=>simp [lenOf] at h3
          |[],h3,h4=>simp [lenOf] at h3
        . match r,h3,h4 with
          |x::y::s,h3,h4=>have:0<=x/\0<=y:=(by simpa [fits,lenOf] using h4);exact .sub this.1 this.2
          |[x],h3,h4=>simp [lenOf] at h3
          |[],h3,h4=>simp [lenOf] at h3
        . match r,h3,h4 with
          |x::y::s,h3,h4=>have:0<=x/\0<=y:=(by simpa [fits,lenOf] using h4);exact .mul this.1 this.2
          |[x],h3,h4=>simp [lenOf] at h3
          |[],h3,h4=>simp [lenOf] at h3
        . match r,h3,h4 with
          |x::y::s,h3,h4=>have:0<=x/\0<=y:=(by simpa [fits,lenOf] using h4);exact .div this.1 this.2
          |[x],h3,h4=>simp [lenOf] at h3
          |[],h3,h4=>simp [lenOf] at h3
        . match r,h3,h4 with
          |x::s,h3,h4=>exact .neg (by simpa [fits,lenOf] using h4)
          |[],h3,h4=>simp [lenOf] at h3
      . unfold lenOf at h3 ⊢;split at h3<;>simp_all<;>omega
noncomputable def bY:Nat->List Int->Option (List Raw)
 |_,[]=>some []
 |0,_::_=>none
 |
  f+1,k::r=>match di (k::r) with
  |none=>none
  |some t=>(bY f ((k::r).drop t.length)).map fun c=>t::c
theorem Am:∀ (f:Nat) (l:List Int),VagraLine.codeOf f l=(bY f l).map fun ts=>ts.map bx
 |0,[]=>rfl
 |f+1,[]=>rfl
 |0,k::r=>rfl
 |
  f+1,k::r=>by
  rw [CT];show _=Option.map _ (match di (k::r) with
   |none=>none
   |some t=>(bY f ((k::r).drop t.length)).map fun c=>t::c)
  cases di (k::r) with
  |none=>rfl
  |
   some t=>
   dsimp only;rw [Am f];cases bY f ((k::r).drop t.length)<;>rfl
theorem iw:∀ {f:Nat} {l:List Int} {ts:List Raw},bY f l=some ts->∀ t,t∈ts->cE t
 |
  f,[],ts,h=>by
  have h:some []=some ts:=by cases f<;>exact h
  cases h;intro t ht;cases ht
 |0,k::r,ts,h=>nomatch h
 |
  f+1,k::r,ts,h=>by
  have h:(match di (k::r) with
   |none=>none
   |some t=>(bY f ((k::r).drop t.length)).map fun c=>t::c)=some ts:=h
  cases e:di (k::r) with
  |none=>rw [e] at h;cases h
  |
   some t=>
   rw [e] at h;dsimp only at h;cases e2:bY f ((k::r).drop t.length) with
   |none=>rw [e2] at h;cases h
   |
    some us=>
    rw [e2] at h;cases h;intro x hx;rcases List.mem_cons.mp hx with rfl|hx
    . exact (jn e).1
    . exact iw e2 x hx
noncomputable def cz(inputs place:Nat)(t:Raw):Bool:=match t with
 |[0,k]=>decide (k<inputs)
 |[1,_,_]=>true
 |[6,i]=>decide (i<place)
 |[_,i,j]=>decide (i<place) && decide (j<place)
 |_=>true
noncomputable def bK(inputs:Nat):Nat->List Raw->Bool
 |_,[]=>true
 |n,t::r=>cz inputs n t && bK inputs (n+1) r
theorem F9(inputs:Nat):∀ (n:Nat) (ts:List Raw),(∀ t,t∈ts->cE t)->VagraLine.wellFrom inputs n (ts.map bx)=bK inputs n ts
 |_,[],_=>rfl
 |
  n,t::r,h=>by
  have ih:=F9 inputs (n+1) r fun x hx=>h x (List.mem_cons_of_mem _ hx);have ht:=h t List.mem_cons_self;show ((bx t).uses.all (fun i=>decide (i<n)) && _ && VagraLine.wellFrom inputs (n+1) (r.map bx))=_;rw [ih];show _=(cz inputs n t && bK inputs (n+1) r)
  congr 1;have tn:∀ {i:Int} {k:Nat},0<=i->decide (i.toNat<k)=decide (i<(k:Int)):=fun {i k} h=>decide_eq_decide.mpr (by omega);clear h;cases ht with
  |input h=>simp [bx,cz,Line.uses,tn h]
  |num h=>simp [bx,cz,Line.uses]
  |add h h'=>simp [bx,cz,Line.uses,tn h,tn h']
  |sub h h'=>simp [bx,cz,Line.uses,tn h,tn h']
  |mul h h'=>simp [bx,cz,Line.uses,tn h,tn h']
  |div h h'=>simp [bx,cz,Line.uses,tn h,tn h']
  |neg h=>simp [bx,cz,Line.uses,tn h]
noncomputable def oN(pt vs:List Rat)(t:Raw):Option Rat:=match t with
 |[0,k]=>some (pt.getD k.toNat 0)
 |[1,n,d]=>some (mkRat n d.toNat)
 |[2,i,j]=>some (vs.getD i.toNat 0+vs.getD j.toNat 0)
 |[3,i,j]=>some (vs.getD i.toNat 0-vs.getD j.toNat 0)
 |[4,i,j]=>some (vs.getD i.toNat 0*vs.getD j.toNat 0)
 |[5,i,j]=>if vs.getD j.toNat 0=0 then none else some (vs.getD i.toNat 0 / vs.getD j.toNat 0)
 |[6,i]=>some (-vs.getD i.toNat 0)
 |_=>none
theorem value_eq(pt vs:List Rat){t:Raw}(h:cE t):(bx t).value (pt.map F) (vs.map F)=(oN pt vs t).map F:=by
 cases h with
 |input h=>simp [bx,oN,Line.value,cO]
 |num h=>simp [bx,oN,Line.value,jS]
 |add h h'=>simp [bx,oN,Line.value,cO,sL]
 |sub h h'=>simp [bx,oN,Line.value,cO,CJ]
 |mul h h'=>simp [bx,oN,Line.value,cO,qG]
 |
  @div i j h h'=>
  show (if Vagraa.isZero (at_ (vs.map F) j.toNat)=true then none else some (Vagraa.div (at_ (vs.map F) i.toNat) (at_ (vs.map F) j.toNat)))=Option.map F (if vs.getD j.toNat 0=0 then none else some (vs.getD i.toNat 0 / vs.getD j.toNat 0));rw [cO,cO,CK,Jh];by_cases e:vs.getD j.toNat 0=0
  . rw [if_pos e,if_pos (decide_eq_true e)];rfl
  . rw [if_neg e,if_neg (by rw [decide_eq_true_eq];exact e)];rfl
 |neg h=>simp [bx,oN,Line.value,cO,Jg]
noncomputable def aO(pt:List Rat):List Rat->List Raw->List Rat × Option Nat
 |vs,[]=>(vs,none)
 |
  vs,t::r=>match oN pt vs t with
  |none=>(vs,some 1)
  |some q=>if 2000<wt q then (vs,some 2) else aO pt (vs++[q]) r
theorem run_eq(pt:List Rat):∀ (ts:List Raw) (vs:List Rat),(∀ t,t∈ts->cE t)->
 VagraLine.runFrom (some 2000) (pt.map F) (vs.map F) (ts.map bx)=match (aO pt vs ts).2 with
  |none=>.ok ((aO pt vs ts).1.map F)
  |some k=>.error ⟨(aO pt vs ts).1.length,k⟩
 |[],vs,_=>rfl
 |
  t::r,vs,h=>by
  have ht:=h t List.mem_cons_self;show (match (bx t).value (pt.map F) (vs.map F) with
   |none=>Except.error (VagraLine.Fault.mk (vs.map F).length 1)
   |some a=>if decide (2000<Vagraa.weight a)=true then .error (VagraLine.Fault.mk (vs.map F).length 2) else VagraLine.runFrom (some 2000) (pt.map F) (vs.map F++[a]) (r.map bx))=_
  rw [value_eq pt vs ht];unfold aO;cases e:oN pt vs t with
  |none=>simp
  |
   some q=>
   dsimp only [Option.map_some];by_cases hw:2000<wt q
   . rw [if_pos hw,if_pos (show decide (2000<Vagraa.weight (F q))=true from decide_eq_true hw)];simp
   . rw [if_neg hw,if_neg (show ¬ decide (2000<Vagraa.weight (F q))=true by rw [decide_eq_true_eq];exact hw)];have ih:=run_eq pt r (vs++[q]) fun x hx=>h x (List.mem_cons_of_mem _ hx);rw [List.map_append] at ih;exact ih
noncomputable def cT(by_:Nat)(vs ds:List Rat)(v:Rat)(t:Raw):Rat:=match t with
 |[0,k]=>if k.toNat=by_ then 1 else 0
 |[1,_,_]=>0
 |[2,i,j]=>ds.getD i.toNat 0+ds.getD j.toNat 0
 |[3,i,j]=>ds.getD i.toNat 0-ds.getD j.toNat 0
 |[4,i,j]=>ds.getD i.toNat 0*vs.getD j.toNat 0+vs.getD i.toNat 0*ds.getD j.toNat 0
 |[5,i,j]=>(ds.getD i.toNat 0-v*ds.getD j.toNat 0) / vs.getD j.toNat 0
 |[6,i]=>-ds.getD i.toNat 0
 |_=>0
theorem Lg(n k i:Nat)(hi:i<n):at_ (Vagran.unit n k) i=F (if i=k then 1 else 0):=by
 unfold Vagran.unit at_;rw [j8,if_pos hi];split<;>rfl
theorem G8(n k:Nat)(vs ds:List Rat)(v:Rat){t:Raw}(h:cE t)(p:Nat)(hu:cz n p t=true) :
 Vagrae.Line.change (Vagran.unit n k) (vs.map F) (ds.map F) (F v) (bx t)=F (cT k vs ds v t):=by
 cases h with
 |
  @input x h=>
  have:x.toNat<n:=by have:decide (x<(n:Int))=true:=hu;rw [decide_eq_true_eq] at this;omega
  exact Lg n k x.toNat this
 |num h=>rfl
 |add h h'=>simp [bx,cT,Vagrae.Line.change,cO,sL]
 |sub h h'=>simp [bx,cT,Vagrae.Line.change,cO,CJ]
 |mul h h'=>simp [bx,cT,Vagrae.Line.change,cO,qG,sL]
 |div h h'=>simp [bx,cT,Vagrae.Line.change,cO,qG,CJ,Jh]
 |neg h=>simp [bx,cT,Vagrae.Line.change,cO,Jg]
noncomputable def bW(by_:Nat)(vs:List Rat):List Rat->List Raw->List Rat
 |ds,[]=>ds
 |ds,t::r=>bW by_ vs (ds++[cT by_ vs ds (vs.getD ds.length 0) t]) r
theorem xH(n k:Nat)(vs:List Rat):∀ (ts:List Raw) (ds:List Rat),(∀ t,t∈ts->cE t)->bK n ds.length ts=true->
 Vagrae.changesFrom (Vagran.unit n k) (vs.map F) (ds.map F) (ts.map bx)=(bW k vs ds ts).map F
 |[],ds,_,_=>rfl
 |
  t::r,ds,h,hu=>by
  have ht:=h t List.mem_cons_self;have hu:(cz n ds.length t && bK n (ds.length+1) r)=true:=hu;rw [Bool.and_eq_true] at hu;show Vagrae.changesFrom (Vagran.unit n k) (vs.map F) (ds.map F++[Vagrae.Line.change (Vagran.unit n k) (vs.map F) (ds.map F) (at_ (vs.map F) (ds.map F).length) (bx t)]) (r.map bx)=_;rw [cO,List.length_map,G8 n k vs ds _ ht _ hu.1];have ih:=xH n k vs r (ds++[cT k vs ds (vs.getD ds.length 0) t]) (fun x hx=>h x (List.mem_cons_of_mem _ hx)) (by rw [List.length_append];exact hu.2);rw [List.map_append] at ih;exact ih
end Ex
namespace Ex
noncomputable def Sz(b:Nat)(q:Rat):Prop:=q.num.natAbs<2 ^ b/\q.den<2 ^ b
noncomputable def Bd(b:Nat)(x:Int):Prop:=x.natAbs<2 ^ b
theorem c9{a b:Nat}(h:a<=b):(2:Nat) ^ a<=2 ^ b:=Nat.pow_le_pow_right (by decide) h
theorem Sz.mono{a b:Nat}{q:Rat}(h:Sz a q)(hab:a<=b):Sz b q:=⟨Nat.lt_of_lt_of_le h.1 (c9 hab),Nat.lt_of_lt_of_le h.2 (c9 hab)⟩
theorem Bd.mono{a b:Nat}{x:Int}(h:Bd a x)(hab:a<=b):Bd b x:=Nat.lt_of_lt_of_le h (c9 hab)
theorem Sz.xJ{q:Rat}{b:Nat}(h:wt q<=b):Sz b q:=by
 unfold wt Vagraa.weight at h;have h:Vagraa.bits q.num.natAbs+Vagraa.bits q.den<=b:=h;exact ⟨lt_pow_of_bits (by omega),lt_pow_of_bits (by omega)⟩
theorem cX{x y a b:Nat}(hx:x<2 ^ a)(hy:y<2 ^ b):x*y<2 ^ (a+b):=by
 rw [Nat.pow_add];exact Nat.mul_lt_mul'' hx hy
theorem kg{n:Int}{d b:Nat}(hd:d≠0)(h1:n.natAbs<2 ^ b)(h2:d<2 ^ b):Sz b (mkRat n d):=by
 refine ⟨?_,?_⟩
 . rw [j0 n hd];refine Nat.lt_of_le_of_lt ?_ h1;rw [Int.natAbs_ediv_of_dvd (Int.ofNat_dvd_left.mpr (Nat.gcd_dvd_left _ _))];exact Nat.div_le_self _ _
 . rw [iW n hd];exact Nat.lt_of_le_of_lt (Nat.div_le_self _ _) h2
theorem Sz.add{a b:Nat}{p q:Rat}(hp:Sz a p)(hq:Sz b q):Sz (a+b+1) (p+q):=by
 rw [Rat.add_def'];refine kg (Nat.mul_ne_zero p.den_nz q.den_nz) ?_ ?_
 . have h1:=cX hp.1 hq.2;have h2:=cX hq.1 hp.2;rw [Nat.add_comm b a] at h2;have h3:(p.num*(q.den:Int)+q.num*(p.den:Int)).natAbs<=p.num.natAbs*q.den+q.num.natAbs*p.den:=by
    refine Nat.le_trans (Int.natAbs_add_le _ _) ?_;rw [Int.natAbs_mul,Int.natAbs_mul,Int.natAbs_natCast,Int.natAbs_natCast];exact Nat.le_refl _
   rw [Nat.pow_succ];omega
 . exact Nat.lt_of_lt_of_le (cX hp.2 hq.2) (c9 (by omega))
theorem Sz.neg{a:Nat}{p:Rat}(hp:Sz a p):Sz a (-p):=by
 refine ⟨?_,hp.2⟩;show (-p.num).natAbs<2 ^ a;rw [Int.natAbs_neg];exact hp.1
theorem Sz.sub{a b:Nat}{p q:Rat}(hp:Sz a p)(hq:Sz b q):Sz (a+b+1) (p-q):=by
 rw [Rat.sub_eq_add_neg];exact hp.add hq.neg
theorem Sz.mul{a b:Nat}{p q:Rat}(hp:Sz a p)(hq:Sz b q):Sz (a+b) (p*q):=by
 rw [Rat.mul_def,Rat.normalize_eq_mkRat];refine kg (Nat.mul_ne_zero p.den_nz q.den_nz) ?_ (cX hp.2 hq.2);rw [Int.natAbs_mul];exact cX hp.1 hq.1
theorem CU{p:Rat}(h:p≠0):p⁻¹.num.natAbs=p.den/\p⁻¹.den=p.num.natAbs:=by
 have e:p⁻¹=Rat.inv p:=rfl;have h0:p.num≠0:=fun z=>h (Rat.num_eq_zero.mp z);rw [e];unfold Rat.inv;by_cases hn:p.num<0
 . rw [dif_pos hn];exact ⟨by show (-(p.den:Int)).natAbs=p.den;omega,rfl⟩
 . rw [dif_neg hn,dif_pos (by omega)];exact ⟨by show ((p.den:Int)).natAbs=p.den;omega,rfl⟩
theorem Sz.inv{a:Nat}{p:Rat}(h:p≠0)(hp:Sz a p):Sz a p⁻¹:=by
 obtain ⟨h1,h2⟩:=CU h;exact ⟨by rw [h1];exact hp.2,by rw [h2];exact hp.1⟩
theorem Sz.div{a b:Nat}{p q:Rat}(h:q≠0)(hp:Sz a p)(hq:Sz b q):Sz (a+b) (p / q):=by
 rw [Rat.div_def];exact hp.mul (hq.inv h)
theorem Sz.zero(a:Nat)(h:1<=a):Sz a 0:=⟨Nat.two_pow_pos a,by
 have:(2:Nat) ^ 1<=2 ^ a:=c9 h;show 1<2 ^ a;omega⟩
noncomputable def Ab(B:Nat)(p:Rat):Prop:=p.num.natAbs<=B*p.den
theorem CV{n:Int}{d B:Nat}(hd:d≠0)(h:n.natAbs<=B*d):Ab B (mkRat n d):=by
 unfold Ab;rw [j0 n hd,iW n hd];have hg:0<Nat.gcd n.natAbs d:=Nat.gcd_pos_of_pos_right _ (Nat.pos_of_ne_zero hd);rw [Int.natAbs_ediv_of_dvd (Int.ofNat_dvd_left.mpr (Nat.gcd_dvd_left _ _)),Int.natAbs_natCast];obtain ⟨x,hx⟩:=Nat.gcd_dvd_left n.natAbs d;obtain ⟨y,hy⟩:=Nat.gcd_dvd_right n.natAbs d;generalize Nat.gcd n.natAbs d=g at *;rw [hx,hy,Nat.mul_div_cancel_left _ hg,Nat.mul_div_cancel_left _ hg];rw [hx,hy] at h;have h:g*x<=g*(B*y):=by rw [show g*(B*y)=B*(g*y) by grind];exact h
 exact Nat.le_of_mul_le_mul_left h hg
theorem Ab.mono{B C:Nat}{p:Rat}(h:Ab B p)(hc:B<=C):Ab C p:=Nat.le_trans h (Nat.mul_le_mul_right _ hc)
theorem Ab.add{B C:Nat}{p q:Rat}(hp:Ab B p)(hq:Ab C q):Ab (B+C) (p+q):=by
 rw [Rat.add_def'];refine CV (Nat.mul_ne_zero p.den_nz q.den_nz) ?_;refine Nat.le_trans (Int.natAbs_add_le _ _) ?_;rw [Int.natAbs_mul,Int.natAbs_mul,Int.natAbs_natCast,Int.natAbs_natCast];have h1:=Nat.mul_le_mul_right q.den hp;have h2:=Nat.mul_le_mul_right p.den hq;have e1:(B+C)*(p.den*q.den)=B*p.den*q.den+C*q.den*p.den:=by grind
 rw [e1];exact Nat.add_le_add h1 h2
theorem Ab.neg{B:Nat}{p:Rat}(h:Ab B p):Ab B (-p):=by
 show (-p.num).natAbs<=B*p.den;rw [Int.natAbs_neg];exact h
theorem Ab.sub{B C:Nat}{p q:Rat}(hp:Ab B p)(hq:Ab C q):Ab (B+C) (p-q):=by
 rw [Rat.sub_eq_add_neg];exact hp.add hq.neg
theorem Ab.mul{B C:Nat}{p q:Rat}(hp:Ab B p)(hq:Ab C q):Ab (B*C) (p*q):=by
 rw [Rat.mul_def,Rat.normalize_eq_mkRat];refine CV (Nat.mul_ne_zero p.den_nz q.den_nz) ?_;rw [Int.natAbs_mul];have:=Nat.mul_le_mul hp hq;rw [show B*C*(p.den*q.den)=B*p.den*(C*q.den) by grind];exact this
theorem Ab.CW{b:Nat}{p:Rat}(h:Sz b p):Ab (2 ^ b) p:=Nat.le_trans (Nat.le_of_lt h.1) (Nat.le_mul_of_pos_right _ p.den_pos)
theorem qJ(n:Int){d:Nat}(hd:d≠0):(mkRat n d).den∣d:=by
 rw [iW n hd];exact Nat.div_dvd_of_dvd (Nat.gcd_dvd_right _ _)
theorem lG{p q:Rat}{P:Nat}(hP:P≠0)(hp:p.den∣P)(hq:q.den∣P):(p+q).den∣P:=by
 obtain ⟨x,hx⟩:=hp;obtain ⟨y,hy⟩:=hq;have U_:x≠0:=fun z=>hP (by rw [hx,z,Nat.mul_zero]);have Va:y≠0:=fun z=>hP (by rw [hy,z,Nat.mul_zero]);have e1:p=mkRat (p.num*x) P:=by
  conv=>lhs;rw [<-Rat.mkRat_self p]
  rw [hx];rw [Rat.mkRat_mul_right U_]
 have e2:q=mkRat (q.num*y) P:=by
  conv=>lhs;rw [<-Rat.mkRat_self q]
  rw [hy];rw [Rat.mkRat_mul_right Va]
 have e3:p+q=mkRat (p.num*x+q.num*y) P:=by
  conv=>lhs;rw [e1,e2]
  rw [Rat.mkRat_add_mkRat _ _ hP hP];have:(p.num*(x:Int))*(P:Int)+(q.num*(y:Int))*(P:Int)=(p.num*x+q.num*y)*P:=by grind
  rw [this,Rat.mkRat_mul_right hP]
 rw [e3];exact qJ _ hP
theorem F_(p:Rat):(-p).den=p.den:=rfl
theorem vJ{p q:Rat}{P:Nat}(hP:P≠0)(hp:p.den∣P)(hq:q.den∣P):(p-q).den∣P:=by
 rw [Rat.sub_eq_add_neg];exact lG hP hp (by rw [F_];exact hq)
theorem jv{p q:Rat}{P Q:Nat}(hp:p.den∣P)(hq:q.den∣Q):(p*q).den∣P*Q:=by
 rw [Rat.mul_def,Rat.normalize_eq_mkRat];exact Nat.dvd_trans (qJ _ (Nat.mul_ne_zero p.den_nz q.den_nz)) (Nat.mul_dvd_mul hp hq)
theorem Sz.Ao{a b:Nat}{p:Rat}{P:Nat}(hP:P≠0)(hd:p.den∣P)(h1:P<=2 ^ a)(h2:Ab (2 ^ b) p):Sz (a+b+1) p:=by
 have h3:p.den<=2 ^ a:=Nat.le_trans (Nat.le_of_dvd (Nat.pos_of_ne_zero hP) hd) h1;have hp1:2 ^ (a+b+1)=2 ^ a*2 ^ b*2:=by rw [Nat.pow_succ,Nat.pow_add]
 have h4:0<2 ^ a:=Nat.two_pow_pos a;have h5:0<2 ^ b:=Nat.two_pow_pos b;refine ⟨?_,?_⟩
 . have h6:p.num.natAbs<=2 ^ b*2 ^ a:=Nat.le_trans h2 (Nat.mul_le_mul_left _ h3);have h7:0<2 ^ b*2 ^ a:=Nat.mul_pos h5 h4;rw [hp1,Nat.mul_comm (2 ^ a)];omega
 . have h7:2 ^ a*1<=2 ^ a*2 ^ b:=Nat.mul_le_mul_left _ h5;rw [hp1];omega
end Ex
namespace Ex
theorem Sz.inv'{a:Nat}{p:Rat}(ha:1<=a)(hp:Sz a p):Sz a p⁻¹:=by
 by_cases h:p=0
 . subst h;rw [show (0:Rat)⁻¹=0 from by simp];exact Sz.zero a ha
 . exact hp.inv h
noncomputable def oq(vs:List Rat)(v:Rat)(t:Raw):Nat:=match t with
 |[4,i,j]=>(vs.getD i.toNat 0).den*(vs.getD j.toNat 0).den
 |[5,_,j]=>v.den*(vs.getD j.toNat 0)⁻¹.den
 |_=>1
noncomputable def jP(vs:List Rat):Nat->List Raw->Nat
 |_,[]=>1
 |p,t::r=>oq vs (vs.getD p 0) t*jP vs (p+1) r
theorem qw(vs:List Rat):∀ (ts:List Raw) (p:Nat),jP vs p ts≠0
 |[],p=>Nat.one_ne_zero
 |
  t::r,p=>by
  show oq vs (vs.getD p 0) t*jP vs (p+1) r≠0;refine Nat.mul_ne_zero ?_ (qw vs r (p+1));unfold oq;split
  . exact Nat.mul_ne_zero (Rat.den_nz _) (Rat.den_nz _)
  . exact Nat.mul_ne_zero (Rat.den_nz _) (Rat.den_nz _)
  . exact Nat.one_ne_zero
theorem Jl{vs:List Rat}{V:Nat}(hV:1<=V)(hv:∀ i,Sz V (vs.getD i 0))(p:Nat)(t:Raw):oq vs (vs.getD p 0) t<=2 ^ (V+V):=by
 unfold oq;split
 . exact Nat.le_of_lt (cX (a:=V) (b:=V) (hv _).2 (hv _).2)
 . exact Nat.le_of_lt (cX (a:=V) (b:=V) (hv _).2 ((hv _).inv' hV).2)
 . exact Nat.one_le_two_pow
theorem xK{vs:List Rat}{V:Nat}(hV:1<=V)(hv:∀ i,Sz V (vs.getD i 0)):∀ (ts:List Raw) (p:Nat),jP vs p ts<=2 ^ ((V+V)*ts.length)
 |[],p=>Nat.le_refl 1
 |
  t::r,p=>by
  show oq vs (vs.getD p 0) t*jP vs (p+1) r<=2 ^ ((V+V)*(r.length+1));have e:(V+V)*(r.length+1)=(V+V)+(V+V)*r.length:=by rw [Nat.mul_add,Nat.mul_one,Nat.add_comm]
  rw [e,Nat.pow_add];exact Nat.mul_le_mul (Jl hV hv p t) (xK hV hv r (p+1))
noncomputable def Em(P B:Nat)(ds:List Rat):Prop:=∀ i,(ds.getD i 0).den∣P/\Ab B (ds.getD i 0)
theorem Jm{by_:Nat}{vs ds:List Rat}{V:Nat}(hV:1<=V)(hv:∀ i,Sz V (vs.getD i 0)){P B:Nat}(hP:P≠0)(hB:1<=B)(h:Em P B ds)(p:Nat)(t:Raw) :
 (cT by_ vs ds (vs.getD p 0) t).den∣P*oq vs (vs.getD p 0) t/\Ab (B*2 ^ (V+V+1)) (cT by_ vs ds (vs.getD p 0) t):=by
 have e1:B<=B*2 ^ (V+V+1):=Nat.le_mul_of_pos_right _ (Nat.two_pow_pos _);have e2:B+B<=B*2 ^ (V+V+1):=by
  have:B*2 ^ 1<=B*2 ^ (V+V+1):=Nat.mul_le_mul_left _ (c9 (by omega));rw [Nat.pow_one] at this;omega
 have vA:∀ i,Ab (2 ^ V) (vs.getD i 0):=fun i=>Ab.CW (hv i);have vI:∀ i,Ab (2 ^ V) (vs.getD i 0)⁻¹:=fun i=>Ab.CW ((hv i).inv' hV);have one:∀ q:Rat,q=0\/q=1->q.den∣P*1/\Ab (B*2 ^ (V+V+1)) q:=fun q hq=>by
  rcases hq with rfl|rfl
  . exact ⟨Nat.one_dvd _,Nat.zero_le _⟩
  . refine ⟨Nat.one_dvd _,?_⟩;show 1<=B*2 ^ (V+V+1)*1;omega
 unfold cT oq;split
 . split
   . exact one 1 (Or.inr rfl)
   . exact one 0 (Or.inl rfl)
 . exact one 0 (Or.inl rfl)
 . rename_i i j;exact ⟨by show _∣P*1;rw [Nat.mul_one];exact lG hP (h _).1 (h _).1,((h _).2.add (h _).2).mono e2⟩
 . rename_i i j;exact ⟨by show _∣P*1;rw [Nat.mul_one];exact vJ hP (h _).1 (h _).1,((h _).2.sub (h _).2).mono e2⟩
 . rename_i i j;have hQ:P*((vs.getD i.toNat 0).den*(vs.getD j.toNat 0).den)≠0:=Nat.mul_ne_zero hP (Nat.mul_ne_zero (Rat.den_nz _) (Rat.den_nz _));refine ⟨lG hQ ?_ ?_,?_⟩
   . refine Nat.dvd_trans (jv (h _).1 (Nat.dvd_refl _)) ?_;exact Nat.mul_dvd_mul_left P (Nat.dvd_mul_left _ _)
   . refine Nat.dvd_trans (jv (Nat.dvd_refl _) (h _).1) ?_;rw [Nat.mul_comm];exact Nat.mul_dvd_mul_left P (Nat.dvd_mul_right _ _)
   . refine (((h _).2.mul (vA _)).add ((vA _).mul (h _).2)).mono ?_;have:B*(2 ^ V*2)<=B*2 ^ (V+V+1):=Nat.mul_le_mul_left _ (by rw [<-Nat.pow_succ];exact c9 (by omega));rw [Nat.mul_comm (2 ^ V) B];have e:B*(2 ^ V*2)=B*2 ^ V+B*2 ^ V:=by grind
     omega
 . rename_i i j;have hQ:P*(vs.getD p 0).den≠0:=Nat.mul_ne_zero hP (Rat.den_nz _);rw [Rat.div_def];refine ⟨?_,?_⟩
   . show _∣P*((vs.getD p 0).den*(vs.getD j.toNat 0)⁻¹.den);rw [<-Nat.mul_assoc];refine jv (vJ hQ ?_ ?_) (Nat.dvd_refl _)
     . exact Nat.dvd_trans (h _).1 (Nat.dvd_mul_right _ _)
     . refine Nat.dvd_trans (jv (Nat.dvd_refl _) (h _).1) ?_;rw [Nat.mul_comm];exact Nat.dvd_refl _
   . refine (((h _).2.sub ((vA p).mul (h _).2)).mul (vI _)).mono ?_;have h1:B<=2 ^ V*B:=Nat.le_mul_of_pos_left _ (Nat.two_pow_pos _);have h2:(B+2 ^ V*B)*2 ^ V<=(2 ^ V*B+2 ^ V*B)*2 ^ V:=Nat.mul_le_mul_right _ (by omega);refine Nat.le_trans h2 ?_;have e:(2 ^ V*B+2 ^ V*B)*2 ^ V=B*(2*(2 ^ V*2 ^ V)):=by
      generalize (2:Nat) ^ V=x;grind
     rw [e];apply Nat.mul_le_mul_left;rw [<-Nat.pow_add,Nat.mul_comm,<-Nat.pow_succ];exact Nat.le_refl _
 . exact ⟨by show _∣P*1;rw [Nat.mul_one];exact (h _).1,((h _).2.neg).mono e1⟩
 . split<;>first|exact one 0 (Or.inl rfl)|(refine ⟨Nat.one_dvd _,Nat.zero_le _⟩)
theorem uB{by_:Nat}{vs:List Rat}{V:Nat}(hV:1<=V)(hv:∀ i,Sz V (vs.getD i 0)):∀ (ts:List Raw) (ds:List Rat) (P B:Nat),P≠0->1<=B->Em P B ds->
 Em (P*jP vs ds.length ts) (B*2 ^ ((V+V+1)*ts.length)) (bW by_ vs ds ts)
 |
  [],ds,P,B,_,_,h=>by
  show Em (P*1) (B*1) ds;rw [Nat.mul_one,Nat.mul_one];exact h
 |
  t::r,ds,P,B,hP,hB,h=>by
  have h1:=Jm (by_:=by_) hV hv hP hB h ds.length t;have hl:oq vs (vs.getD ds.length 0) t≠0:=fun z=>by
   have:=qw vs [t] ds.length;exact this (by show oq vs (vs.getD ds.length 0) t*1=0;rw [z])
  have e1:B<=B*2 ^ (V+V+1):=Nat.le_mul_of_pos_right _ (Nat.two_pow_pos _);have ih:=uB (by_:=by_) hV hv r (ds++[cT by_ vs ds (vs.getD ds.length 0) t]) (P*oq vs (vs.getD ds.length 0) t) (B*2 ^ (V+V+1)) (Nat.mul_ne_zero hP hl) (by omega) fun i=>by
   rw [List.getD_eq_getElem?_getD,List.getElem?_append];by_cases hi:i<ds.length
   . rw [if_pos hi,<-List.getD_eq_getElem?_getD];exact ⟨Nat.dvd_trans (h i).1 (Nat.dvd_mul_right _ _),(h i).2.mono e1⟩
   . rw [if_neg hi];by_cases h2:i-ds.length=0
     . rw [h2];exact h1
     . rw [List.getElem?_eq_none (by simp;omega)];exact ⟨Nat.one_dvd _,Nat.zero_le _⟩
  rw [List.length_append,List.length_singleton] at ih;show Em (P*(oq vs (vs.getD ds.length 0) t*jP vs (ds.length+1) r)) (B*2 ^ ((V+V+1)*(r.length+1))) _;have e:(V+V+1)*(r.length+1)=(V+V+1)+(V+V+1)*r.length:=by rw [Nat.mul_add,Nat.mul_one,Nat.add_comm]
  rw [<-Nat.mul_assoc,e,Nat.pow_add,<-Nat.mul_assoc];exact ih
theorem CY{by_:Nat}{vs:List Rat}(hv:∀ i,Sz 2000 (vs.getD i 0)){ts:List Raw}(hl:ts.length<=60)(i:Nat) :
 ((bW by_ vs [] ts).getD i 0).den∣jP vs 0 ts/\jP vs 0 ts<=2 ^ 240000/\Sz 480061 ((bW by_ vs [] ts).getD i 0):=by
 have h0:Em 1 1 []:=fun i=>⟨Nat.dvd_refl 1,Nat.zero_le _⟩
 have gen:∀ V:Nat,V=2000->((bW by_ vs [] ts).getD i 0).den∣jP vs 0 ts/\jP vs 0 ts<=2 ^ (120*V)/\Sz (240*V+61) ((bW by_ vs [] ts).getD i 0):=fun V hV=>by
  rw [<-hV] at hv;have h1:1<=V:=by omega
  have h:=uB (by_:=by_) h1 hv ts [] 1 1 Nat.one_ne_zero (Nat.le_refl 1) h0;rw [Nat.one_mul,Nat.one_mul] at h;have hm:(V+V)*ts.length<=(V+V)*60:=Nat.mul_le_mul_left _ hl;have hm2:(V+V+1)*ts.length<=(V+V+1)*60:=Nat.mul_le_mul_left _ hl;have hc:jP vs 0 ts<=2 ^ (120*V):=Nat.le_trans (xK h1 hv ts 0) (c9 (by omega));refine ⟨(h i).1,hc,?_⟩;exact (Sz.Ao (a:=120*V) (b:=120*V+60) (qw vs ts 0) (h i).1 hc ((h i).2.mono (c9 (by omega)))).mono (by omega)
 exact gen 2000 rfl
end Ex
namespace Ex
open Vagraa (Frac)
open VagraLine (Line at_)
structure SR where
 inputs:Nat
 raws:List Raw
 outs:List Nat
 point:Option (List Rat)
noncomputable def SR.start:SR:=⟨0,[],[],none⟩
noncomputable def SR.sys(s:SR):Vagran.Sys:=⟨s.inputs,s.raws.map bx,s.outs⟩
noncomputable def SR.spec(s:SR):Vagran.State:=⟨s.sys,s.point.map fun p=>p.map F⟩
structure SR.Ok(s:SR):Prop where
 lines:∀ t,t∈s.raws->cE t
 uses:bK s.inputs 0 s.raws=true
 few:s.raws.length<=60
 outs:s.outs.length<=6
 Aq:∀ o,o∈s.outs->o<s.raws.length
 ins:s.inputs<=4
 pt:∀ p,s.point=some p->p.length=s.inputs/\∀ q,q∈p->wt q<=2000
theorem SR.Ok.start:SR.start.Ok:=⟨fun _ h=>(nomatch h),rfl,Nat.zero_le _,Nat.zero_le _,fun _ h=>(nomatch h),Nat.zero_le _,fun _ h=>(nomatch h)⟩
theorem sP(s:SR)(ok:s.Ok)(p:List Rat):s.sys.run (p.map F)=match (aO p [] s.raws).2 with
 |none=>.ok ((aO p [] s.raws).1.map F)
 |some k=>.error ⟨(aO p [] s.raws).1.length,k⟩:=run_eq p s.raws [] ok.lines
noncomputable def bP(s:SR)(vs:List Rat):List Rat:=s.outs.map fun i=>vs.getD i 0
theorem g6(s:SR)(vs:List Rat):s.sys.results (vs.map F)=(bP s vs).map F:=by
 unfold Vagran.Sys.results bP;rw [List.map_map];apply List.map_congr_left;intro i _;exact cO vs i
noncomputable def qD(s:SR)(vs:List Rat)(r c:Nat):Rat:=(bW c vs [] s.raws).getD (s.outs.getD r 0) 0
theorem w4(s:SR)(ok:s.Ok)(vs:List Rat):s.sys.table (vs.map F)=cM s.outs.length s.inputs (qD s vs):=by
 unfold Vagran.Sys.table cM;apply fh;intro i hi j hj;show at_ (((List.range s.inputs).map fun k=>Vagrae.changes (Vagran.unit s.inputs k) (vs.map F) (s.raws.map bx)).getD j []) (s.outs.getD i 0)=F (qD s vs i j);rw [j8,if_pos (show j<s.inputs from hj)];have e:Vagrae.changes (Vagran.unit s.inputs j) (vs.map F) (s.raws.map bx)=(bW j vs [] s.raws).map F:=xH s.inputs j vs s.raws [] ok.lines ok.uses;rw [e,cO];rfl
noncomputable def oO(l:List Rat):Rat:=(l.map fun a=>a*a).foldl (·+·) 0
theorem Lh(l:List Rat):∀ a:Rat,(l.map F).foldl Vagraa.add (F a)=F (l.foldl (·+·) a):=by
 induction l with
 |nil=>intro a;rfl
 |cons x l ih=>intro a;rw [List.map_cons,List.foldl_cons,List.foldl_cons,sL,ih]
theorem qx(l:List Rat):Vagran.squares (l.map F)=F (oO l):=by
 unfold Vagran.squares oO;rw [List.map_map];have e:((fun a=>Vagraa.mul a a) ∘ F)=fun q:Rat=>F (q*q):=by funext q;exact qG q q
 rw [e];have e2:(l.map fun q:Rat=>F (q*q))=(l.map fun a=>a*a).map F:=by rw [List.map_map];rfl
 rw [e2];exact Lh _ 0
noncomputable def heavy(b:Nat)(l:List Rat):Bool:=l.any fun q=>decide (b<wt q)
theorem w6(b:Nat)(l:List Rat):((l.map F).any fun a=>decide (b<Vagraa.weight a))=heavy b l:=by
 unfold heavy;rw [List.any_map];rfl
noncomputable def jw(l:List Rat):List Int:=l.flatMap fun q=>[q.num,(q.den:Int)]
theorem Jo(l:List Rat):VagraLine.fracsTold (l.map F)=jw l:=by
 unfold VagraLine.fracsTold jw;rw [List.flatMap_map];rfl
noncomputable def bQ(head:List Int)(l:List Rat):List Int:=if heavy 6000 l=true then [-6] else head++jw l
noncomputable def lu(r:Vagran.R (List Int)):List Int:=match r with
 |.ok l=>l
 |.error n=>[n]
theorem uC(head:List Int)(l:List Rat):lu (Vagran.tell head (l.map F))=bQ head l:=by
 unfold Vagran.tell bQ Vagran.LONG;rw [w6,Jo];by_cases h:heavy 6000 l=true
 . rw [if_pos h,if_pos h];rfl
 . rw [if_neg h,if_neg h];rfl
noncomputable def iy(s:SR):Except Int (List Rat × List Rat):=match s.point with
 |none=>.error (-4)
 |
  some p=>match (aO p [] s.raws).2 with
  |none=>.ok (p,(aO p [] s.raws).1)
  |some _=>.error (-5)
theorem uD(s:SR)(ok:s.Ok):s.spec.vals=match iy s with
 |.ok v=>.ok (v.1.map F,v.2.map F)
 |.error n=>.error n:=by
 unfold Vagran.State.vals iy SR.spec;cases s.point with
 |none=>rfl
 |
  some p=>
  dsimp only [Option.map_some];rw [sP s ok p];cases (aO p [] s.raws).2<;>rfl
noncomputable def Bg(s:SR)(p:List Rat):List Int:=match (aO p [] s.raws).2 with
 |none=>[0]
 |some k=>[1,((aO p [] s.raws).1.length:Int),(k:Int)]
theorem Mi(s:SR)(ok:s.Ok)(p:List Rat):Vagran.ranTold s.sys (p.map F)=Bg s p:=by
 unfold Vagran.ranTold Bg;rw [sP s ok p];cases (aO p [] s.raws).2<;>rfl
noncomputable def Bh(m n:Nat)(J:Nat->Nat->Rat)(fs:List Rat):Option (List Rat):=
 match iX m (bX m n 0 0 (gn n J fun i=>-fs.getD i 0) []).1 (bX m n 0 0 (gn n J fun i=>-fs.getD i 0) []).2.length n with
  |some _=>none
  |none=>if (bX m n 0 0 (gn n J fun i=>-fs.getD i 0) []).2.length=n then some ((List.range n).map fun i=>Bc n (bX m n 0 0 (gn n J fun i=>-fs.getD i 0) []) i) else none
noncomputable def En(m n:Nat)(J:Nat->Nat->Rat)(fs:List Rat):List Rat:=(List.range n).map fun i=>Bc n (bX n n 0 0 (gn n (oK m J) (oM m J fun i=>-fs.getD i 0)) []) i
noncomputable def qy(kind m n:Nat)(J:Nat->Nat->Rat)(fs:List Rat):Option (List Rat):=if kind=0 then Bh m n J fs else some (En m n J fs)
theorem CZ(kind m n:Nat)(J:Nat->Nat->Rat)(fs:List Rat)(hf:fs.length=m):Vagran.stepOf kind (cM m n J) (fs.map F)=(qy kind m n J fs).map fun d=>d.map F:=by
 unfold Vagran.stepOf qy;by_cases h:kind=0
 . rw [if_pos h,if_pos h,Aj hf];unfold Bh;cases iX m (bX m n 0 0 (gn n J fun i=>-fs.getD i 0) []).1 (bX m n 0 0 (gn n J fun i=>-fs.getD i 0) []).2.length n with
   |some p=>rfl
   |
    none=>
    dsimp only;split
    . rw [Option.map_some,List.map_map];rfl
    . rfl
 . rw [if_neg h,if_neg h,CP hf];unfold En;rw [Option.map_some,List.map_map];rfl
theorem lH{kind m n:Nat}{J:Nat->Nat->Rat}{fs d:List Rat}(h:qy kind m n J fs=some d):d.length=n:=by
 unfold qy at h;split at h
 . unfold Bh at h;split at h
   . cases h
   . split at h
     . cases h;rw [List.length_map,List.length_range]
     . cases h
 . cases h;unfold En;rw [List.length_map,List.length_range]
noncomputable def gb(s:SR)(kind:Nat)(vs:List Rat):Option (List Rat):=qy kind s.outs.length s.inputs (qD s vs) (bP s vs)
theorem bH(s:SR)(vs:List Rat):(bP s vs).length=s.outs.length:=by unfold bP;rw [List.length_map]
theorem q_(s:SR)(ok:s.Ok)(kind:Nat)(vs:List Rat):s.spec.stepHere kind (vs.map F)=(gb s kind vs).map fun d=>d.map F:=by
 unfold Vagran.State.stepHere gb;show Vagran.stepOf kind (s.sys.table (vs.map F)) (s.sys.results (vs.map F))=_;rw [w4 s ok,g6];exact CZ kind _ _ _ _ (bH s vs)
noncomputable def pG(m n:Nat)(J:Nat->Nat->Rat)(fs d:List Rat):List Rat:=List.zipWith (·+·) fs ((List.range m).map fun i=>sumTo n fun t=>J i t*d.getD t 0)
theorem sQ(l m:List Rat):Vagran.addAll (l.map F) (m.map F)=(List.zipWith (·+·) l m).map F:=by
 unfold Vagran.addAll;rw [List.zipWith_map,List.map_zipWith];congr 1;funext a b;exact sL a b
theorem C0(l m:List Rat):Vagran.subAll (l.map F) (m.map F)=(List.zipWith (·-·) l m).map F:=by
 unfold Vagran.subAll;rw [List.zipWith_map,List.map_zipWith];congr 1;funext a b;exact CJ a b
theorem xM(a:Rat)(l:List Rat):Vagran.scaleAll (F a) (l.map F)=(l.map fun q=>a*q).map F:=by
 unfold Vagran.scaleAll;rw [List.map_map,List.map_map];apply List.map_congr_left;intro q _;exact qG a q
theorem Jp{m n:Nat}(J:Nat->Nat->Rat)(fs d:List Rat)(hd:d.length=n):Vagran.pictured (cM m n J) (fs.map F) (d.map F)=(pG m n J fs d).map F:=by
 unfold Vagran.pictured pG Vagran.times;rw [xE,hd,xD,lF,<-sQ,List.map_map];rfl
noncomputable def bT(n lo hi:Int):Option Nat:=if lo<=n/\n<=hi then some n.toNat else none
noncomputable def eK:List Int->Option (List Rat)
 |[]=>some []
 |n::d::r=>if d<1 then none else (eK r).map fun l=>mkRat n d.toNat::l
 |_=>none
theorem Au:∀ l:List Int,VagraLine.fracsOf l=(eK l).map fun q=>q.map F
 |[]=>rfl
 |[_]=>rfl
 |
  n::d::r=>by
  show (if d<1 then none else (VagraLine.fracsOf r).map fun l=>Vagraa.frac n d.toNat::l)=Option.map _ (if d<1 then none else (eK r).map fun l=>mkRat n d.toNat::l);by_cases h:d<1
  . rw [if_pos h,if_pos h];rfl
  . rw [if_neg h,if_neg h,Au r,jS];cases eK r<;>rfl
noncomputable def cY(n:Nat)(l:List Int):Option (List Rat):=match eK l with
 |some fs=>if fs.length=n then some fs else none
 |none=>none
theorem Bj(n:Nat)(l:List Int):Vagran.fracs n l=match cY n l with
 |some fs=>.ok (fs.map F)
 |none=>.error (-2):=by
 unfold Vagran.fracs cY;rw [Au];cases eK l with
 |none=>rfl
 |
  some fs=>
  dsimp only [Option.map_some];rw [List.length_map];by_cases h:fs.length=n
  . rw [if_pos h,if_pos h]
  . rw [if_neg h,if_neg h]
noncomputable def gA(s:SR)(p:List Rat)(told:List Int):SR × List Int:=if heavy 2000 p=true then (s,[-6]) else if told=[-6] then (s,[-6]) else ({s with point:=some p},told)
noncomputable def pH(s:SR)(n:Int)(l o:List Int):SR × List Int:=match bT n 1 4 with
 |none=>(s,[-1])
 |
  some n=>match bY l.length l with
  |none=>(s,[-2])
  |
   some ts=>if (o.all fun i=>decide (0<=i) && decide (i<ts.length))=true/\1<=o.length/\o.length<=6 then
    if 60<ts.length then (s,[-7]) else if bK n 0 ts=false then (s,[-3]) else (⟨n,ts,o.map Int.toNat,none⟩,[(ts.length:Int)])
   else (s,[-2])
noncomputable def lX(s:SR)(l:List Int):SR × List Int:=match cY s.inputs l with
 |none=>(s,[-2])
 |some p=>gA s p (Bg s p)
noncomputable def kh(s:SR):List Int:=match iy s with
 |.error n=>[n]
 |.ok v=>bQ [(s.outs.length:Int)] (bP s v.2++[oO (bP s v.2)])
noncomputable def vK(m n:Nat)(J:Nat->Nat->Rat):List Rat:=(List.range m).flatMap fun i=>(List.range n).map fun j=>J i j
noncomputable def rj(s:SR):List Int:=match iy s with
 |.error n=>[n]
 |.ok v=>bQ [(s.outs.length:Int),(s.inputs:Int)] (vK s.outs.length s.inputs (qD s v.2))
noncomputable def rm(s:SR)(kind:Int):List Int:=match bT kind 0 1 with
 |none=>[-1]
 |
  some kind=>match iy s with
  |.error n=>[n]
  |
   .ok v=>match gb s kind v.2 with
   |none=>[0]
   |some d=>bQ [1] (d++(pG s.outs.length s.inputs (qD s v.2) (bP s v.2) d++[oO (pG s.outs.length s.inputs (qD s v.2) (bP s v.2) d)]))
noncomputable def qK(s:SR)(kind n m:Int):SR × List Int:=match bT kind 0 1 with
 |none=>(s,[-1])
 |
  some kind=>if m<1 then (s,[-1]) else match iy s with
  |.error n=>(s,[n])
  |
   .ok v=>match gb s kind v.2 with
   |none=>(s,[0])
   |some d=>gA s (List.zipWith (·+·) v.1 (d.map fun q=>mkRat n m.toNat*q)) (1::Bg s (List.zipWith (·+·) v.1 (d.map fun q=>mkRat n m.toNat*q)))
noncomputable def gB(s:SR)(x d:List Rat)(now:Rat):Nat->Nat->Option (Nat × List Rat × Rat)
 |0,_=>none
 |
  f+1,k=>match (aO (List.zipWith (·+·) x (d.map fun q=>mkRat 1 (2 ^ k)*q)) [] s.raws).2 with
  |some _=>gB s x d now f (k+1)
  |none=>if oO (bP s (aO (List.zipWith (·+·) x (d.map fun q=>mkRat 1 (2 ^ k)*q)) [] s.raws).1)<now then
   some (k,List.zipWith (·+·) x (d.map fun q=>mkRat 1 (2 ^ k)*q),oO (bP s (aO (List.zipWith (·+·) x (d.map fun q=>mkRat 1 (2 ^ k)*q)) [] s.raws).1)) else gB s x d now f (k+1)
noncomputable def gC(s:SR)(kind k:Int):SR × List Int:=match bT kind 0 1 with
 |none=>(s,[-1])
 |
  some kind=>match bT k 0 20 with
  |none=>(s,[-1])
  |
   some k=>match iy s with
   |.error n=>(s,[n])
   |
    .ok v=>match gb s kind v.2 with
    |none=>(s,[0])
    |
     some d=>match gB s v.1 d (oO (bP s v.2)) (k+1) 0 with
     |none=>(s,[1])
     |some x=>gA s x.2.1 (bQ [2,(x.1:Int)] [oO (bP s v.2),x.2.2])
noncomputable def rz(s:SR)(l:List Int):List Int:=match cY s.inputs l with
 |none=>[-2]
 |
  some d=>match iy s with
  |.error n=>[n]
  |
   .ok v=>match (aO (List.zipWith (·+·) v.1 d) [] s.raws).2 with
   |some _=>[-5]
   |none=>bQ [(s.outs.length:Int)] (List.zipWith (·-·) (bP s (aO (List.zipWith (·+·) v.1 d) [] s.raws).1) (pG s.outs.length s.inputs (qD s v.2) (bP s v.2) d))
noncomputable def gD(a:Rat):Int:=if a.num<0 then -1 else if a.num=0 then 0 else 1
noncomputable def fK(s:SR)(i:Nat)(x:Rat):Option Int:=match (aO [x] [] s.raws).2 with
 |none=>some (gD ((bP s (aO [x] [] s.raws).1).getD i 0))
 |some _=>none
inductive Bk where
 |fault
 |zero (x:Rat)
 |between (a b:Rat)
noncomputable def gM(s:SR)(i:Nat)(sa:Int):Nat->Rat->Rat->Bk
 |0,a,b=>.between a b
 |
  f+1,a,b=>match fK s i (mkRat 1 2*(a+b)) with
  |none=>.fault
  |some t=>if t=0 then .zero (mkRat 1 2*(a+b)) else if t=sa then gM s i sa f (mkRat 1 2*(a+b)) b else gM s i sa f a (mkRat 1 2*(a+b))
noncomputable def pI(f:Bk):List Int:=match f with
 |.fault=>[0]
 |.zero x=>bQ [1] [x]
 |.between a b=>bQ [2] [a,b]
noncomputable def pJ(s:SR)(i k:Int)(l:List Int):List Int:=match bT i 0 ((s.outs.length:Int)-1) with
 |none=>[-1]
 |
  some i=>match bT k 0 100 with
  |none=>[-1]
  |
   some k=>match cY 2 l with
   |none=>[-2]
   |
    some e=>if s.inputs≠1 then [-8] else match fK s i (e.getD 0 0),fK s i (e.getD 1 0) with
    |some p,some q=>if p=0 then bQ [1] [e.getD 0 0] else if q=0 then bQ [1] [e.getD 1 0] else if p=q then [0] else pI (gM s i p k (e.getD 0 0) (e.getD 1 0))
    |_,_=>[0]
noncomputable def cV(b:Nat)(a:Rat):Rat:=mkRat (Int.fdiv (a*((2 ^ b:Nat):Int)+mkRat 1 2).num (a*((2 ^ b:Nat):Int)+mkRat 1 2).den) (2 ^ b)
noncomputable def lY(s:SR)(b:Int):SR × List Int:=match bT b 0 200 with
 |none=>(s,[-1])
 |
  some b=>match s.point with
  |none=>(s,[-4])
  |some x=>gA s (x.map (cV b)) (bQ [(x.length:Int)] (List.zipWith (·-·) x (x.map (cV b))))
noncomputable def fL(s:SR):Vagran.Call->SR × List Int
 |.code n l o=>pH s n l o
 |.point l=>lX s l
 |.results=>(s,kh s)
 |.table=>(s,rj s)
 |.step k=>(s,rm s k)
 |.take k n m=>qK s k n m
 |.descend k h=>gC s k h
 |.error l=>(s,rz s l)
 |.halve i k l=>(s,pJ s i k l)
 |.round b=>lY s b
noncomputable def comes(s:SR)(r:Vagran.R (Vagran.State × List Int)):Vagran.State × List Int:=match r with
 |.ok x=>x
 |.error n=>(s.spec,[n])
theorem jx(n lo hi:Int):Vagran.ranged n lo hi=match bT n lo hi with
 |some k=>.ok k
 |none=>.error (-1):=by
 unfold Vagran.ranged bT;split<;>rfl
theorem Av(s:SR)(p:List Rat)(head:List Int)(l:List Rat)(hh:head.head?≠some (-6))(hn:head≠[]) :
 comes s (s.spec.goTo (p.map F) (Vagran.tell head (l.map F)))=((gA s p (bQ head l)).1.spec,(gA s p (bQ head l)).2):=by
 unfold Vagran.State.goTo gA Vagran.HEAVY;rw [w6];by_cases h:heavy 2000 p=true
 . rw [if_pos h,if_pos h];rfl
 . rw [if_neg h,if_neg h];have e:bQ head l=[-6] ↔ heavy 6000 l=true:=by
    unfold bQ;constructor
    . intro z;apply Classical.byContradiction;intro h2;rw [if_neg h2] at z
      match head,hn,hh with
      |
       x::r,_,hh=>
       have:x=-6:=by
        have:=congrArg List.head? z;exact Option.some.inj this
       exact hh (by rw [this];rfl)
    . intro z;rw [if_pos z]
   unfold Vagran.tell Vagran.LONG;rw [w6,Jo];by_cases h2:heavy 6000 l=true
   . rw [if_pos h2,if_pos (e.mpr h2)];rfl
   . rw [if_neg h2,if_neg (fun z=>h2 (e.mp z))];unfold bQ;rw [if_neg h2];rfl
theorem Ga(s:SR)(p:List Rat)(l:List Int)(hl:l≠[-6]):comes s (s.spec.goTo (p.map F) (.ok l))=((gA s p l).1.spec,(gA s p l).2):=by
 unfold Vagran.State.goTo gA Vagran.HEAVY;rw [w6];by_cases h:heavy 2000 p=true
 . rw [if_pos h,if_pos h];rfl
 . rw [if_neg h,if_neg h,if_neg hl];rfl
theorem Gb(s:SR)(p:List Rat):Bg s p≠[-6]:=by
 unfold Bg;split
 . decide
 . intro h;have:=congrArg List.length h;cases this
theorem Nm(s:SR)(n:Int)(l o:List Int):comes s (Vagran.State.code n l o)=((pH s n l o).1.spec,(pH s n l o).2):=by
 unfold Vagran.State.code pH;rw [jx];show comes s (Vagran.andThen (match bT n 1 4 with
  |some k=>.ok k
  |none=>.error (-1)) _)=_
 cases bT n 1 4 with
 |none=>rfl
 |
  some n=>
  show comes s (match VagraLine.codeOf l.length l with
   |none=>.error (-2)
   |some c=>Vagran.andThen (Vagran.outsOf c o) fun o=>if Vagran.MOSTLINES<c.length then .error (-7) else if VagraLine.well n c=false then .error (-3) else .ok (⟨⟨n,c,o⟩,none⟩,[(c.length:Int)]))=_
  rw [Am];cases e:bY l.length l with
  |none=>rfl
  |
   some ts=>
   dsimp only [Option.map_some];have hl:=iw e;unfold Vagran.outsOf;rw [List.length_map];by_cases h:(o.all fun i=>decide (0<=i) && decide (i<ts.length))=true/\1<=o.length/\o.length<=6
   . rw [if_pos h,if_pos (show (o.all fun i=>decide (0<=i) && decide (i<ts.length))=true/\1<=o.length/\o.length<=Vagran.MOSTOUTS from h)];show comes s (if 60<ts.length then .error (-7) else if VagraLine.wellFrom n 0 (ts.map bx)=false then .error (-3) else .ok (⟨⟨n,ts.map bx,o.map Int.toNat⟩,none⟩,[(ts.length:Int)]))=_;rw [F9 n 0 ts hl];by_cases h1:60<ts.length
     . rw [if_pos h1,if_pos h1];rfl
     . rw [if_neg h1,if_neg h1];by_cases h2:bK n 0 ts=false
       . rw [if_pos h2,if_pos h2];rfl
       . rw [if_neg h2,if_neg h2];rfl
   . rw [if_neg h,if_neg (show ¬ ((o.all fun i=>decide (0<=i) && decide (i<ts.length))=true/\1<=o.length/\o.length<=Vagran.MOSTOUTS) from h)];rfl
theorem Li(s:SR)(ok:s.Ok)(l:List Int):comes s (Vagran.outcome s.spec (.point l))=((lX s l).1.spec,(lX s l).2):=by
 show comes s (Vagran.andThen (Vagran.fracs s.inputs l) fun x=>s.spec.goTo x (.ok (Vagran.ranTold s.sys x)))=_;rw [Bj];unfold lX;cases cY s.inputs l with
 |none=>rfl
 |
  some p=>
  show comes s (s.spec.goTo (p.map F) (.ok (Vagran.ranTold s.sys (p.map F))))=_;rw [Mi s ok,Ga s p _ (Gb s p)]
theorem xO(s:SR)(r:Vagran.R (List Int))(l:List Int)(h:lu r=l):comes s (Vagran.andThen r fun l=>.ok (s.spec,l))=(s.spec,l):=by
 subst h;cases r<;>rfl
theorem Bl(s:SR)(ok:s.Ok):lu (s.spec.asked .results)=kh s:=by
 show lu (Vagran.andThen s.spec.vals fun v=>Vagran.tell [(s.outs.length:Int)] (s.sys.results v.2++[Vagran.squares (s.sys.results v.2)]))=_;rw [uD s ok];unfold kh;cases iy s with
 |error n=>rfl
 |
  ok v=>
  show lu (Vagran.tell [(s.outs.length:Int)] (s.sys.results (v.2.map F)++[Vagran.squares (s.sys.results (v.2.map F))]))=_;rw [g6,qx,<-List.map_singleton (f:=F),<-List.map_append,uC]
theorem Nn(m n:Nat)(J:Nat->Nat->Rat):(cM m n J).data.flatten=(vK m n J).map F:=by
 unfold vK cM Vagram.make;rw [List.map_flatMap,List.flatMap_def];congr 1;apply List.map_congr_left;intro i _;rw [List.map_map];rfl
theorem Eo(s:SR)(ok:s.Ok):lu (s.spec.asked .table)=rj s:=by
 show lu (Vagran.andThen s.spec.vals fun v=>Vagran.tell [((s.sys.table v.2).rows:Int),((s.sys.table v.2).cols:Int)] (s.sys.table v.2).data.flatten)=_;rw [uD s ok];unfold rj;cases iy s with
 |error n=>rfl
 |
  ok v=>
  show lu (Vagran.tell [((s.sys.table (v.2.map F)).rows:Int),((s.sys.table (v.2.map F)).cols:Int)] (s.sys.table (v.2.map F)).data.flatten)=_;rw [w4 s ok,Nn,uC];rfl
theorem step_call(s:SR)(ok:s.Ok)(kind:Int):lu (s.spec.asked (.step kind))=rm s kind:=by
 show lu (Vagran.andThen (Vagran.ranged kind 0 1) fun kind=>Vagran.andThen s.spec.vals fun v=>match s.spec.stepHere kind v.2 with
  |none=>.ok [0]
  |some d=>Vagran.tell [1] (d++(Vagran.pictured (s.sys.table v.2) (s.sys.results v.2) d++[Vagran.squares (Vagran.pictured (s.sys.table v.2) (s.sys.results v.2) d)])))=_
 rw [jx];unfold rm;cases bT kind 0 1 with
 |none=>rfl
 |
  some kind=>
  show lu (Vagran.andThen s.spec.vals fun v=>match s.spec.stepHere kind v.2 with
   |none=>.ok [0]
   |some d=>Vagran.tell [1] (d++(Vagran.pictured (s.sys.table v.2) (s.sys.results v.2) d++[Vagran.squares (Vagran.pictured (s.sys.table v.2) (s.sys.results v.2) d)])))=_
  rw [uD s ok];cases iy s with
  |error n=>rfl
  |
   ok v=>
   show lu (match s.spec.stepHere kind (v.2.map F) with
    |none=>.ok [0]
    |some d=>Vagran.tell [1] (d++(Vagran.pictured (s.sys.table (v.2.map F)) (s.sys.results (v.2.map F)) d++[Vagran.squares (Vagran.pictured (s.sys.table (v.2.map F)) (s.sys.results (v.2.map F)) d)])))=_
   rw [q_ s ok];dsimp only;cases e:gb s kind v.2 with
   |none=>rfl
   |
    some d=>
    dsimp only [Option.map_some];rw [w4 s ok,g6,Jp _ _ _ (lH e),qx,<-List.map_singleton (f:=F),<-List.map_append,<-List.map_append,uC]
theorem G9(s:SR)(ok:s.Ok)(kind n m:Int):comes s (s.spec.take kind n m)=((qK s kind n m).1.spec,(qK s kind n m).2):=by
 unfold Vagran.State.take qK;rw [jx];cases bT kind 0 1 with
 |none=>rfl
 |
  some kind=>
  show comes s (if m<1 then .error (-1) else Vagran.andThen s.spec.vals fun v=>match s.spec.stepHere kind v.2 with
   |none=>.ok (s.spec,[0])
   |some d=>s.spec.goTo (Vagran.addAll v.1 (Vagran.scaleAll (Vagraa.frac n m.toNat) d)) (.ok (1::Vagran.ranTold s.sys (Vagran.addAll v.1 (Vagran.scaleAll (Vagraa.frac n m.toNat) d)))))=_
  dsimp only;by_cases hm:m<1
  . rw [if_pos hm,if_pos hm];rfl
  . rw [if_neg hm,if_neg hm,uD s ok];cases iy s with
    |error n=>rfl
    |
     ok v=>
     show comes s (match s.spec.stepHere kind (v.2.map F) with
      |none=>.ok (s.spec,[0])
      |some d=>s.spec.goTo (Vagran.addAll (v.1.map F) (Vagran.scaleAll (Vagraa.frac n m.toNat) d)) (.ok (1::Vagran.ranTold s.sys (Vagran.addAll (v.1.map F) (Vagran.scaleAll (Vagraa.frac n m.toNat) d)))))=_
     rw [q_ s ok];dsimp only;cases e:gb s kind v.2 with
     |none=>rfl
     |
      some d=>
      dsimp only [Option.map_some];rw [jS,xM,sQ,Mi s ok,Ga];intro z;have:=congrArg List.head? z;have:(1:Int)=-6:=Option.some.inj this;omega
theorem Ep(s:SR)(ok:s.Ok)(x d:List Rat)(now:Rat):∀ f k:Nat,Vagran.descend s.sys (x.map F) (d.map F) (F now) f k=(gB s x d now f k).map fun y=>(y.1,y.2.1.map F,F y.2.2)
 |0,_=>rfl
 |
  f+1,k=>by
  have e0:Vagran.addAll (x.map F) (Vagran.scaleAll (Vagran.half k) (d.map F))=(List.zipWith (·+·) x (d.map fun q=>mkRat 1 (2 ^ k)*q)).map F:=by
   unfold Vagran.half;rw [jS,xM,sQ]
  show (match s.sys.run (Vagran.addAll (x.map F) (Vagran.scaleAll (Vagran.half k) (d.map F))) with
   |.error _=>Vagran.descend s.sys (x.map F) (d.map F) (F now) f (k+1)
   |.ok vs=>if Vagraa.lt (Vagran.squares (s.sys.results vs)) (F now)=true then some (k,Vagran.addAll (x.map F) (Vagran.scaleAll (Vagran.half k) (d.map F)),Vagran.squares (s.sys.results vs)) else Vagran.descend s.sys (x.map F) (d.map F) (F now) f (k+1))=_
  rw [e0,sP s ok];unfold gB;cases (aO (List.zipWith (·+·) x (d.map fun q=>mkRat 1 (2 ^ k)*q)) [] s.raws).2 with
  |some j=>exact Ep s ok x d now f (k+1)
  |
   none=>
   dsimp only;rw [g6,qx,R9,Ep s ok x d now f (k+1)];split
   . rename_i h;rw [if_pos (of_decide_eq_true h)];rfl
   . rename_i h;rw [if_neg (fun z=>h (decide_eq_true z))]
theorem Bm(s:SR)(ok:s.Ok)(kind k:Int):comes s (s.spec.descends kind k)=((gC s kind k).1.spec,(gC s kind k).2):=by
 unfold Vagran.State.descends gC;rw [jx];cases bT kind 0 1 with
 |none=>rfl
 |
  some kind=>
  show comes s (Vagran.andThen (Vagran.ranged k 0 20) fun k=>Vagran.andThen s.spec.vals fun v=>match s.spec.stepHere kind v.2 with
   |none=>.ok (s.spec,[0])
   |
    some d=>match Vagran.descend s.sys v.1 d (Vagran.squares (s.sys.results v.2)) (k+1) 0 with
    |none=>.ok (s.spec,[1])
    |some x=>s.spec.goTo x.2.1 (Vagran.tell [2,(x.1:Int)] [Vagran.squares (s.sys.results v.2),x.2.2]))=_
  rw [jx];dsimp only;cases bT k 0 20 with
  |none=>rfl
  |
   some k=>
   show comes s (Vagran.andThen s.spec.vals fun v=>match s.spec.stepHere kind v.2 with
    |none=>.ok (s.spec,[0])
    |
     some d=>match Vagran.descend s.sys v.1 d (Vagran.squares (s.sys.results v.2)) (k+1) 0 with
     |none=>.ok (s.spec,[1])
     |some x=>s.spec.goTo x.2.1 (Vagran.tell [2,(x.1:Int)] [Vagran.squares (s.sys.results v.2),x.2.2]))=_
   rw [uD s ok];dsimp only;cases iy s with
   |error n=>rfl
   |
    ok v=>
    show comes s (match s.spec.stepHere kind (v.2.map F) with
     |none=>.ok (s.spec,[0])
     |
      some d=>match Vagran.descend s.sys (v.1.map F) d (Vagran.squares (s.sys.results (v.2.map F))) (k+1) 0 with
      |none=>.ok (s.spec,[1])
      |some x=>s.spec.goTo x.2.1 (Vagran.tell [2,(x.1:Int)] [Vagran.squares (s.sys.results (v.2.map F)),x.2.2]))=_
    rw [q_ s ok,g6,qx];dsimp only;cases e:gb s kind v.2 with
    |none=>rfl
    |
     some d=>
     dsimp only [Option.map_some];rw [Ep s ok];cases gB s v.1 d (oO (bP s v.2)) (k+1) 0 with
     |none=>rfl
     |
      some x=>
      dsimp only [Option.map_some];exact Av s x.2.1 [2,(x.1:Int)] [oO (bP s v.2),x.2.2] (by intro z;have:(2:Int)=-6:=Option.some.inj z;omega) (by intro z;cases z)
theorem Er(s:SR)(ok:s.Ok)(l:List Int):lu (s.spec.asked (.error l))=rz s l:=by
 show lu (Vagran.andThen (Vagran.fracs s.inputs l) fun d=>Vagran.andThen s.spec.vals fun v=>match s.sys.run (Vagran.addAll v.1 d) with
  |.error _=>.error (-5)
  |.ok ws=>Vagran.tell [(s.outs.length:Int)] (Vagran.subAll (s.sys.results ws) (Vagran.pictured (s.sys.table v.2) (s.sys.results v.2) d)))=_
 rw [Bj];unfold rz;cases e:cY s.inputs l with
 |none=>rfl
 |
  some d=>
  have hd:d.length=s.inputs:=by
   unfold cY at e;split at e
   . split at e
     . cases e;assumption
     . cases e
   . cases e
  show lu (Vagran.andThen s.spec.vals fun v=>match s.sys.run (Vagran.addAll v.1 (d.map F)) with
   |.error _=>.error (-5)
   |.ok ws=>Vagran.tell [(s.outs.length:Int)] (Vagran.subAll (s.sys.results ws) (Vagran.pictured (s.sys.table v.2) (s.sys.results v.2) (d.map F))))=_
  rw [uD s ok];dsimp only;cases iy s with
  |error n=>rfl
  |
   ok v=>
   show lu (match s.sys.run (Vagran.addAll (v.1.map F) (d.map F)) with
    |.error _=>.error (-5)
    |.ok ws=>Vagran.tell [(s.outs.length:Int)] (Vagran.subAll (s.sys.results ws) (Vagran.pictured (s.sys.table (v.2.map F)) (s.sys.results (v.2.map F)) (d.map F))))=_
   rw [sQ,sP s ok];dsimp only;cases (aO (List.zipWith (·+·) v.1 d) [] s.raws).2 with
   |some k=>rfl
   |
    none=>
    dsimp only;rw [w4 s ok,g6,g6,Jp _ _ _ hd,C0,uC]
theorem Np(a:Rat):Vagran.sign (F a)=gD a:=rfl
theorem xP(s:SR)(ok:s.Ok)(i:Nat)(x:Rat):Vagran.signAt s.sys i (F x)=fK s i x:=by
 unfold Vagran.signAt fK;have e:([F x]:List Frac)=[x].map F:=rfl;rw [e,sP s ok];cases (aO [x] [] s.raws).2 with
 |some k=>rfl
 |
  none=>
  dsimp only;rw [g6,cO,Np]
noncomputable def Jq:Bk->Vagran.Found
 |.fault=>.fault
 |.zero x=>.zero (F x)
 |.between a b=>.between (F a) (F b)
theorem Jr(a b:Rat):Vagran.middle (F a) (F b)=F (mkRat 1 2*(a+b)):=by
 unfold Vagran.middle;rw [jS,sL,qG]
theorem xQ(s:SR)(ok:s.Ok)(i:Nat)(sa:Int):∀ (f:Nat) (a b:Rat),Vagran.halved s.sys i sa f (F a) (F b)=Jq (gM s i sa f a b)
 |0,_,_=>rfl
 |
  f+1,a,b=>by
  show (match Vagran.signAt s.sys i (Vagran.middle (F a) (F b)) with
   |none=>Vagran.Found.fault
   |some t=>if t=0 then .zero (Vagran.middle (F a) (F b)) else if t=sa then Vagran.halved s.sys i sa f (Vagran.middle (F a) (F b)) (F b) else Vagran.halved s.sys i sa f (F a) (Vagran.middle (F a) (F b)))=_
  rw [Jr,xP s ok];unfold gM;cases fK s i (mkRat 1 2*(a+b)) with
  |none=>rfl
  |
   some t=>
   dsimp only;rw [xQ s ok i sa f,xQ s ok i sa f];split
   . rfl
   . split<;>rfl
theorem Bo(f:Bk):lu (Vagran.foundTold (Jq f))=pI f:=by
 cases f with
 |fault=>rfl
 |zero x=>exact uC [1] [x]
 |between a b=>exact uC [2] [a,b]
theorem Es(s:SR)(ok:s.Ok)(i k:Int)(l:List Int):lu (s.spec.halves i k l)=pJ s i k l:=by
 unfold Vagran.State.halves pJ;rw [jx];show lu (Vagran.andThen (match bT i 0 ((s.outs.length:Int)-1) with
  |some k=>.ok k
  |none=>.error (-1)) _)=_
 cases bT i 0 ((s.outs.length:Int)-1) with
 |none=>rfl
 |
  some i=>
  show lu (Vagran.andThen (Vagran.ranged k 0 100) fun k=>Vagran.andThen (Vagran.fracs 2 l) fun e=>
   if s.inputs≠1 then .error (-8)
   else match Vagran.signAt s.sys i (at_ e 0),Vagran.signAt s.sys i (at_ e 1) with
    |some p,some q=>if p=0 then Vagran.foundTold (.zero (at_ e 0)) else if q=0 then Vagran.foundTold (.zero (at_ e 1)) else if p=q then .ok [0] else Vagran.foundTold (Vagran.halved s.sys i p k (at_ e 0) (at_ e 1))
    |_,_=>.ok [0])=_
  rw [jx];dsimp only;cases bT k 0 100 with
  |none=>rfl
  |
   some k=>
   show lu (Vagran.andThen (Vagran.fracs 2 l) fun e=>
    if s.inputs≠1 then .error (-8)
    else match Vagran.signAt s.sys i (at_ e 0),Vagran.signAt s.sys i (at_ e 1) with
     |some p,some q=>if p=0 then Vagran.foundTold (.zero (at_ e 0)) else if q=0 then Vagran.foundTold (.zero (at_ e 1)) else if p=q then .ok [0] else Vagran.foundTold (Vagran.halved s.sys i p k (at_ e 0) (at_ e 1))
     |_,_=>.ok [0])=_
   rw [Bj];dsimp only;cases cY 2 l with
   |none=>rfl
   |
    some e=>
    show lu (if s.inputs≠1 then .error (-8)
     else match Vagran.signAt s.sys i (at_ (e.map F) 0),Vagran.signAt s.sys i (at_ (e.map F) 1) with
      |some p,some q=>if p=0 then Vagran.foundTold (.zero (at_ (e.map F) 0)) else if q=0 then Vagran.foundTold (.zero (at_ (e.map F) 1)) else if p=q then .ok [0] else Vagran.foundTold (Vagran.halved s.sys i p k (at_ (e.map F) 0) (at_ (e.map F) 1))
      |_,_=>.ok [0])=_
    rw [cO,cO,xP s ok,xP s ok];dsimp only;by_cases h:s.inputs≠1
    . rw [if_pos h,if_pos h];rfl
    . rw [if_neg h,if_neg h];cases fK s i (e.getD 0 0) with
      |none=>rfl
      |
       some p=>
       cases fK s i (e.getD 1 0) with
       |none=>rfl
       |
        some q=>
        dsimp only;split
        . exact Bo (.zero (e.getD 0 0))
        . split
          . exact Bo (.zero (e.getD 1 0))
          . split
            . rfl
            . rw [xQ s ok];exact Bo _
theorem G_(b:Nat)(a:Rat):Vagran.rounded b (F a)=F (cV b a):=by
 unfold Vagran.rounded cV;have e:Vagraa.whole ((2 ^ b:Nat):Int)=F (((2 ^ b:Nat):Int):Rat):=rfl;rw [e];dsimp only;rw [qG,jS 1 2,sL,jS];rfl
theorem Et(s:SR)(ok:s.Ok)(b:Int):comes s (s.spec.rounds b)=((lY s b).1.spec,(lY s b).2):=by
 unfold Vagran.State.rounds lY;rw [jx];show comes s (Vagran.andThen (match bT b 0 200 with
  |some k=>.ok k
  |none=>.error (-1)) _)=_
 cases bT b 0 200 with
 |none=>rfl
 |
  some b=>
  show comes s (match s.point.map (fun p=>p.map F) with
   |none=>.error (-4)
   |some x=>s.spec.goTo (x.map (Vagran.rounded b)) (Vagran.tell [(x.length:Int)] (Vagran.subAll x (x.map (Vagran.rounded b)))))=_
  cases s.point with
  |none=>rfl
  |
   some x=>
   dsimp only [Option.map_some];have e:(x.map F).map (Vagran.rounded b)=(x.map (cV b)).map F:=by
    rw [List.map_map,List.map_map];apply List.map_congr_left;intro q _;exact G_ b q
   rw [e,C0,List.length_map];exact Av s (x.map (cV b)) [(x.length:Int)] _ (by intro z;have:(x.length:Int)=-6:=Option.some.inj z;omega) (by intro z;cases z)
theorem Js(s:SR)(ok:s.Ok)(c:Vagran.Call):((Vagran.step s.spec c).1,VagranNeutral.encode (Vagran.step s.spec c).2)=((fL s c).1.spec,(fL s c).2):=by
 have e:((Vagran.step s.spec c).1,VagranNeutral.encode (Vagran.step s.spec c).2)=comes s (Vagran.outcome s.spec c):=by
  unfold Vagran.step comes;cases Vagran.outcome s.spec c<;>rfl
 rw [e];cases c with
 |code n l o=>exact Nm s n l o
 |point l=>exact Li s ok l
 |results=>exact xO s _ _ (Bl s ok)
 |table=>exact xO s _ _ (Eo s ok)
 |step k=>exact xO s _ _ (step_call s ok k)
 |take k n m=>exact G9 s ok k n m
 |descend k h=>exact Bm s ok k h
 |error l=>exact xO s _ _ (Er s ok l)
 |halve i k l=>exact xO s _ _ (Es s ok i k l)
 |round b=>exact Et s ok b
end Ex
namespace Ex
theorem nA{n:Nat}{l:List Int}{p:List Rat}(h:cY n l=some p):p.length=n:=by
 unfold cY at h;split at h
 . split at h
   . cases h;assumption
   . cases h
 . cases h
theorem vL{b:Nat}{l:List Rat}(h:¬ heavy b l=true):∀ q,q∈l->wt q<=b:=fun q hq=>by
 unfold heavy at h;rw [List.any_eq_true] at h;apply Classical.byContradiction;intro hn;exact h ⟨q,hq,decide_eq_true (by omega)⟩
theorem sR{s:SR}(ok:s.Ok){p:List Rat}{t:List Int}(hl:p.length=s.inputs):(gA s p t).1.Ok:=by
 unfold gA;split
 . exact ok
 . rename_i h;split
   . exact ok
   . exact ⟨ok.lines,ok.uses,ok.few,ok.outs,ok.Aq,ok.ins,fun q hq=>by
      have:p=q:=Option.some.inj hq;subst this;exact ⟨hl,vL h⟩⟩
theorem C1{s:SR}{v:List Rat × List Rat}(h:iy s=.ok v):s.point=some v.1/\(aO v.1 [] s.raws).2=none/\v.2=(aO v.1 [] s.raws).1:=by
 unfold iy at h;split at h
 . cases h
 . rename_i p hp;split at h
   . rename_i h2;cases h;exact ⟨hp,h2,rfl⟩
   . cases h
theorem uE{s:SR}{x d:List Rat}{now:Rat}(hd:d.length=x.length):∀ {f k:Nat} {y:Nat × List Rat × Rat},gB s x d now f k=some y->y.2.1.length=x.length
 |0,_,y,h=>nomatch h
 |
  f+1,k,y,h=>by
  unfold gB at h;split at h
  . exact uE hd h
  . split at h
    . cases h;show (List.zipWith (·+·) x (d.map _)).length=_;rw [List.length_zipWith,List.length_map];omega
    . exact uE hd h
theorem xR{s:SR}(ok:s.Ok)(c:Vagran.Call):(fL s c).1.Ok:=by
 cases c with
 |
  code n l o=>
  show (pH s n l o).1.Ok;unfold pH;split
  . exact ok
  . rename_i n hn;split
    . exact ok
    . rename_i ts hts;split
      . rename_i ho;split
        . exact ok
        . rename_i Mj;split
          . exact ok
          . rename_i hu;refine ⟨iw hts,by cases q:bK n 0 ts with
             |true=>rfl
             |false=>exact absurd q hu,by show ts.length<=60;omega,by show (o.map Int.toNat).length<=6;rw [List.length_map];exact ho.2.2,fun x hx=>?_,?_,fun _ z=>nomatch z⟩
            . obtain ⟨i,hi,rfl⟩:=List.mem_map.mp hx;have:=List.all_eq_true.mp ho.1 i hi;rw [Bool.and_eq_true,decide_eq_true_eq,decide_eq_true_eq] at this;show i.toNat<ts.length;omega
            . unfold bT at hn;split at hn
              . cases hn;show Int.toNat _<=4;omega
              . cases hn
      . exact ok
 |
  point l=>
  show (lX s l).1.Ok;unfold lX;split
  . exact ok
  . rename_i p hp;exact sR ok (nA hp)
 |results=>exact ok
 |table=>exact ok
 |step k=>exact ok
 |
  take k n m=>
  show (qK s k n m).1.Ok;unfold qK;split
  . exact ok
  . split
    . exact ok
    . split
      . exact ok
      . rename_i v hv;split
        . exact ok
        . rename_i d hd;have h1:=lH hd;have h2:=(ok.pt v.1 (C1 hv).1).1;refine sR ok ?_;rw [List.length_zipWith,List.length_map];omega
 |
  descend k h=>
  show (gC s k h).1.Ok;unfold gC;split
  . exact ok
  . split
    . exact ok
    . split
      . exact ok
      . rename_i v hv;split
        . exact ok
        . rename_i d hd;split
          . exact ok
          . rename_i x hx;have h1:=lH hd;have h2:=(ok.pt v.1 (C1 hv).1).1;refine sR ok ?_;rw [uE (by omega) hx];exact h2
 |error l=>exact ok
 |halve i k l=>exact ok
 |
  round b=>
  show (lY s b).1.Ok;unfold lY;split
  . exact ok
  . split
    . exact ok
    . rename_i x hx;exact sR ok (by rw [List.length_map];exact (ok.pt x hx).1)
noncomputable def iz:Vagran.Call->List Int
 |.code n l o=>[0,n,(l.length:Int)]++(l++((o.length:Int)::o))
 |.point l=>[1,(l.length:Int)]++l
 |.results=>[2]
 |.table=>[3]
 |.step k=>[4,k]
 |.take k n m=>[5,k,n,m]
 |.descend k h=>[6,k,h]
 |.error l=>[7,(l.length:Int)]++l
 |.halve i k l=>[8,i,k,(l.length:Int)]++l
 |.round b=>[9,b]
theorem C2{r x s:List Int}(h:PyFlat.row r=some (x,s)):r=(x.length:Int)::(x++s):=by
 match r,h with
 |
  n::r,h=>
  have h:(if 0<=n/\n.toNat<=r.length then some (r.take n.toNat,r.drop n.toNat) else none)=some (x,s):=h;split at h
  . rename_i hn;cases h;rw [List.take_append_drop,List.length_take,Nat.min_eq_left hn.2];congr 1;omega
  . cases h
theorem Gd{r:List Int}{xs:List (List Int)}{t:List Int}(h:PyFlat.rows 1 r=some (xs,t)):∃ x,xs=[x]/\r=(x.length:Int)::(x++t):=by
 have h:(match PyFlat.row r with
  |none=>none
  |some (x,s)=>some ([x],s))=some (xs,t):=h
 split at h
 . cases h
 . rename_i x s e;cases h;exact ⟨x,rfl,C2 e⟩
theorem Pk{r:List Int}{xs:List (List Int)}{t:List Int}(h:PyFlat.rows 2 r=some (xs,t)):∃ x y,xs=[x,y]/\r=(x.length:Int)::(x++((y.length:Int)::(y++t))):=by
 have h:(match PyFlat.row r with
  |none=>none
  |
   some (x,s)=>match PyFlat.rows 1 s with
   |none=>none
   |some (xs,t)=>some (x::xs,t))=some (xs,t):=h
 split at h
 . cases h
 . rename_i x s e;split at h
   . cases h
   . rename_i ys u e2;cases h;obtain ⟨y,rfl,e3⟩:=Gd e2;exact ⟨x,y,rfl,by rw [C2 e,e3]⟩
noncomputable def small(l:List Int):Prop:=∀ x,x∈l->-(10 ^ 18)<=x/\x<=10 ^ 18
noncomputable def ki:Vagran.Call->Prop
 |.code n l o=>small [n]/\small l/\l.length<=400/\small o/\o.length<=200
 |.point l=>small l/\l.length<=200
 |.results=>True
 |.table=>True
 |.step k=>small [k]
 |.take k n m=>small [k,n,m]
 |.descend k h=>small [k,h]
 |.error l=>small l/\l.length<=200
 |.halve i k l=>small [i,k]/\small l/\l.length<=200
 |.round b=>small [b]
theorem d8{z:Int}(h:VagranNeutral.whole60 z=true):-(10 ^ 18)<=z/\z<=10 ^ 18:=by
 unfold VagranNeutral.whole60 at h;rw [Bool.and_eq_true,decide_eq_true_eq,decide_eq_true_eq] at h;exact h
theorem C4{l:List Int}(h:(l.all fun z=>VagranNeutral.whole60 z)=true):small l:=fun x hx=>d8 (List.all_eq_true.mp h x hx)
theorem Eu{a:Int}(h:VagranNeutral.whole60 a=true):small [a]:=fun x hx=>by rw [List.mem_singleton.mp hx];exact d8 h
theorem Vb{n:Int}{l o:List Int}(ha:VagranNeutral.asked1 [[0,n],l,o]=true):ki (.code n l o):=by
 have ha:(VagranNeutral.whole60 n && (((l.all fun z=>VagranNeutral.whole60 z) && decide (l.length<=400)) && ((o.all fun z=>VagranNeutral.whole60 z) && decide (o.length<=200))))=true:=ha;simp only [Bool.and_eq_true,decide_eq_true_eq] at ha;exact ⟨Eu ha.1,C4 ha.2.1.1,ha.2.1.2,C4 ha.2.2.1,ha.2.2.2⟩
theorem Vc{l:List Int}(ha:VagranNeutral.asked1 [[1],l]=true):ki (.point l):=by
 have ha:(((l.all fun z=>VagranNeutral.whole60 z) && decide (l.length<=200)))=true:=ha;simp only [Bool.and_eq_true,decide_eq_true_eq] at ha;exact ⟨C4 ha.1,ha.2⟩
theorem Vd{k n m:Int}(ha:VagranNeutral.asked1 [[5,k,n,m]]=true):ki (.take k n m):=by
 have ha:(VagranNeutral.whole60 k && (VagranNeutral.whole60 n && VagranNeutral.whole60 m))=true:=ha;simp only [Bool.and_eq_true] at ha;intro x hx;rcases List.mem_cons.mp hx with rfl|hx
 . exact d8 ha.1
 rcases List.mem_cons.mp hx with rfl|hx
 . exact d8 ha.2.1
 . rw [List.mem_singleton.mp hx];exact d8 ha.2.2
theorem Ve{k h:Int}(ha:VagranNeutral.asked1 [[6,k,h]]=true):ki (.descend k h):=by
 have ha:(VagranNeutral.whole60 k && VagranNeutral.whole60 h)=true:=ha;simp only [Bool.and_eq_true] at ha;intro x hx;rcases List.mem_cons.mp hx with rfl|hx
 . exact d8 ha.1
 . rw [List.mem_singleton.mp hx];exact d8 ha.2
theorem Vf{l:List Int}(ha:VagranNeutral.asked1 [[7],l]=true):ki (.error l):=by
 have ha:(((l.all fun z=>VagranNeutral.whole60 z) && decide (l.length<=200)))=true:=ha;simp only [Bool.and_eq_true,decide_eq_true_eq] at ha;exact ⟨C4 ha.1,ha.2⟩
theorem Vg{i k:Int}{l:List Int}(ha:VagranNeutral.asked1 [[8,i,k],l]=true):ki (.halve i k l):=by
 have ha:(VagranNeutral.whole60 i && (VagranNeutral.whole60 k && ((l.all fun z=>VagranNeutral.whole60 z) && decide (l.length<=200))))=true:=ha;simp only [Bool.and_eq_true,decide_eq_true_eq] at ha;refine ⟨fun x hx=>?_,C4 ha.2.2.1,ha.2.2.2⟩;rcases List.mem_cons.mp hx with rfl|hx
 . exact d8 ha.1
 . rw [List.mem_singleton.mp hx];exact d8 ha.2.1
theorem Hf{l:List Int}{c:List (List Int)}{t:List Int}(h:PyFlat.call PyVagran.shape l=some (c,t)) :
 ∃ C:Vagran.Call,VagranNeutral.callOf (PyVagran.whole c)=some C/\l=iz C++t/\(VagranNeutral.asked1 (PyVagran.whole c)=true->ki C):=by
 match l,h with
 |
  p::r,h=>
  have h:(match PyVagran.shape p with
   |none=>none
   |
    some (n,k)=>if r.length<n then none else match PyFlat.rows k (r.drop n) with
    |none=>none
    |some (xs,t)=>some ((p::r.take n)::xs,t))=some (c,t):=h
  unfold PyVagran.shape at h;by_cases h0:p=0
  . subst h0;rw [if_pos rfl] at h
    match r,h with
    |[],h=>simp at h
    |
     a::r,h=>
     dsimp only at h;rw [if_neg (by simp)] at h;split at h
     . cases h
     . rename_i xs u e;cases h;obtain ⟨x,y,rfl,e2⟩:=Pk e;have e2:r=_:=e2;subst e2;exact ⟨.code a x y,rfl,by simp [iz],Vb⟩
  rw [if_neg h0] at h;by_cases h1:p=1
  . subst h1;rw [if_pos rfl] at h;dsimp only at h;rw [if_neg (by omega)] at h;split at h
    . cases h
    . rename_i xs u e;cases h;obtain ⟨x,rfl,e2⟩:=Gd e;have e2:r=_:=e2;subst e2;exact ⟨.point x,rfl,by simp [iz],Vc⟩
  rw [if_neg h1] at h;by_cases h2:p=2
  . subst h2;rw [if_pos rfl] at h;have h:some ([[2]],r)=some (c,t):=h;cases h;exact ⟨.results,rfl,rfl,fun _=>trivial⟩
  rw [if_neg h2] at h;by_cases h3:p=3
  . subst h3;rw [if_pos rfl] at h;have h:some ([[3]],r)=some (c,t):=h;cases h;exact ⟨.table,rfl,rfl,fun _=>trivial⟩
  rw [if_neg h3] at h;by_cases h4:p=4
  . subst h4;rw [if_pos rfl] at h
    match r,h with
    |[],h=>simp at h
    |
     a::r,h=>
     dsimp only at h;rw [if_neg (by simp)] at h;have h:some ([[4,a]],r)=some (c,t):=h;cases h;exact ⟨.step a,rfl,rfl,Eu⟩
  rw [if_neg h4] at h;by_cases h5:p=5
  . subst h5;rw [if_pos rfl] at h
    match r,h with
    |[],h=>simp at h
    |[a],h=>simp at h
    |[a,b],h=>simp at h
    |
     a::b::d::r,h=>
     dsimp only at h;rw [if_neg (by simp)] at h;have h:some ([[5,a,b,d]],r)=some (c,t):=h;cases h;exact ⟨.take a b d,rfl,rfl,Vd⟩
  rw [if_neg h5] at h;by_cases h6:p=6
  . subst h6;rw [if_pos rfl] at h
    match r,h with
    |[],h=>simp at h
    |[a],h=>simp at h
    |
     a::b::r,h=>
     dsimp only at h;rw [if_neg (by simp)] at h;have h:some ([[6,a,b]],r)=some (c,t):=h;cases h;exact ⟨.descend a b,rfl,rfl,Ve⟩
  rw [if_neg h6] at h;by_cases h7:p=7
  . subst h7;rw [if_pos rfl] at h;dsimp only at h;rw [if_neg (by omega)] at h;split at h
    . cases h
    . rename_i xs u e;cases h;obtain ⟨x,rfl,e2⟩:=Gd e;have e2:r=_:=e2;subst e2;exact ⟨.error x,rfl,by simp [iz],Vf⟩
  rw [if_neg h7] at h;by_cases h8:p=8
  . subst h8;rw [if_pos rfl] at h
    match r,h with
    |[],h=>simp at h
    |[a],h=>simp at h
    |
     a::b::r,h=>
     dsimp only at h;rw [if_neg (by simp)] at h;split at h
     . cases h
     . rename_i xs u e;cases h;obtain ⟨x,rfl,e2⟩:=Gd e;have e2:r=_:=e2;subst e2;exact ⟨.halve a b x,rfl,by simp [iz],Vg⟩
  rw [if_neg h8] at h;by_cases h9:p=9
  . subst h9;rw [if_pos rfl] at h
    match r,h with
    |[],h=>simp at h
    |
     a::r,h=>
     dsimp only at h;rw [if_neg (by simp)] at h;have h:some ([[9,a]],r)=some (c,t):=h;cases h;exact ⟨.round a,rfl,rfl,Eu⟩
  rw [if_neg h9] at h;cases h
theorem xS:∀ (f:Nat) (l:List Int) (cs:List (List (List Int))),PyFlat.calls PyVagran.shape f l=some cs->
 ∃ Cs:List Vagran.Call,l=Cs.flatMap iz/\(cs.map PyVagran.whole).map VagranNeutral.callOf=Cs.map some/\((cs.map PyVagran.whole).all VagranNeutral.asked1=true->∀ C,C∈Cs->ki C)
 |
  f,[],cs,h=>by
  have h:some []=some cs:=by cases f<;>exact h
  cases h;exact ⟨[],rfl,rfl,fun _ C hC=>nomatch hC⟩
 |0,p::r,cs,h=>nomatch h
 |
  f+1,p::r,cs,h=>by
  have h:(match PyFlat.call PyVagran.shape (p::r) with
   |none=>none
   |
    some (c,t)=>match PyFlat.calls PyVagran.shape f t with
    |none=>none
    |some cs=>some (c::cs))=some cs:=h
  split at h
  . cases h
  . rename_i c t e;split at h
    . cases h
    . rename_i ds e2;cases h;obtain ⟨C,h1,h2,h5⟩:=Hf e;obtain ⟨Cs,h3,h4,h6⟩:=xS f t ds e2;refine ⟨C::Cs,?_,?_,fun ha X hX=>?_⟩
      . rw [h2,h3,List.flatMap_cons]
      . rw [List.map_cons,List.map_cons,List.map_cons,h1,h4]
      . rw [List.map_cons,List.all_cons,Bool.and_eq_true] at ha;rcases List.mem_cons.mp hX with rfl|hX
        . exact h5 ha.1
        . exact h6 ha.2 X hX
noncomputable def vN:SR->List Vagran.Call->List (List Int)
 |_,[]=>[]
 |s,c::r=>(fL s c).2::vN (fL s c).1 r
theorem C5:∀ (cs:List (List (List Int))) (Cs:List Vagran.Call) (s:SR),s.Ok->cs.map VagranNeutral.callOf=Cs.map some->
 PyFlat.played VagranNeutral.step s.spec cs=vN s Cs
 |
  [],Cs,s,_,h=>by
  cases Cs with
  |nil=>rfl
  |cons C Cs=>cases h
 |
  c::cs,Cs,s,ok,h=>by
  cases Cs with
  |nil=>cases h
  |
   cons C Cs=>
   rw [List.map_cons,List.map_cons] at h;injection h with h1 h2
   have e:VagranNeutral.step s.spec c=((fL s C).1.spec,(fL s C).2):=by
    unfold VagranNeutral.step;rw [h1];exact Js s ok C
   show (VagranNeutral.step s.spec c).2::PyFlat.played VagranNeutral.step (VagranNeutral.step s.spec c).1 cs=(fL s C).2::vN (fL s C).1 Cs;rw [e];dsimp only;rw [C5 cs Cs _ (xR ok C) h2]
theorem due{l:List Int}(h:PyVagran.answers_asked l=true):∃ Cs:List Vagran.Call,l=Cs.flatMap iz/\Cs.length<=400/\(∀ C,C∈Cs->ki C)/\PyVagran.answers l=PyFlat.told (vN SR.start Cs):=by
 unfold PyVagran.answers_asked at h;unfold PyVagran.answers;cases e:PyVagran.calls l with
 |none=>rw [e] at h;cases h
 |
  some cs=>
  rw [e] at h;dsimp only at h ⊢;unfold PyVagran.calls at e;cases e2:PyFlat.calls PyVagran.shape l.length l with
  |none=>rw [e2] at e;cases e
  |
   some ds=>
   rw [e2] at e;have e:ds.map PyVagran.whole=cs:=Option.some.inj e;obtain ⟨Cs,h1,h2,h5⟩:=xS _ l ds e2;rw [e] at h2 h5;have hl:cs.length=Cs.length:=by
    have:=congrArg List.length h2;rw [List.length_map,List.length_map] at this;exact this
   rw [Bool.and_eq_true] at h;obtain ⟨h3,h4⟩:=h;unfold PyFlat.atMost at h3;rw [decide_eq_true_eq] at h3;unfold VagranNeutral.asked at h4;rw [Bool.and_eq_true] at h4;refine ⟨Cs,h1,by omega,h5 h4.1,?_⟩
   . congr 1;exact C5 cs Cs SR.start SR.Ok.start h2
end Ex
namespace Ex
noncomputable def cd(x y:Int):Int:=(Nat.gcd x.natAbs y.natAbs:Nat)
theorem Hg(x y:Int):0<=cd x y:=Int.natCast_nonneg _
theorem fj{x y:Int}(h:y≠0):0<cd x y:=by
 have:0<Nat.gcd x.natAbs y.natAbs:=Nat.gcd_pos_of_pos_right _ (by omega);unfold cd;omega
theorem kj(p:Rat):(p.den:Int)≠0:=by have:=p.den_pos;omega
theorem Bp(p:Rat):0<(p.den:Int):=by have:=p.den_pos;omega
theorem lI(x y z:Int):x.fdiv (cd y z)=x / (Nat.gcd y.natAbs z.natAbs:Nat):=by
 rw [Int.fdiv_eq_ediv_of_nonneg _ (Hg y z)];rfl
theorem Hh(p q:Rat):∀ sh fr top left:Int,sh=cd p.den q.den->fr=(p.den:Int).fdiv sh->top=p.num*(q.den:Int).fdiv sh+q.num*fr->left=cd top sh->
 top.fdiv left=(p+q).num/\fr*(q.den:Int).fdiv left=((p+q).den:Int):=by
 rintro sh fr top left rfl rfl rfl rfl;obtain ⟨h1,h2⟩:=CL p q;have e1:∀ x:Nat,(x:Int).fdiv (cd (p.den:Int) (q.den:Int))=((x / Nat.gcd p.den q.den:Nat):Int):=fun x=>by
  rw [lI];rfl
 rw [e1,e1];have e2:(cd (p.den:Int) (q.den:Int)).natAbs=Nat.gcd p.den q.den:=rfl;rw [h1,h2];constructor
 . rw [lI,e2]
 . rw [lI,e2]
   push_cast
   rfl
theorem Ew(p q:Rat):p.num.fdiv (cd p.num q.den)*q.num.fdiv (cd q.num p.den)=(p*q).num/\(p.den:Int).fdiv (cd q.num p.den)*(q.den:Int).fdiv (cd p.num q.den)=((p*q).den:Int):=by
 obtain ⟨h1,h2⟩:=vF p q;rw [h1,h2,lI,lI,lI,lI];refine ⟨rfl,?_⟩
 push_cast
 rfl
theorem C6(p:Rat):p.num*p.num=(p*p).num/\(p.den:Int)*(p.den:Int)=((p*p).den:Int):=by
 obtain ⟨h1,h2⟩:=vF p p;have hg:Nat.gcd p.num.natAbs p.den=1:=p.reduced;rw [h1,h2,hg];simp
theorem Jt{q:Rat}(h:q≠0):(q.num<0->-(q.den:Int)=(q⁻¹).num/\-q.num=((q⁻¹).den:Int))/\(¬ q.num<0->(q.den:Int)=(q⁻¹).num/\q.num=((q⁻¹).den:Int)):=by
 have hn:q.num≠0:=fun z=>h (Rat.num_eq_zero.mp z);have e:q⁻¹=((q.den:Int):Rat) / (q.num:Rat):=by
  have h1:=Rat.mkRat_self q;have h2:(q.num:Rat)≠0:=b_ hn;have h3:((q.den:Int):Rat)≠0:=b_ (kj q);have h4:q=(q.num:Rat) / ((q.den:Int):Rat):=by
   conv=>lhs;rw [<-h1]
   rw [Rat.mkRat_eq_div];rfl
  conv=>lhs;rw [h4]
  grind
 have hg:Nat.gcd (q.den:Int).natAbs q.num.natAbs=1:=by
  rw [Nat.gcd_comm];exact q.reduced
 constructor
 . intro hl;have:=xF (a:=(q.den:Int)) hl;rw [<-e,hg] at this
   simpa using this
 . intro hl;have:=qY (a:=(q.den:Int)) (b:=q.num) (by omega);rw [<-e,hg] at this
   simpa using this
theorem Lj(p q:Rat):(p.num*(q.den:Int)<q.num*(p.den:Int)) ↔ p<q:=(Rat.lt_iff p q).symm
theorem Ey(a:Rat)(b:Nat):(2*a.num*((2 ^ b:Nat):Int)+(a.den:Int)).fdiv (2*(a.den:Int))=Int.fdiv (a*((2 ^ b:Nat):Int)+mkRat 1 2).num (a*((2 ^ b:Nat):Int)+mkRat 1 2).den:=by
 generalize hx:a*(((2 ^ b:Nat):Int):Rat)+mkRat 1 2=x;have hd:=Bp a;have e:((2*a.num*((2 ^ b:Nat):Int)+(a.den:Int):Int):Rat)=x*((2*(a.den:Int):Int):Rat):=by
  have h1:=Rat.mkRat_self a;have h3:((a.den:Int):Rat)≠0:=b_ (kj a);have h4:a*((a.den:Int):Rat)=(a.num:Rat):=by
   have:a=(a.num:Rat) / ((a.den:Int):Rat):=by
    conv=>lhs;rw [<-h1]
    rw [Rat.mkRat_eq_div];rfl
   generalize ((a.den:Int):Rat)=y at *;rw [this]
   grind
  have h5:mkRat 1 2*((2:Int):Rat)=1:=by decide +kernel
  rw [<-hx];have e1:((2*a.num*((2 ^ b:Nat):Int)+(a.den:Int):Int):Rat)=((2:Int):Rat)*(a.num:Rat)*(((2 ^ b:Nat):Int):Rat)+((a.den:Int):Rat):=by
   rw [Rat.intCast_add,Rat.intCast_mul,Rat.intCast_mul]
  have e2:((2*(a.den:Int):Int):Rat)=((2:Int):Rat)*((a.den:Int):Rat):=Rat.intCast_mul _ _;rw [e1,e2,<-h4]
  grind
 have Ml:=Rat.mkRat_self x;have hy:x*((x.den:Int):Rat)=(x.num:Rat):=by
  have h3:((x.den:Int):Rat)≠0:=b_ (kj x);have:x=(x.num:Rat) / ((x.den:Int):Rat):=by
   conv=>lhs;rw [<-Ml]
   rw [Rat.mkRat_eq_div];rfl
  generalize ((x.den:Int):Rat)=y at *;rw [this]
  grind
 have hxd:=Bp x;generalize hT:2*a.num*((2 ^ b:Nat):Int)+(a.den:Int)=t at *;generalize hB:2*(a.den:Int)=u at *;have hu:0<u:=by omega
 have key:t*(x.den:Int)=x.num*u:=by
  have:((t*(x.den:Int):Int):Rat)=((x.num*u:Int):Rat):=by
   rw [Rat.intCast_mul,Rat.intCast_mul,e,<-hy];grind
  exact Rat.intCast_inj.mp this
 rw [Int.fdiv_eq_ediv_of_nonneg _ (by omega),Int.fdiv_eq_ediv_of_nonneg _ (by omega)];have h1:t / u=(t*(x.den:Int)) / (u*(x.den:Int)):=(Int.mul_ediv_mul_of_pos_left t u hxd).symm;have h2:x.num / (x.den:Int)=(x.num*u) / ((x.den:Int)*u):=(Int.mul_ediv_mul_of_pos_left x.num _ hu).symm;rw [h1,h2,key,Int.mul_comm u]
end Ex
namespace Ex
theorem rA:∀ {l:List Int} {fs:List Rat},eK l=some fs->l.length=2*fs.length
 |
  [],fs,h=>by
  have:fs=[]:=(Option.some.inj h).symm;subst this;rfl
 |[_],fs,h=>by cases h
 |
  n::d::r,fs,h=>by
  have h:(if d<1 then none else (eK r).map fun l=>mkRat n d.toNat::l)=some fs:=h;by_cases hd:d<1
  . rw [if_pos hd] at h;cases h
  . rw [if_neg hd] at h;cases e:eK r with
    |none=>rw [e] at h;cases h
    |
     some t=>
     rw [e] at h;have h:mkRat n d.toNat::t=fs:=Option.some.inj h;have:=rA e;subst h;simp only [List.length_cons];omega
theorem Hi{n:Nat}{l:List Int}(h:l.length=2*n):cY n l=eK l:=by
 unfold cY;cases e:eK l with
 |none=>rfl
 |
  some fs=>
  have:=rA e;dsimp only;rw [if_pos (by omega)]
theorem Hj{n:Nat}{l:List Int}(h:¬ l.length=2*n):cY n l=none:=by
 unfold cY;cases e:eK l with
 |none=>rfl
 |
  some fs=>
  have:=rA e;dsimp only;rw [if_neg (by omega)]
theorem Ju{l:List Int}{k:Nat}{a b:Int}(h1:l[k]?=some a)(h2:l[k+1]?=some b):l.drop k=a::b::l.drop (k+2):=by
 obtain ⟨l1,e1⟩:=List.getElem?_eq_some_iff.mp h1;obtain ⟨l2,e2⟩:=List.getElem?_eq_some_iff.mp h2;rw [List.drop_eq_getElem_cons l1,List.drop_eq_getElem_cons l2,e1,e2]
theorem Jv{l:List Int}{i:Nat}{a b:Int}(h1:l[2*i]?=some a)(h2:l[2*i+1]?=some b):eK (l.drop (2*i))=if b<1 then none else (eK (l.drop (2*(i+1)))).map fun t=>mkRat a b.toNat::t:=by
 rw [Ju h1 h2];rfl
theorem ko(a:Int){b:Int}(h:1<=b):(a:Rat) / (b:Rat)=mkRat a b.toNat:=by
 rw [Rat.mkRat_eq_div];have:((b.toNat:Nat):Rat)=(b:Rat):=by
  have e:b=((b.toNat:Nat):Int):=by omega
  conv=>rhs;rw [e]
  rfl
 rw [this]
theorem Hl{ns:List Int}{i:Nat}{k:Int}(h:ns[i]?=some k):di (ns.drop i)=if k<0\/7<=k then none else
 if ((ns.drop i).take (lenOf k)).length<lenOf k\/fits ((ns.drop i).take (lenOf k))=false then none else some ((ns.drop i).take (lenOf k)):=by
 obtain ⟨l1,e1⟩:=List.getElem?_eq_some_iff.mp h;rw [List.drop_eq_getElem_cons l1,e1];rfl
theorem sS:∀ (f g:Nat) (l:List Int),l.length<=f->l.length<=g->bY f l=bY g l
 |_,_,[],_,_=>by unfold bY;rfl
 |0,_,_::_,h,_=>by simp at h
 |_,0,_::_,_,h=>by simp at h
 |
  f+1,g+1,k::r,h,h'=>by
  show (match di (k::r) with
   |none=>none
   |some t=>(bY f ((k::r).drop t.length)).map fun c=>t::c)=(match di (k::r) with
   |none=>none
   |some t=>(bY g ((k::r).drop t.length)).map fun c=>t::c)
  cases e:di (k::r) with
  |none=>rfl
  |
   some t=>
   dsimp only;have:=(jn e).2.2;rw [sS f g _ (by rw [List.length_drop];omega) (by rw [List.length_drop];omega)]
theorem Bq{l:List Int}{i:Nat}(hi:i<l.length):bY (l.length-i) (l.drop i)=match di (l.drop i) with
 |none=>none
 |some t=>(bY (l.length-(i+t.length)) (l.drop (i+t.length))).map fun c=>t::c:=by
 have e0:l.drop i=l[i]::l.drop (i+1):=List.drop_eq_getElem_cons hi;have e1:l.length-i=(l.length-(i+1))+1:=by omega
 rw [e0,e1];show (match di (l[i]::l.drop (i+1)) with
  |none=>none
  |some t=>(bY (l.length-(i+1)) ((l[i]::l.drop (i+1)).drop t.length)).map fun c=>t::c)=_
 rw [<-e0];cases e:di (l.drop i) with
 |none=>rfl
 |
  some t=>
  dsimp only;have:=(jn e).2.2;rw [List.drop_drop];rw [sS (l.length-(i+1)) (l.length-(i+t.length)) _ (by rw [List.length_drop];omega) (by rw [List.length_drop];omega)]
theorem Jw(k:Int):2<=lenOf k/\lenOf k<=3:=by unfold lenOf;split<;>omega
theorem cE.len{t:Raw}(h:cE t):2<=t.length/\t.length<=3:=by cases h<;>simp
theorem pK(n:Nat):∀ {ts:List Raw} {p i:Nat} {t:Raw},bK n p ts=true->ts[i]?=some t->cz n (p+i) t=true
 |[],_,_,_,_,h=>by simp at h
 |
  u::r,p,0,t,h,e=>by
  have h:(cz n p u && bK n (p+1) r)=true:=h;rw [Bool.and_eq_true] at h;simp at e;subst e;exact h.1
 |
  u::r,p,i+1,t,h,e=>by
  have h:(cz n p u && bK n (p+1) r)=true:=h;rw [Bool.and_eq_true] at h;have:=pK n (i:=i) h.2 (by simpa using e);rw [show p+(i+1)=p+1+i by omega];exact this
theorem pL(pt:List Rat):∀ (ts:List Raw) (vs:List Rat),(aO pt vs ts).2=none->(aO pt vs ts).1.length=vs.length+ts.length
 |[],vs,_=>rfl
 |
  t::r,vs,h=>by
  unfold aO at h ⊢;cases e:oN pt vs t with
  |none=>rw [e] at h;cases h
  |
   some q=>
   rw [e] at h;dsimp only at h ⊢;by_cases hw:2000<wt q
   . rw [if_pos hw] at h;cases h
   . rw [if_neg hw] at h;rw [if_neg hw,pL pt r _ h];simp;omega
theorem xT(pt:List Rat):∀ (ts:List Raw) (vs:List Rat),(∀ q,q∈vs->wt q<=2000)->∀ q,q∈(aO pt vs ts).1->wt q<=2000
 |[],vs,h=>h
 |
  t::r,vs,h=>by
  unfold aO;cases e:oN pt vs t with
  |none=>exact h
  |
   some q=>
   dsimp only;by_cases hw:2000<wt q
   . rw [if_pos hw];exact h
   . rw [if_neg hw];refine xT pt r _ fun x hx=>?_;rcases List.mem_append.mp hx with hx|hx
     . exact h x hx
     . rw [List.mem_singleton.mp hx];omega
theorem Lk:wt 0=1:=by decide +kernel
theorem rB(k:Nat)(vs:List Rat):∀ (ts:List Raw) (ds:List Rat) (i:Nat),i<ds.length->(bW k vs ds ts).getD i 0=ds.getD i 0
 |[],ds,i,h=>rfl
 |
  t::r,ds,i,h=>by
  show (bW k vs (ds++[_]) r).getD i 0=_;rw [rB k vs r _ i (by rw [List.length_append];omega)];rw [List.getD_eq_getElem?_getD,List.getElem?_append,if_pos h,<-List.getD_eq_getElem?_getD]
theorem sU{n k p:Nat}{vs ds es:List Rat}{v:Rat}{t:Raw}(hl:cE t)(hu:cz n p t=true)(h:∀ i,i<p->ds.getD i 0=es.getD i 0):cT k vs ds v t=cT k vs es v t:=by
 have nn:∀ {i:Int},0<=i->decide (i<(p:Int))=true->ds.getD i.toNat 0=es.getD i.toNat 0:=fun {i} h0 h1=>by
  rw [decide_eq_true_eq] at h1;exact h _ (by omega)
 cases hl with
 |input h=>rfl
 |num h=>rfl
 |neg h0=>show -ds.getD _ 0=-es.getD _ 0;rw [nn h0 hu]
 |add h0 h1=>(have hu:=Bool.and_eq_true_iff.mp hu;show ds.getD _ 0+ds.getD _ 0=es.getD _ 0+es.getD _ 0;rw [nn h0 hu.1,nn h1 hu.2])
 |sub h0 h1=>(have hu:=Bool.and_eq_true_iff.mp hu;show ds.getD _ 0-ds.getD _ 0=es.getD _ 0-es.getD _ 0;rw [nn h0 hu.1,nn h1 hu.2])
 |mul h0 h1=>(have hu:=Bool.and_eq_true_iff.mp hu;show ds.getD _ 0*_+_*ds.getD _ 0=es.getD _ 0*_+_*es.getD _ 0;rw [nn h0 hu.1,nn h1 hu.2])
 |div h0 h1=>(have hu:=Bool.and_eq_true_iff.mp hu;show (ds.getD _ 0-_*ds.getD _ 0) / _=(es.getD _ 0-_*es.getD _ 0) / _;rw [nn h0 hu.1,nn h1 hu.2])
theorem sV{n k:Nat}{vs:List Rat}:∀ (ts:List Raw) (ds:List Rat),(∀ t,t∈ts->cE t)->bK n ds.length ts=true->∀ (i:Nat) (t:Raw),ts[i]?=some t->
 (bW k vs ds ts).getD (ds.length+i) 0=cT k vs (bW k vs ds ts) (vs.getD (ds.length+i) 0) t
 |[],ds,_,_,i,t,h=>by simp at h
 |
  u::r,ds,hl,hu,0,t,h=>by
  have e:u=t:=by simpa using h
  subst e;have hu:(cz n ds.length u && bK n (ds.length+1) r)=true:=hu;rw [Bool.and_eq_true] at hu;show (bW k vs (ds++[cT k vs ds (vs.getD ds.length 0) u]) r).getD ds.length 0=cT k vs (bW k vs (ds++[cT k vs ds (vs.getD ds.length 0) u]) r) (vs.getD ds.length 0) u;rw [rB k vs r _ _ (by simp)];rw [List.getD_eq_getElem?_getD,List.getElem?_append,if_neg (by omega),Nat.sub_self];show cT k vs ds (vs.getD ds.length 0) u=_;refine sU (hl u List.mem_cons_self) hu.1 fun i hi=>?_;rw [rB k vs r _ _ (by simp;omega)];rw [List.getD_eq_getElem?_getD (l:=ds++_),List.getElem?_append,if_pos hi,<-List.getD_eq_getElem?_getD]
 |
  u::r,ds,hl,hu,i+1,t,h=>by
  have hu:(cz n ds.length u && bK n (ds.length+1) r)=true:=hu;rw [Bool.and_eq_true] at hu;have ih:=sV (n:=n) (k:=k) (vs:=vs) r (ds++[cT k vs ds (vs.getD ds.length 0) u]) (fun x hx=>hl x (List.mem_cons_of_mem _ hx)) (by rw [List.length_append];exact hu.2) i t (by simpa using h);rw [List.length_append,List.length_singleton] at ih;show (bW k vs (ds++[cT k vs ds (vs.getD ds.length 0) u]) r).getD (ds.length+(i+1)) 0=cT k vs (bW k vs (ds++[cT k vs ds (vs.getD ds.length 0) u]) r) (vs.getD (ds.length+(i+1)) 0) t;rw [show ds.length+(i+1)=ds.length+1+i by omega];exact ih
theorem Ez{n k:Nat}{vs:List Rat}{ts:List Raw}(hl:∀ t,t∈ts->cE t)(hu:bK n 0 ts=true){i:Nat}{t:Raw}(h:ts[i]?=some t) :
 (bW k vs [] ts).getD i 0=cT k vs (bW k vs [] ts) (vs.getD i 0) t:=by
 have:=sV (n:=n) (k:=k) (vs:=vs) ts [] hl hu i t h;rw [List.length_nil,Nat.zero_add] at this;exact this
end Ex
namespace Ex
noncomputable def cF(J:List (List Rat))(fs:List Rat):List (List Rat):=List.zipWith (fun r f=>r++[-f]) J fs
noncomputable def cP(b:Nat)(row:List Rat):Nat:=row.foldl (fun b q=>Nat.lcm b q.den) b
noncomputable def jC(rows:List (List Rat)):Nat:=rows.foldl cP 1
noncomputable def uF(b:Nat)(row:List Rat):List Int:=row.map fun q=>q.num*((b:Int).fdiv (q.den:Int))
noncomputable def bM(J:List (List Rat))(fs:List Rat):List (List Int):=(cF J fs).map (uF (jC (cF J fs)))
noncomputable def wu(rows:List (List Int))(i j:Nat):Int:=(rows.map fun r=>r.getD i 0*r.getD j 0).sum
noncomputable def g7(rows:List (List Int))(n:Nat):List (List Int):=(List.range n).map fun i=>(List.range (n+1)).map fun j=>wu rows i j
noncomputable def dU(rows:List (List Int))(n:Nat):gx:=gy n 0 ⟨rows,[],1⟩
noncomputable def gS(X:gx)(n:Nat):List (Int × Int):=(List.range n).map fun i=>pairAt X.fn n i
noncomputable def lJ(rows:List (List Int))(n:Nat):Option (List (Int × Int)):=if (dU rows n).ps.length<n then none else
 if ((dU rows n).rows.drop n).any (fun r=>!decide (r.getD n 0=0))=true then none else some (gS (dU rows n) n)
noncomputable def rC(rows:List (List Int))(n:Nat):List (Int × Int):=gS (dU (g7 rows n) n) n
noncomputable def gp(kind:Nat)(J:List (List Rat))(fs:List Rat)(n:Nat):Option (List (Int × Int)):=if kind=0 then lJ (bM J fs) n else some (rC (bM J fs) n)
theorem rD:∀ (row:List Rat) (b:Nat),0<b->0<cP b row
 |[],b,h=>h
 |q::r,b,h=>rD r _ (Nat.lcm_pos h q.den_pos)
theorem xU:∀ (row:List Rat) (b:Nat),b∣cP b row/\∀ q,q∈row->q.den∣cP b row
 |[],b=>⟨Nat.dvd_refl _,fun _ h=>(nomatch h)⟩
 |
  q::r,b=>by
  obtain ⟨h1,h2⟩:=xU r (Nat.lcm b q.den);refine ⟨Nat.dvd_trans (Nat.dvd_lcm_left b q.den) h1,fun x hx=>?_⟩;rcases List.mem_cons.mp hx with rfl|hx
  . exact Nat.dvd_trans (Nat.dvd_lcm_right b _) h1
  . exact h2 x hx
theorem nB:∀ (row:List Rat) (b L:Nat),b∣L->(∀ q,q∈row->q.den∣L)->cP b row∣L
 |[],b,L,h,_=>h
 |q::r,b,L,h,hq=>nB r _ L (Nat.lcm_dvd h (hq q List.mem_cons_self)) fun x hx=>hq x (List.mem_cons_of_mem _ hx)
theorem pN:∀ (rows:List (List Rat)) (b:Nat),0<b->0<rows.foldl cP b
 |[],b,h=>h
 |r::rs,b,h=>pN rs _ (rD r b h)
theorem pO:∀ (rows:List (List Rat)) (b:Nat),b∣rows.foldl cP b/\∀ r,r∈rows->∀ q,q∈r->q.den∣rows.foldl cP b
 |[],b=>⟨Nat.dvd_refl _,fun _ h=>(nomatch h)⟩
 |
  r::rs,b=>by
  obtain ⟨h1,h2⟩:=pO rs (cP b r);obtain ⟨h3,h4⟩:=xU r b;refine ⟨Nat.dvd_trans h3 h1,fun x hx q hq=>?_⟩;rcases List.mem_cons.mp hx with rfl|hx
  . exact Nat.dvd_trans (h4 q hq) h1
  . exact h2 x hx q hq
theorem jo:∀ (rows:List (List Rat)) (b L:Nat),b∣L->(∀ r,r∈rows->∀ q,q∈r->q.den∣L)->rows.foldl cP b∣L
 |[],b,L,h,_=>h
 |r::rs,b,L,h,hq=>jo rs _ L (nB r b L h (hq r List.mem_cons_self)) fun x hx=>hq x (List.mem_cons_of_mem _ hx)
theorem Jx(b d:Nat)(hb:0<b):((b:Int).fdiv (cd (b:Int) (d:Int)))*(d:Int)=((Nat.lcm b d:Nat):Int):=by
 rw [lI];show (b:Int) / ((Nat.gcd b d:Nat):Int)*(d:Int)=_;have e:(b:Int) / ((Nat.gcd b d:Nat):Int)=((b / Nat.gcd b d:Nat):Int):=rfl;rw [e];have:b / Nat.gcd b d*d=Nat.lcm b d:=by
  unfold Nat.lcm;rw [Nat.mul_comm b d,Nat.mul_div_assoc _ (Nat.gcd_dvd_left b d),Nat.mul_comm]
 exact_mod_cast this
theorem Ll{q:Rat}{b:Nat}(h:q.den∣b):((q.num*((b:Int).fdiv (q.den:Int)):Int):Rat)=((b:Int):Rat)*q:=by
 obtain ⟨k,rfl⟩:=h;have hd:=q.den_pos;have e:((q.den*k:Nat):Int).fdiv (q.den:Int)=(k:Int):=by
  rw [Int.fdiv_eq_ediv_of_nonneg _ (by omega)]
  push_cast
  exact Int.mul_ediv_cancel_left _ (by omega)
 rw [e];have h3:((q.den:Int):Rat)≠0:=b_ (kj q);have h4:q*((q.den:Int):Rat)=(q.num:Rat):=by
  have:q=(q.num:Rat) / ((q.den:Int):Rat):=by
   conv=>lhs;rw [<-Rat.mkRat_self q]
   rw [Rat.mkRat_eq_div];rfl
  generalize ((q.den:Int):Rat)=y at *;rw [this]
  grind
 rw [Rat.intCast_mul,<-h4];have:(((q.den*k:Nat):Int):Rat)=((q.den:Int):Rat)*((k:Int):Rat):=by
  rw [<-Rat.intCast_mul];push_cast;rfl
 rw [this];grind
theorem nD{J:List (List Rat)}{fs:List Rat}(h:J.length=fs.length):(cF J fs).length=fs.length:=by
 unfold cF;rw [List.length_zipWith];omega
theorem Aw{J:List (List Rat)}{fs:List Rat}{i:Nat}(h:J.length=fs.length)(hi:i<fs.length):(cF J fs).getD i []=J.getD i []++[-fs.getD i 0]:=by
 unfold cF;rw [List.getD_eq_getElem?_getD,List.getElem?_zipWith,List.getElem?_eq_getElem (by omega:i<J.length),List.getElem?_eq_getElem hi,
  List.getD_eq_getElem?_getD,List.getD_eq_getElem?_getD,List.getElem?_eq_getElem (by omega:i<J.length),List.getElem?_eq_getElem hi]
 rfl
theorem iZ{J:List (List Rat)}{fs:List Rat}(h:J.length=fs.length):(bM J fs).length=fs.length:=by
 unfold bM;rw [List.length_map,nD h]
theorem lK{J:List (List Rat)}{fs:List Rat}{n:Nat}(hw:∀ r,r∈J->r.length=n):Wide (n+1) (bM J fs):=by
 intro r hr;unfold bM at hr;obtain ⟨x,hx,rfl⟩:=List.mem_map.mp hr;unfold cF at hx;obtain ⟨i,hi,e⟩:=List.getElem_of_mem hx;rw [List.getElem_zipWith] at e;unfold uF;rw [List.length_map,<-e,List.length_append,hw _ (List.getElem_mem _)];rfl
theorem qL(b:Nat)(row:List Rat)(j:Nat):(uF b row).getD j 0=(row.getD j 0).num*((b:Int).fdiv ((row.getD j 0).den:Int)):=by
 unfold uF;rw [List.getD_eq_getElem?_getD,List.getElem?_map,List.getD_eq_getElem?_getD];cases row[j]? with
 |none=>show (0:Int)=(0:Rat).num*_;rw [show (0:Rat).num=0 from rfl,Int.zero_mul]
 |some q=>rfl
theorem EA{J:List (List Rat)}{fs:List Rat}{m n:Nat}{G:Nat->Nat->Rat}(h:J.length=fs.length)(hm:fs.length=m)(hw:∀ r,r∈J->r.length=n)(hG:∀ i,i<m->∀ c,c<n->(J.getD i []).getD c 0=G i c) :
 ∀ i,i<m->∀ j,j<n+1->(cell (bM J fs) i j:Rat)=(((jC (cF J fs):Nat):Int):Rat)*gn n G (fun i=>-fs.getD i 0) i j:=by
 intro i hi j hj;have e1:(bM J fs).getD i []=uF (jC (cF J fs)) ((cF J fs).getD i []):=by
  unfold bM;rw [List.getD_eq_getElem?_getD,List.getElem?_map,List.getD_eq_getElem?_getD,List.getElem?_eq_getElem (by rw [nD h];omega:i<(cF J fs).length)];rfl
 have Vh:(J.getD i []).length=n:=hw _ (by rw [List.getD_eq_getElem?_getD,List.getElem?_eq_getElem (by omega:i<J.length)];exact List.getElem_mem _);have e2:((cF J fs).getD i []).getD j 0=gn n G (fun i=>-fs.getD i 0) i j:=by
  rw [Aw h (by omega)];unfold gn;by_cases hjn:j<n
  . rw [if_pos hjn,<-hG i hi j hjn,List.getD_eq_getElem?_getD,List.getElem?_append,if_pos (by omega),<-List.getD_eq_getElem?_getD]
  . rw [if_neg hjn,List.getD_eq_getElem?_getD,List.getElem?_append,if_neg (by omega),show j-(J.getD i []).length=0 by omega];rfl
 unfold cell;rw [e1,qL,Ll,e2];have hmem:((cF J fs).getD i [])∈cF J fs:=getD_mem (by rw [nD h];omega);refine (pO (cF J fs) 1).2 _ hmem _ (getD_mem ?_);rw [Aw h (by omega),List.length_append,Vh];exact hj
theorem uG(rows:List (List Rat)):((jC rows:Nat):Int)≠0:=by
 have:0<jC rows:=pN rows 1 (by decide);omega
theorem C7{A:List (List Int)}(i j:Nat):∀ k,k<=A.length->((((A.take k).map fun r=>r.getD i 0*r.getD j 0).sum:Int):Rat)=sumTo k fun r=>(cell A r i:Rat)*(cell A r j:Rat)
 |0,_=>by simp;rfl
 |
  k+1,h=>by
  have hk:k<A.length:=by omega
  have e:A.take (k+1)=A.take k++[A[k]]:=by rw [List.take_succ,List.getElem?_eq_getElem hk];rfl
  rw [e,List.map_append,List.sum_append,Rat.intCast_add,C7 i j k (by omega)];show _=sumTo k _+(cell A k i:Rat)*(cell A k j:Rat);have ec:∀ j,cell A k j=A[k].getD j 0:=fun j=>by
   unfold cell;rw [List.getD_eq_getElem?_getD (l:=A),List.getElem?_eq_getElem hk];rfl
  rw [ec,ec];simp
theorem xV(rows:List (List Int)){n i j:Nat}(hi:i<n)(hj:j<n+1):cell (g7 rows n) i j=wu rows i j:=by
 unfold cell g7;rw [List.getD_eq_getElem?_getD (l:=List.map _ _),List.getElem?_map,List.getElem?_range hi];show ((List.range (n+1)).map fun j=>wu rows i j).getD j 0=_;rw [List.getD_eq_getElem?_getD,List.getElem?_map,List.getElem?_range hj];rfl
theorem Ho{A:List (List Int)}{m n:Nat}{b:Rat}{J:Nat->Nat->Rat}{h:Nat->Rat}(hm:A.length=m)(hA:∀ i,i<m->∀ j,j<n+1->(cell A i j:Rat)=b*gn n J h i j) :
 ∀ i,i<n->∀ j,j<n+1->(cell (g7 A n) i j:Rat)=(b*b)*gn n (oK m J) (oM m J h) i j:=by
 intro i hi j hj;rw [xV A hi hj];have e1:=C7 (A:=A) i j m (by omega);rw [<-hm,List.take_length,hm] at e1;have e1:((wu A i j:Int):Rat)=_:=e1;rw [e1];have e2:sumTo m (fun r=>(cell A r i:Rat)*(cell A r j:Rat))=sumTo m fun r=>(b*b)*(J r i*gn n J h r j):=by
  apply bO;intro r hr;rw [hA r hr i (by omega),hA r hr j hj];have:gn n J h r i=J r i:=by unfold gn;rw [if_pos hi]
  rw [this];grind
 rw [e2,gY];congr 1;unfold gn;by_cases hjn:j<n
 . rw [if_pos hjn];apply bO;intro r _;rw [if_pos hjn]
 . rw [if_neg hjn];apply bO;intro r _;rw [if_neg hjn]
theorem nE(rows:List (List Int))(n:Nat):Wide (n+1) (g7 rows n):=by
 intro r hr;unfold g7 at hr;obtain ⟨i,_,rfl⟩:=List.mem_map.mp hr;rw [List.length_map,List.length_range]
theorem uH(rows:List (List Int))(n:Nat):(g7 rows n).length=n:=by unfold g7;rw [List.length_map,List.length_range]
theorem Hq{l m:List Rat}(h:l.map F=m.map F):l=m:=by
 induction l generalizing m with
 |
  nil=>cases m with
  |nil=>rfl
  |cons y m=>cases h
 |
  cons x l ih=>cases m with
  |nil=>cases h
  |
   cons y m=>
   rw [List.map_cons,List.map_cons] at h;injection h with h1 h2
   rw [Pd h1,ih h2]
theorem any_drop{rows:List (List Int)}{m n:Nat}(hl:rows.length=m):(match wk m (cell rows) n n with|some _=>true|none=>false)=(rows.drop n).any fun r=>!decide (r.getD n 0=0):=by
 cases e:wk m (cell rows) n n with
 |
  some p=>
  have h1:=List.mem_range.mp (List.mem_of_find?_eq_some e);have h2:=List.find?_some e;simp only [Bool.and_eq_true,decide_eq_true_eq,Bool.not_eq_true'] at h2;symm;show _=true;rw [List.any_eq_true];refine ⟨rows.getD p [],?_,?_⟩
  . have:(rows.drop n)[p-n]?=some (rows.getD p []):=by
     rw [List.getElem?_drop,show n+(p-n)=p by omega,List.getElem?_eq_getElem (by omega:p<rows.length),List.getD_eq_getElem?_getD,List.getElem?_eq_getElem (by omega:p<rows.length)];rfl
    exact List.mem_of_getElem? this
  . have:¬ (rows.getD p []).getD n 0=0:=of_decide_eq_false h2.2;rw [decide_eq_false this];rfl
 |
  none=>
  symm;show _=false;apply Bool.eq_false_iff.mpr;intro h;rw [List.any_eq_true] at h;obtain ⟨r,hr,h2⟩:=h;obtain ⟨j,hj,e2⟩:=List.getElem_of_mem hr;rw [List.length_drop] at hj;have:=List.find?_eq_none.mp e (n+j) (List.mem_range.mpr (by omega));apply this;have e3:cell rows (n+j) n=r.getD n 0:=by
   unfold cell;rw [List.getD_eq_getElem?_getD (l:=rows),<-List.getElem?_drop,List.getElem?_eq_getElem (by rw [List.length_drop];exact hj),e2];rfl
  rw [e3];simp only [Bool.and_eq_true,decide_eq_true_eq];exact ⟨by omega,h2⟩
theorem find_eq{kind m n:Nat}{J:List (List Rat)}{fs:List Rat}{G:Nat->Nat->Rat}(h:J.length=fs.length)(hm:fs.length=m)(hn:n<=4)(hw:∀ r,r∈J->r.length=n)(hG:∀ i,i<m->∀ c,c<n->(J.getD i []).getD c 0=G i c) :
 qy kind m n G fs=(gp kind J fs n).map (fun ps=>ps.map a_)/\∀ ps,gp kind J fs n=some ps->ps.length=n/\∀ x,x∈ps->x.2≠0:=by
 have hS:=CZ kind m n G fs hm;have W:=EA h hm hw hG;have key:∀ {o:Option (List Rat)} {ps:Option (List (Int × Int))},(o.map fun d=>d.map F)=ps.map (fun ps=>ps.map fun x=>F (a_ x))->o=ps.map fun ps=>ps.map a_:=fun {o ps} e=>by
  cases o with
  |
   none=>cases ps with
   |none=>rfl
   |some _=>cases e
  |
   some d=>cases ps with
   |none=>cases e
   |
    some ps=>
    have e:d.map F=ps.map (fun x=>F (a_ x)):=Option.some.inj e;have e2:ps.map (fun x=>F (a_ x))=(ps.map a_).map F:=by rw [List.map_map];rfl
    rw [e2] at e;show some d=some (ps.map a_);rw [Hq e]
 by_cases hk:kind=0
 . subst hk;obtain ⟨h1,h2⟩:=Bf (m:=m) (n:=n) (J:=G) hm hn (uG (cF J fs)) (A:=cell (bM J fs)) W;obtain ⟨b1,b2,b3⟩:=pF (m:=m) n 0 ⟨bM J fs,[],1⟩ ((iZ h).trans hm) (lK hw);have b1:(dU (bM J fs) n).fn=gw m n 0 ⟨cell (bM J fs),[],1⟩:=b1;rw [<-b1] at h1 h2;have eb:(dU (bM J fs) n).fn.M=cell (dU (bM J fs) n).rows:=rfl;rw [eb] at h1;have ad:=any_drop (n:=n) b2;have ad:(match wk m (cell (dU (bM J fs) n).rows) n n with|some _=>true|none=>false)=((dU (bM J fs) n).rows.drop n).any fun r=>!decide (r.getD n 0=0):=ad;have ef:gp 0 J fs n=lJ (bM J fs) n:=by unfold gp;rw [if_pos rfl]
   have hs0:Vagran.stepOf 0 (cM m n G) (fs.map F)=Vagran.newton (cM m n G) (fs.map F):=rfl;rw [hs0,h1] at hS;have ep:(dU (bM J fs) n).fn.ps=(dU (bM J fs) n).ps:=rfl;rw [ep] at hS;constructor
   . apply key;rw [<-hS,ef];unfold lJ;by_cases hl:(dU (bM J fs) n).ps.length<n
     . rw [if_pos hl,if_pos hl];rfl
     . rw [if_neg hl,if_neg hl];rw [<-ad];cases wk m (cell (dU (bM J fs) n).rows) n n with
       |some p=>rfl
       |
        none=>
        show some _=Option.map _ (if false=true then none else some (gS (dU (bM J fs) n) n));rw [if_neg (by decide)];show _=some ((gS (dU (bM J fs) n) n).map fun x=>F (a_ x));unfold gS;rw [List.map_map];rfl
   . intro ps hp;rw [ef] at hp;unfold lJ at hp;split at hp
     . cases hp
     . split at hp
       . cases hp
       . have hp:=Option.some.inj hp;subst hp;unfold gS;refine ⟨by rw [List.length_map,List.length_range],fun x hx=>?_⟩;obtain ⟨i,hi,rfl⟩:=List.mem_map.mp hx;exact h2 i (List.mem_range.mp hi)
 . have W2:=Ho ((iZ h).trans hm) W;have R8:(((jC (cF J fs):Nat):Int)*((jC (cF J fs):Nat):Int))≠0:=Int.mul_ne_zero (uG _) (uG _);obtain ⟨h1,h2⟩:=CS (m:=m) (n:=n) (J:=G) hm hn R8 (A:=cell (g7 (bM J fs) n)) (fun i hi j hj=>by rw [W2 i hi j hj,Rat.intCast_mul]);obtain ⟨b1,b2,b3⟩:=pF (m:=n) n 0 ⟨g7 (bM J fs) n,[],1⟩ (uH _ _) (nE _ _);have b1:(dU (g7 (bM J fs) n) n).fn=gw n n 0 ⟨cell (g7 (bM J fs) n),[],1⟩:=b1;rw [<-b1] at h1 h2;have ef:gp kind J fs n=some (rC (bM J fs) n):=by unfold gp;rw [if_neg hk]
   have hs0:Vagran.stepOf kind (cM m n G) (fs.map F)=Vagran.least (cM m n G) (fs.map F):=by
    match kind,hk with
    |k+1,_=>rfl
   rw [hs0,h1] at hS;constructor
   . apply key;rw [<-hS,ef];show some _=some ((rC (bM J fs) n).map fun x=>F (a_ x));unfold rC gS;rw [List.map_map];rfl
   . intro ps hp;rw [ef] at hp;have hp:=Option.some.inj hp;subst hp;unfold rC gS;refine ⟨by rw [List.length_map,List.length_range],fun x hx=>?_⟩;obtain ⟨i,hi,rfl⟩:=List.mem_map.mp hx;exact h2 i (List.mem_range.mp hi)
theorem xW:∀ (f c:Nat) (X:gx),X.ps.Pairwise (·<·)->(∀ p,p∈X.ps->p<c)->(gy f c X).ps.Pairwise (·<·)/\∀ p,p∈(gy f c X).ps->p<c+f
 |0,c,X,h1,h2=>⟨h1,fun p hp=>by have:=h2 p hp;omega⟩
 |
  f+1,c,X,h1,h2=>by
  unfold gy;cases dN X.rows c X.ps.length with
  |
   none=>
   obtain ⟨a,b⟩:=xW f (c+1) X h1 fun p hp=>by have:=h2 p hp;omega
   exact ⟨a,fun p hp=>by have:=b p hp;omega⟩
  |
   some q=>
   obtain ⟨a,b⟩:=xW f (c+1) ⟨fz X.rows X.ps.length q c X.d,X.ps++[c],cell X.rows q c⟩ (by
    show (X.ps++[c]).Pairwise (·<·);rw [List.pairwise_append];refine ⟨h1,List.pairwise_singleton _ _,fun x hx y hy=>?_⟩;rw [List.mem_singleton.mp hy];exact h2 x hx) (fun p hp=>by
    rcases List.mem_append.mp hp with hp|hp
    . have:=h2 p hp;omega
    . rw [List.mem_singleton.mp hp];omega)
   exact ⟨a,fun p hp=>by have:=b p hp;omega⟩
theorem C8(rows:List (List Int))(n:Nat):(dU rows n).ps.Pairwise (·<·)/\∀ p,p∈(dU rows n).ps->p<n:=by
 have:=xW n 0 ⟨rows,[],1⟩ List.Pairwise.nil fun p hp=>(nomatch hp)
 rw [Nat.zero_add] at this;exact this
theorem Ax{ps:List Nat}{c i:Nat}:(ps++[c]).findIdx? (fun x=>decide (x=i))=match ps.findIdx? (fun x=>decide (x=i)) with
 |some l=>some l
 |none=>if c=i then some ps.length else none:=by
 rw [List.findIdx?_append];cases ps.findIdx? fun x=>decide (x=i) with
 |some l=>rfl
 |
  none=>
  show ([c].findIdx? fun x=>decide (x=i)).map (fun x=>x+ps.length)=_;by_cases h:c=i
  . subst h;rw [if_pos rfl];simp
  . rw [if_neg h];simp [h]
end Ex
namespace Ex
theorem C9(a b:Int):(a.fdiv b).natAbs<=a.natAbs:=by
 rcases Int.lt_trichotomy b 0 with hb|hb|hb
 . have e:a.fdiv b=(-a) / (-b):=by
    rw [<-Int.neg_fdiv_neg a b,Int.fdiv_eq_ediv_of_nonneg _ (by omega)]
   rw [e];have:=Int.natAbs_ediv_le_natAbs (-a) (-b);rw [Int.natAbs_neg] at this;exact this
 . subst hb;simp
 . rw [Int.fdiv_eq_ediv_of_nonneg _ (by omega)];exact Int.natAbs_ediv_le_natAbs a b
theorem Bd.mul{a b:Nat}{x y:Int}(hx:Bd a x)(hy:Bd b y):Bd (a+b) (x*y):=by
 show (x*y).natAbs<_;rw [Int.natAbs_mul];exact cX hx hy
theorem Bd.sub{a:Nat}{x y:Int}(hx:Bd a x)(hy:Bd a y):Bd (a+1) (x-y):=by
 show (x-y).natAbs<_;have h1:x.natAbs<2 ^ a:=hx;have h2:y.natAbs<2 ^ a:=hy;rw [Nat.pow_succ];omega
theorem Bd.add{a:Nat}{x y:Int}(hx:Bd a x)(hy:Bd a y):Bd (a+1) (x+y):=by
 show (x+y).natAbs<_;have h1:x.natAbs<2 ^ a:=hx;have h2:y.natAbs<2 ^ a:=hy;rw [Nat.pow_succ];omega
theorem Bd.zero(a:Nat):Bd a 0:=Nat.two_pow_pos a
theorem Bd.fdiv{a:Nat}{x:Int}(hx:Bd a x)(d:Int):Bd a (x.fdiv d):=Nat.lt_of_le_of_lt (C9 x d) hx
theorem jW{e:Nat}{r:List Int}(h:∀ x,x∈r->Bd e x)(j:Nat):Bd e (r.getD j 0):=by
 rw [List.getD_eq_getElem?_getD];cases he:r[j]? with
 |none=>exact Bd.zero e
 |some x=>exact h x (List.mem_of_getElem? he)
noncomputable def fM(e:Nat)(rows:List (List Int)):Prop:=∀ r,r∈rows->∀ x,x∈r->Bd e x
theorem fM.mono{a b:Nat}{rows:List (List Int)}(h:fM a rows)(hab:a<=b):fM b rows:=fun r hr x hx=>(h r hr x hx).mono hab
theorem fM.row{e:Nat}{rows:List (List Int)}(h:fM e rows)(i:Nat):∀ x,x∈rows.getD i []->Bd e x:=by
 intro x hx;rw [List.getD_eq_getElem?_getD] at hx;cases he:rows[i]? with
 |none=>rw [he] at hx;exact (nomatch hx)
 |some r=>rw [he] at hx;exact h r (List.mem_of_getElem? he) x hx
theorem fM.cell{e:Nat}{rows:List (List Int)}(h:fM e rows)(i j:Nat):Bd e (cell rows i j):=jW (h.row i) j
theorem Jy{e c:Nat}{d:Int}{row lead:List Int}(hr:∀ x,x∈row->Bd e x)(hl:∀ x,x∈lead->Bd e x):∀ x,x∈d7 row lead c d->Bd (2*e+1) x:=by
 intro x hx;unfold d7 at hx;obtain ⟨i,hi,rfl⟩:=List.getElem_of_mem hx;rw [List.getElem_zipWith];refine Bd.fdiv ?_ d;have:=Bd.sub ((jW hl c).mul (hr _ (List.getElem_mem (by rw [List.length_zipWith] at hi;omega:i<row.length)))) ((jW hr c).mul (hl _ (List.getElem_mem (by rw [List.length_zipWith] at hi;omega:i<lead.length))));rw [show 2*e+1=e+e+1 by omega];exact this
theorem C_{e k p c:Nat}{d:Int}{rows:List (List Int)}(h:fM e rows)(hk:k<rows.length)(hp:p<rows.length):fM (2*e+1) (fz rows k p c d):=by
 intro r hr;unfold fz at hr;rw [List.mem_mapIdx] at hr;obtain ⟨i,hi,e1⟩:=hr;have hm:(gZ rows k p)[i]∈rows:=by
  have e2:=qZ (i:=i) hk hp;rw [List.getD_eq_getElem?_getD,List.getElem?_eq_getElem hi] at e2;have e2:(gZ rows k p)[i]=rows.getD (cD k p i) []:=e2;rw [e2];rw [iu] at hi;exact getD_mem (qV hi hk hp)
 split at e1
 . rw [<-e1];exact fun x hx=>(h _ hm x hx).mono (by omega)
 . rw [<-e1];exact Jy (h _ hm) (h.row p)
noncomputable def gs:Nat->Nat->Nat
 |0,e=>e
 |f+1,e=>gs f (2*e+1)
theorem Ge:∀ (f e:Nat),e<=gs f e
 |0,e=>Nat.le_refl _
 |f+1,e=>by have:=Ge f (2*e+1);show e<=gs f (2*e+1);omega
theorem Gf:∀ (f:Nat) {a b:Nat},a<=b->gs f a<=gs f b
 |0,_,_,h=>h
 |f+1,a,b,h=>Gf f (by omega)
theorem Hr:∀ {f g:Nat} (e:Nat),f<=g->gs f e<=gs g e
 |0,g,e,_=>Ge g e
 |f+1,0,e,h=>by omega
 |f+1,g+1,e,h=>Hr (f:=f) (g:=g) (2*e+1) (by omega)
theorem Sg(e:Nat):gs 4 e=16*e+15:=by
 show 2*(2*(2*(2*e+1)+1)+1)+1=_;omega
theorem sW{w:Nat}:∀ (f c e:Nat) (X:gx),fM e X.rows->Wide w X.rows->fM (gs f e) (gy f c X).rows
 |0,c,e,X,h,_=>h
 |
  f+1,c,e,X,h,hw=>by
  unfold gy;cases e1:dN X.rows c X.ps.length with
  |none=>exact (sW f (c+1) e X h hw).mono (Hr (f:=f) (g:=f+1) e (by omega))
  |
   some p=>
   have h1:=List.mem_range.mp (List.mem_of_find?_eq_some e1);have h2:=List.find?_some e1;have hkp:X.ps.length<=p:=by
    simp only [Bool.and_eq_true,decide_eq_true_eq] at h2;exact h2.1
   exact sW f (c+1) (2*e+1) ⟨fz X.rows X.ps.length p c X.d,X.ps++[c],cell X.rows p c⟩ (C_ h (by omega) h1) (j_ hw (by omega) h1)
theorem Dc{X:gx}{e n:Nat}(h:fM e X.rows)(he:1<=e):∀ x,x∈gS X n->Bd e x.1/\Bd e x.2:=by
 intro x hx;unfold gS at hx;obtain ⟨i,_,rfl⟩:=List.mem_map.mp hx;unfold pairAt;cases X.fn.ps.findIdx? fun c=>decide (c=i) with
 |
  none=>
  refine ⟨Bd.zero e,?_⟩;show 1<2 ^ e;exact Nat.one_lt_two_pow (by omega)
 |some l=>exact ⟨h.cell l n,h.cell l i⟩
theorem Jz{q:Rat}{b B β γ:Nat}(hq:Ab B q)(hd:q.den∣b)(h1:B<=2 ^ β)(h2:b<=2 ^ γ):Bd (β+γ+1) (q.num*((b:Int).fdiv (q.den:Int))):=by
 obtain ⟨k,rfl⟩:=hd;have hp:=q.den_pos;have e:((q.den*k:Nat):Int).fdiv (q.den:Int)=(k:Int):=by
  rw [Int.fdiv_eq_ediv_of_nonneg _ (by omega)]
  push_cast
  exact Int.mul_ediv_cancel_left _ (by omega)
 rw [e];show (q.num*(k:Int)).natAbs<_;rw [Int.natAbs_mul];have hq:q.num.natAbs<=B*q.den:=hq;have h3:q.num.natAbs*k<=B*q.den*k:=Nat.mul_le_mul_right k hq;rw [Nat.mul_assoc] at h3;have h4:B*(q.den*k)<=2 ^ β*2 ^ γ:=Nat.mul_le_mul h1 h2;rw [<-Nat.pow_add] at h4;have h5:(2:Nat) ^ (β+γ)<2 ^ (β+γ+1):=Nat.pow_lt_pow_right (by decide) (by omega);show q.num.natAbs*k<_;omega
noncomputable def vO(fs:List Rat):Nat:=(fs.map fun q=>q.den).foldr (fun x y=>x*y) 1
theorem Ay:∀ fs:List Rat,0<vO fs
 |[]=>by decide
 |q::r=>Nat.mul_pos q.den_pos (Ay r)
theorem Az:∀ {fs:List Rat} {q:Rat},q∈fs->q.den∣vO fs
 |
  x::r,q,h=>by
  show q.den∣x.den*vO r;rcases List.mem_cons.mp h with rfl|h
  . exact Nat.dvd_mul_right _ _
  . exact Nat.dvd_trans (Az h) (Nat.dvd_mul_left _ _)
theorem Dd{b:Nat}:∀ {fs:List Rat},(∀ q,q∈fs->Sz b q)->vO fs<=2 ^ (b*fs.length)
 |[],_=>by simp [vO]
 |
  x::r,h=>by
  show x.den*vO r<=2 ^ (b*(r.length+1));rw [Nat.mul_add,Nat.mul_one,Nat.add_comm,Nat.pow_add];exact Nat.mul_le_mul (Nat.le_of_lt (h x List.mem_cons_self).2) (Dd fun q hq=>h q (List.mem_cons_of_mem _ hq))
structure Known(J:List (List Rat))(fs:List Rat)(L B:Nat):Prop where
 den:∀ r,r∈J->∀ q,q∈r->q.den∣L
 Sh:∀ q,q∈fs->q.den∣L
 ab:∀ r,r∈J->∀ q,q∈r->Ab B q
 Vi:∀ q,q∈fs->Ab B q
theorem nF{J:List (List Rat)}{fs:List Rat}{r:List Rat}(h:r∈cF J fs):∃ a f,a∈J/\f∈fs/\r=a++[-f]:=by
 unfold cF at h;obtain ⟨i,hi,e⟩:=List.getElem_of_mem h;rw [List.getElem_zipWith] at e;exact ⟨_,_,List.getElem_mem _,List.getElem_mem _,e.symm⟩
theorem Known.all{J:List (List Rat)}{fs:List Rat}{L B:Nat}(K:Known J fs L B):∀ r,r∈cF J fs->∀ q,q∈r->q.den∣L/\Ab B q:=by
 intro r hr q hq;obtain ⟨a,f,ha,hf,rfl⟩:=nF hr;rcases List.mem_append.mp hq with hq|hq
 . exact ⟨K.den a ha q hq,K.ab a ha q hq⟩
 . rw [List.mem_singleton.mp hq];exact ⟨by rw [F_];exact K.Sh f hf,(K.Vi f hf).neg⟩
theorem Known.lcm{J:List (List Rat)}{fs:List Rat}{L B:Nat}(K:Known J fs L B):jC (cF J fs)∣L:=jo _ 1 L (Nat.one_dvd _) fun r hr q hq=>(K.all r hr q hq).1
theorem Known.whole{J:List (List Rat)}{fs:List Rat}{L B β γ:Nat}(K:Known J fs L B)(hL:0<L)(h1:B<=2 ^ β)(h2:L<=2 ^ γ):fM (β+γ+1) (bM J fs):=by
 intro r hr x hx;unfold bM at hr;obtain ⟨row,eL,rfl⟩:=List.mem_map.mp hr;unfold uF at hx;obtain ⟨q,hq,rfl⟩:=List.mem_map.mp hx;exact Jz (K.all row eL q hq).2 ((pO _ 1).2 row eL q hq) h1 (Nat.le_trans (Nat.le_of_dvd hL K.lcm) h2)
theorem JA{e:Nat}:∀ {l:List Int},(∀ x,x∈l->Bd e x)->Bd (e+l.length) l.sum
 |[],_=>Bd.zero _
 |
  x::r,h=>by
  rw [List.sum_cons];have h1:=h x List.mem_cons_self;have h2:=JA fun y hy=>h y (List.mem_cons_of_mem _ hy);exact Bd.add (h1.mono (Nat.le_add_right e r.length)) h2
theorem Gg{e n:Nat}{rows:List (List Int)}(h:fM e rows)(h6:rows.length<=6):fM (2*e+6) (g7 rows n):=by
 intro r hr x hx;unfold g7 at hr;obtain ⟨i,_,rfl⟩:=List.mem_map.mp hr;obtain ⟨j,_,rfl⟩:=List.mem_map.mp hx;unfold wu;have:=JA (e:=2*e) (l:=rows.map fun r=>r.getD i 0*r.getD j 0) fun y hy=>by
  obtain ⟨r,hr,rfl⟩:=List.mem_map.mp hy;rw [show 2*e=e+e by omega];exact (jW (h r hr) i).mul (jW (h r hr) j)
 rw [List.length_map] at this;exact this.mono (by omega)
theorem Lm{kind n e:Nat}{J:List (List Rat)}{fs:List Rat}{ps:List (Int × Int)}(hn:n<=4)(hw:∀ r,r∈J->r.length=n)(h:J.length=fs.length)(h6:fs.length<=6)(hb:fM e (bM J fs))(hf:gp kind J fs n=some ps) :
 ∀ x,x∈ps->Bd (32*e+111) x.1/\Bd (32*e+111) x.2:=by
 unfold gp at hf;by_cases hk:kind=0
 . rw [if_pos hk] at hf;unfold lJ at hf;split at hf
   . cases hf
   . split at hf
     . cases hf
     . have hf:=Option.some.inj hf;subst hf;have h1:=sW n 0 e ⟨bM J fs,[],1⟩ hb (lK hw);have h2:gs n e<=32*e+111:=Nat.le_trans (Hr e hn) (by rw [Sg];omega);exact Dc (h1.mono h2) (by omega)
 . rw [if_neg hk] at hf;have hf:=Option.some.inj hf;subst hf;have h1:=sW n 0 (2*e+6) ⟨g7 (bM J fs) n,[],1⟩ (Gg hb (by rw [iZ h];exact h6)) (nE _ _);have h2:gs n (2*e+6)<=32*e+111:=Nat.le_trans (Hr _ hn) (by rw [Sg];omega);exact Dc (h1.mono h2) (by omega)
noncomputable def Si(n:Nat)(vs:List Rat)(ts:List Raw)(i:Nat):List Rat:=(List.range n).map fun c=>(bW c vs [] ts).getD i 0
theorem pP{c:Nat}{vs:List Rat}{V:Nat}(hV:1<=V)(hv:∀ i,Sz V (vs.getD i 0)){ts:List Raw}(hl:ts.length<=60)(i:Nat) :
 ((bW c vs [] ts).getD i 0).den∣jP vs 0 ts/\jP vs 0 ts<=2 ^ (120*V)/\Ab (2 ^ (120*V+60)) ((bW c vs [] ts).getD i 0):=by
 have h0:Em 1 1 []:=fun i=>⟨Nat.dvd_refl 1,Nat.zero_le _⟩
 have h:=uB (by_:=c) hV hv ts [] 1 1 Nat.one_ne_zero (Nat.le_refl 1) h0;rw [Nat.one_mul,Nat.one_mul] at h;have hm:(V+V)*ts.length<=(V+V)*60:=Nat.mul_le_mul_left _ hl;have hm2:(V+V+1)*ts.length<=(V+V+1)*60:=Nat.mul_le_mul_left _ hl;exact ⟨(h i).1,Nat.le_trans (xK hV hv ts 0) (c9 (by omega)),(h i).2.mono (c9 (by omega))⟩
theorem JB{n V:Nat}{vs:List Rat}{ts:List Raw}{outs:List Nat}(hV:1<=V)(hv:∀ i,Sz V (vs.getD i 0))(hl:ts.length<=60)(h6:outs.length<=6) :
 ∃ L,0<L/\L<=2 ^ (126*V)/\Known (outs.map (Si n vs ts)) (outs.map fun o=>vs.getD o 0) L (2 ^ (120*V+60)):=by
 have hc:jP vs 0 ts<=2 ^ (120*V):=(pP (c:=0) hV hv hl 0).2.1;have hp:vO (outs.map fun o=>vs.getD o 0)<=2 ^ (V*6):=by
  refine Nat.le_trans (Dd (b:=V) fun q hq=>?_) (c9 ?_)
  . obtain ⟨o,_,rfl⟩:=List.mem_map.mp hq;exact hv o
  . rw [List.length_map];exact Nat.mul_le_mul_left _ h6
 refine ⟨jP vs 0 ts*vO (outs.map fun o=>vs.getD o 0),Nat.mul_pos (Nat.pos_of_ne_zero (qw vs ts 0)) (Ay _),?_,?_,?_,?_,?_⟩
 . have:=Nat.mul_le_mul hc hp;rw [<-Nat.pow_add] at this;exact Nat.le_trans this (c9 (by omega))
 . intro r hr q hq;obtain ⟨o,_,rfl⟩:=List.mem_map.mp hr;unfold Si at hq;obtain ⟨c,_,rfl⟩:=List.mem_map.mp hq;exact Nat.dvd_trans (pP hV hv hl o).1 (Nat.dvd_mul_right _ _)
 . intro q hq;exact Nat.dvd_trans (Az hq) (Nat.dvd_mul_left _ _)
 . intro r hr q hq;obtain ⟨o,_,rfl⟩:=List.mem_map.mp hr;unfold Si at hq;obtain ⟨c,_,rfl⟩:=List.mem_map.mp hq;exact (pP hV hv hl o).2.2
 . intro q hq;obtain ⟨o,_,rfl⟩:=List.mem_map.mp hq;exact (Ab.CW (hv o)).mono (c9 (by omega))
end Ex
namespace Ex
theorem Nq{B:Nat}{p:Rat}:Ab B p ↔ (-((B:Int):Rat)<=p/\p<=((B:Int):Rat)):=by
 have hd:=Bp p;rw [Rat.le_iff,Rat.le_iff];rw [show (-((B:Int):Rat)).num=-(B:Int) from rfl,show (-((B:Int):Rat)).den=1 from rfl,show (((B:Int):Rat)).num=(B:Int) from rfl,show (((B:Int):Rat)).den=1 from rfl];unfold Ab;have e:((B*p.den:Nat):Int)=(B:Int)*(p.den:Int):=by push_cast;rfl
 constructor
 . intro h;have h2:(p.num.natAbs:Int)<=(B:Int)*(p.den:Int):=by rw [<-e];exact_mod_cast h
   have e2:-(B:Int)*(p.den:Int)=-((B:Int)*(p.den:Int)):=Int.neg_mul _ _;rw [e2]
   push_cast
   omega
 . intro h;have e2:-(B:Int)*(p.den:Int)=-((B:Int)*(p.den:Int)):=Int.neg_mul _ _;rw [e2] at h;have h2:(p.num.natAbs:Int)<=(B:Int)*(p.den:Int):=by
    obtain ⟨h1,h2⟩:=h
    push_cast at h1 h2
    omega
   rw [<-e] at h2
   exact_mod_cast h2
theorem Ab.half{B:Nat}{a b:Rat}(ha:Ab B a)(hb:Ab B b):Ab B ((a+b)*mkRat 1 2):=by
 rw [Nq] at ha hb ⊢;have h:mkRat 1 2=(1:Rat) / 2:=by decide +kernel
 rw [h];generalize ((B:Int):Rat)=y at *;obtain ⟨h1,h2⟩:=ha;obtain ⟨h3,h4⟩:=hb;constructor<;>grind
theorem JC{a b:Rat}{P:Nat}(hP:P≠0)(ha:a.den∣P)(hb:b.den∣P):((a+b)*mkRat 1 2).den∣P*2:=by
 have h:=jv (lG hP ha hb) (Nat.dvd_refl (mkRat 1 2).den);have e:(mkRat 1 2).den=2:=by decide +kernel
 rw [e] at h;exact h
theorem De{n:Int}{d:Nat}(hd:d≠0){a b:Nat}(h1:n.natAbs<2 ^ a)(h2:d<2 ^ b):wt (mkRat n d)<=a+b:=by
 have hg:0<Nat.gcd n.natAbs d:=Nat.gcd_pos_of_pos_right _ (by omega);show Vagraa.bits (mkRat n d).num.natAbs+Vagraa.bits (mkRat n d).den<=_;rw [j0 n hd,iW n hd];have e1:(n / ((Nat.gcd n.natAbs d:Nat):Int)).natAbs<=n.natAbs:=Int.natAbs_ediv_le_natAbs _ _;have e2:d / Nat.gcd n.natAbs d<=d:=Nat.div_le_self _ _;have:=qI (Nat.lt_of_le_of_lt e1 h1);have:=qI (Nat.lt_of_le_of_lt e2 h2);omega
theorem sX{n:Nat}(h:0<n):1<=Vagraa.bits n:=by
 unfold Vagraa.bits;rw [if_neg (by omega)];omega
theorem JD{p q:Rat}(hp:wt p<=2000)(hq:wt q<=2000):wt (p-q)<=5999:=by
 have hp:Vagraa.bits p.num.natAbs+Vagraa.bits p.den<=2000:=hp;have hq:Vagraa.bits q.num.natAbs+Vagraa.bits q.den<=2000:=hq;have pd:=p.den_pos;have qd:=q.den_pos;have b1:=sX pd;have b2:=sX qd;by_cases hp0:p.num=0
 . have e:p=0:=Rat.num_eq_zero.mp hp0;subst e;have e2:(0:Rat)-q=-q:=by grind
   rw [e2];have:wt (-q)=Vagraa.bits q.num.natAbs+Vagraa.bits q.den:=by
    show Vagraa.bits (-q).num.natAbs+Vagraa.bits (-q).den=_;rw [show (-q).num=-q.num from rfl,show (-q).den=q.den from rfl,Int.natAbs_neg]
   omega
 . by_cases Vj:q.num=0
   . have e:q=0:=Rat.num_eq_zero.mp Vj;subst e;have e2:p-(0:Rat)=p:=by grind
     rw [e2];show Vagraa.bits p.num.natAbs+Vagraa.bits p.den<=_;omega
   . have b3:=sX (n:=p.num.natAbs) (by omega);have b4:=sX (n:=q.num.natAbs) (by omega);have e:p-q=mkRat (p.num*(q.den:Int)-q.num*(p.den:Int)) (p.den*q.den):=by rw [Rat.sub_def']
     have h1:=cX (jU p.num.natAbs) (jU q.den);have h2:=cX (jU q.num.natAbs) (jU p.den);have h3:=cX (jU p.den) (jU q.den);have key:(p.num*(q.den:Int)-q.num*(p.den:Int)).natAbs<2 ^ (max (Vagraa.bits p.num.natAbs+Vagraa.bits q.den) (Vagraa.bits q.num.natAbs+Vagraa.bits p.den)+1):=by
      have a1:(p.num*(q.den:Int)).natAbs=p.num.natAbs*q.den:=by rw [Int.natAbs_mul];rfl
      have a2:(q.num*(p.den:Int)).natAbs=q.num.natAbs*p.den:=by rw [Int.natAbs_mul];rfl
      have m1:(2:Nat) ^ (Vagraa.bits p.num.natAbs+Vagraa.bits q.den)<=2 ^ max (Vagraa.bits p.num.natAbs+Vagraa.bits q.den) (Vagraa.bits q.num.natAbs+Vagraa.bits p.den):=c9 (Nat.le_max_left _ _);have m2:(2:Nat) ^ (Vagraa.bits q.num.natAbs+Vagraa.bits p.den)<=2 ^ max (Vagraa.bits p.num.natAbs+Vagraa.bits q.den) (Vagraa.bits q.num.natAbs+Vagraa.bits p.den):=c9 (Nat.le_max_right _ _);rw [Nat.pow_succ];generalize p.num*(q.den:Int)=X at *;generalize q.num*(p.den:Int)=Y at *;omega
     rw [e];refine Nat.le_trans (De (Nat.mul_ne_zero (by omega) (by omega)) key h3) ?_;omega
theorem Nr{r:Rat}(h:Nat):wt (r*mkRat (2 ^ h:Nat) 1)<=wt r+h:=by
 have e:r*mkRat (2 ^ h:Nat) 1=mkRat (r.num*((2 ^ h:Nat):Int)) r.den:=by
  have h1:r=mkRat r.num r.den:=(Rat.mkRat_self r).symm
  conv=>lhs;rw [h1]
  rw [Rat.mkRat_mul_mkRat,Nat.mul_one]
 rw [e];have hd:=r.den_pos;refine Nat.le_trans (De (a:=Vagraa.bits r.num.natAbs+h) (b:=Vagraa.bits r.den) (by omega) ?_ (jU _)) ?_
 . rw [Int.natAbs_mul,Nat.pow_add];show r.num.natAbs*2 ^ h<_;exact Nat.mul_lt_mul_of_pos_right (jU _) (Nat.two_pow_pos h)
 . show _<=Vagraa.bits r.num.natAbs+Vagraa.bits r.den+h;omega
theorem Ln{x d:Rat}{k:Nat}(hk:k<=20)(h1:wt x<=2000)(h2:wt (x+mkRat 1 (2 ^ k)*d)<=2000):wt d<=6100:=by
 have h3:=JD h2 h1;have e1:x+mkRat 1 (2 ^ k)*d-x=mkRat 1 (2 ^ k)*d:=by grind
 rw [e1] at h3;have h4:=Nr (r:=mkRat 1 (2 ^ k)*d) k;have e2:mkRat 1 (2 ^ k)*mkRat ((2 ^ k:Nat):Int) 1=1:=by
  rw [Rat.mkRat_mul_mkRat,Nat.mul_one,Int.one_mul];have hp:(2 ^ k:Nat)≠0:=by have:=Nat.two_pow_pos k;omega
  have:=Rat.mkRat_mul_right (n:=1) (d:=1) hp;rw [Int.one_mul,Nat.one_mul] at this;rw [this];rfl
 have e3:mkRat 1 (2 ^ k)*d*mkRat ((2 ^ k:Nat):Int) 1=d:=by
  have:mkRat 1 (2 ^ k)*d*mkRat ((2 ^ k:Nat):Int) 1=(mkRat 1 (2 ^ k)*mkRat ((2 ^ k:Nat):Int) 1)*d:=by grind
  rw [this,e2,Rat.one_mul]
 rw [e3] at h4;omega
theorem Df{c:Nat}{vs ds:List Rat}{v:Rat}{t:Raw}(hl:cE t)(h:t≠[0,(c:Int)])(hz:∀ i,ds.getD i 0=0):cT c vs ds v t=0:=by
 cases hl with
 |
  @input k h0=>
  show (if k.toNat=c then 1 else 0)=(0:Rat)
  rw [if_neg];intro e;apply h;rw [show k=(c:Int) by omega]
 |num h=>rfl
 |add h0 h1=>show ds.getD _ 0+ds.getD _ 0=0;rw [hz,hz];grind
 |sub h0 h1=>show ds.getD _ 0-ds.getD _ 0=0;rw [hz,hz];grind
 |mul h0 h1=>show ds.getD _ 0*_+_*ds.getD _ 0=0;rw [hz,hz];grind
 |div h0 h1=>show (ds.getD _ 0-_*ds.getD _ 0) / _=0;rw [hz,hz];grind
 |neg h0=>show -ds.getD _ 0=0;rw [hz];grind
theorem vP{c:Nat}{vs:List Rat}:∀ (ts:List Raw) (ds:List Rat),(∀ t,t∈ts->cE t)->(∀ t,t∈ts->t≠[0,(c:Int)])->(∀ i,ds.getD i 0=0)->∀ i,(bW c vs ds ts).getD i 0=0
 |[],ds,_,_,hz=>hz
 |
  t::r,ds,hl,hn,hz=>by
  refine vP r _ (fun x hx=>hl x (List.mem_cons_of_mem _ hx)) (fun x hx=>hn x (List.mem_cons_of_mem _ hx)) fun i=>?_;rw [Df (hl t List.mem_cons_self) (hn t List.mem_cons_self) hz,List.getD_eq_getElem?_getD,List.getElem?_append];by_cases hi:i<ds.length
  . rw [if_pos hi,<-List.getD_eq_getElem?_getD];exact hz i
  . rw [if_neg hi];by_cases h2:i-ds.length=0
    . rw [h2];rfl
    . rw [List.getElem?_eq_none (by simp;omega)];rfl
noncomputable def EB(c:Nat)(rows:List (List Int)):Prop:=∀ i,cell rows i c=0
theorem EC{w k p c c':Nat}{d:Int}{rows:List (List Int)}(hw:Wide w rows)(hk:k<rows.length)(hp:p<rows.length)(h:EB c rows):EB c (fz rows k p c' d):=by
 intro i;rw [xG hw hk hp];unfold bJ;split
 . exact h p
 . rw [h,h];simp
theorem rE{w c:Nat}:∀ (f c':Nat) (X:gx),Wide w X.rows->EB c X.rows->¬ c∈X.ps->¬ c∈(gy f c' X).ps
 |0,_,X,_,_,h=>h
 |
  f+1,c',X,hw,hz,h=>by
  unfold gy;cases e:dN X.rows c' X.ps.length with
  |none=>exact rE f (c'+1) X hw hz h
  |
   some p=>
   have h1:=List.mem_range.mp (List.mem_of_find?_eq_some e);have h2:=List.find?_some e;simp only [Bool.and_eq_true,decide_eq_true_eq] at h2;have hne:¬ c=c':=fun z=>by
    subst z;rw [hz p] at h2;simp at h2
   refine rE f (c'+1) ⟨fz X.rows X.ps.length p c' X.d,X.ps++[c'],cell X.rows p c'⟩ (j_ hw (by omega) h1) (EC hw (by omega) h1 hz) fun hm=>?_;rcases List.mem_append.mp hm with hm|hm
   . exact h hm
   . exact hne (List.mem_singleton.mp hm)
theorem xX{rows:List (List Int)}{n c:Nat}(hw:Wide (n+1) rows)(hz:EB c rows){x:Int × Int}(h:(gS (dU rows n) n)[c]?=some x):x=(0,1):=by
 unfold gS at h;have hc:c<n:=by
  have:=(List.getElem?_eq_some_iff.mp h).1;rw [List.length_map,List.length_range] at this;exact this
 rw [List.getElem?_map,List.getElem?_range hc] at h;have h:pairAt (dU rows n).fn n c=x:=Option.some.inj h;have hn:¬ c∈(dU rows n).ps:=rE n 0 ⟨rows,[],1⟩ hw hz (fun z=>nomatch z);rw [<-h];unfold pairAt;have e:(dU rows n).fn.ps.findIdx? (fun x=>decide (x=c))=none:=by
  rw [List.findIdx?_eq_none_iff];intro x hx;exact decide_eq_false fun z=>hn (by rw [<-z];exact hx)
 rw [e]
theorem ED{J:List (List Rat)}{fs:List Rat}{n c:Nat}(hc:c<n)(hw:∀ r,r∈J->r.length=n)(hz:∀ r,r∈J->r.getD c 0=0):EB c (bM J fs):=by
 intro i;unfold cell bM;rw [List.getD_eq_getElem?_getD (l:=List.map _ _),List.getElem?_map];cases e:(cF J fs)[i]? with
 |none=>rfl
 |
  some row=>
  show (uF (jC (cF J fs)) row).getD c 0=0;obtain ⟨a,f,ha,_,rfl⟩:=nF (List.mem_of_getElem? e);rw [qL];have:(a++[-f]).getD c 0=0:=by
   rw [List.getD_eq_getElem?_getD,List.getElem?_append,if_pos (by rw [hw a ha];exact hc),<-List.getD_eq_getElem?_getD];exact hz a ha
  rw [this];show (0:Int)*_=0;rw [Int.zero_mul]
theorem AA:∀ l:List (List Int),(l.map fun _=>(0:Int)).sum=0
 |[]=>rfl
 |_::r=>by rw [List.map_cons,List.sum_cons,AA r];rfl
theorem Hs{rows:List (List Int)}{n c:Nat}(hz:EB c rows):EB c (g7 rows n):=by
 intro i;by_cases hi:i<n
 . by_cases hc:c<n+1
   . rw [xV rows hi hc];unfold wu;have:(rows.map fun r=>r.getD i 0*r.getD c 0)=rows.map fun _=>0:=by
      apply List.map_congr_left;intro r hr;obtain ⟨j,hj,e⟩:=List.getElem_of_mem hr;have h:=hz j;unfold cell at h;rw [List.getD_eq_getElem?_getD (l:=rows),List.getElem?_eq_getElem hj,e] at h;have h:r.getD c 0=0:=h;rw [h,Int.mul_zero]
     rw [this];exact AA rows
   . unfold cell g7;rw [List.getD_eq_getElem?_getD (l:=List.map _ _),List.getElem?_map,List.getElem?_range hi];show ((List.range (n+1)).map fun j=>wu rows i j).getD c 0=0;rw [qu (by rw [List.length_map,List.length_range];omega)]
 . unfold cell;rw [qu (l:=g7 rows n) (by rw [uH];omega)];rfl
theorem Ht{kind n c:Nat}{J:List (List Rat)}{fs:List Rat}{ps:List (Int × Int)}{x:Int × Int}(hc:c<n)(hw:∀ r,r∈J->r.length=n)(hz:∀ r,r∈J->r.getD c 0=0)(hf:gp kind J fs n=some ps)(hx:ps[c]?=some x):x=(0,1):=by
 have W:=ED (fs:=fs) hc hw hz;unfold gp at hf;by_cases hk:kind=0
 . rw [if_pos hk] at hf;unfold lJ at hf;split at hf
   . cases hf
   . split at hf
     . cases hf
     . have hf:=Option.some.inj hf;subst hf;exact xX (lK hw) W hx
 . rw [if_neg hk] at hf;have hf:=Option.some.inj hf;subst hf;exact xX (nE _ _) (Hs W) hx
theorem AB{c:Nat}(pt:List Rat)(hh:2000<wt (pt.getD c 0)):∀ (ts:List Raw) (vs:List Rat),[0,(c:Int)]∈ts->(aO pt vs ts).2≠none
 |
  t::r,vs,hm=>by
  unfold aO;cases e:oN pt vs t with
  |none=>intro z;cases z
  |
   some q=>
   dsimp only;by_cases hw:2000<wt q
   . rw [if_pos hw];intro z;cases z
   . rw [if_neg hw];rcases List.mem_cons.mp hm with e2|hm
     . subst e2;have:q=pt.getD c 0:=by
        have e:some (pt.getD ((c:Int)).toNat 0)=some q:=e;rw [Int.toNat_natCast] at e;exact (Option.some.inj e).symm
       rw [this] at hw;exact absurd hh hw
     . exact AB pt hh r _ hm
end Ex
namespace Ex
theorem m5:∀ l:List Rat,(jw l).length=2*l.length
 |[]=>rfl
 |
  q::l=>by
  show ([q.num,(q.den:Int)]++jw l).length=_;rw [List.length_append,m5 l];simp only [List.length_cons,List.length_nil];omega
theorem i6{hd:List Int}{l:List Rat}{b:Nat}(h:hd.length+2*l.length<=b)(hb:1<=b):(bQ hd l).length<=b:=by
 unfold bQ;split
 . exact hb
 . rw [List.length_append,m5];exact h
theorem qz{s:SR}{p:List Rat}{t:List Int}{b:Nat}(h:t.length<=b)(hb:1<=b):(gA s p t).2.length<=b:=by
 unfold gA;split
 . exact hb
 . split
   . exact hb
   . exact h
theorem Dg(s:SR)(p:List Rat):(Bg s p).length<=3:=by
 unfold Bg;split<;>(try split)<;>simp
theorem Hu(m n:Nat)(J:Nat->Nat->Rat)(fs d:List Rat):(pG m n J fs d).length<=m:=by
 unfold pG;rw [List.length_zipWith,List.length_map,List.length_range];omega
theorem Hv(m n:Nat)(J:Nat->Nat->Rat):(vK m n J).length=m*n:=by
 unfold vK;rw [List.length_flatMap,List.map_congr_left (g:=fun _=>n) (fun i _=>by rw [List.length_map,List.length_range]),List.map_const',List.length_range]
 induction m with
 |zero=>simp
 |succ m ih=>rw [List.replicate_succ,List.sum_cons,ih,Nat.succ_mul,Nat.add_comm]
theorem cg:(1:Nat)<=60:=by decide
theorem Dh{s:SR}(ok:s.Ok)(c:Vagran.Call):(fL s c).2.length<=60:=by
 have lo:=ok.outs;have li:=ok.ins;have ml:s.outs.length*s.inputs<=24:=Nat.mul_le_mul lo li;cases c with
 |
  code n l o=>
  show (pH s n l o).2.length<=60;unfold pH;split
  . exact cg
  . split
    . exact cg
    . split
      . split
        . exact cg
        . split
          . exact cg
          . exact cg
      . exact cg
 |
  point l=>
  show (lX s l).2.length<=60;unfold lX;split
  . exact cg
  . exact qz (Nat.le_trans (Dg _ _) (by decide)) cg
 |
  results=>
  show (kh s).length<=60;unfold kh;split
  . exact cg
  . exact i6 (by rw [List.length_append,bH];simp only [List.length_cons,List.length_nil];omega) cg
 |
  table=>
  show (rj s).length<=60;unfold rj;split
  . exact cg
  . exact i6 (by rw [Hv];simp only [List.length_cons,List.length_nil];omega) cg
 |
  step k=>
  show (rm s k).length<=60;unfold rm;split
  . exact cg
  . split
    . exact cg
    . rename_i v hv;split
      . exact cg
      . rename_i d hd;have h1:=lH hd;have h2:=Hu s.outs.length s.inputs (qD s v.2) (bP s v.2) d;exact i6 (by rw [List.length_append,List.length_append];simp only [List.length_cons,List.length_nil];omega) cg
 |
  take k n m=>
  show (qK s k n m).2.length<=60;unfold qK;split
  . exact cg
  . split
    . exact cg
    . split
      . exact cg
      . split
        . exact cg
        . refine qz ?_ cg;rw [List.length_cons];have:=Dg s;exact Nat.le_trans (Nat.succ_le_succ (this _)) (by decide)
 |
  descend k h=>
  show (gC s k h).2.length<=60;unfold gC;split
  . exact cg
  . split
    . exact cg
    . split
      . exact cg
      . split
        . exact cg
        . split
          . exact cg
          . exact qz (i6 (by simp only [List.length_cons,List.length_nil];omega) cg) cg
 |
  error l=>
  show (rz s l).length<=60;unfold rz;split
  . exact cg
  . split
    . exact cg
    . split
      . exact cg
      . exact i6 (by rw [List.length_zipWith,bH];simp only [List.length_cons,List.length_nil];omega) cg
 |
  halve i k l=>
  show (pJ s i k l).length<=60;have two:∀ (a:Int) (l:List Rat),l.length<=2->(bQ [a] l).length<=60:=fun a l hl=>i6 (by simp only [List.length_cons,List.length_nil];omega) cg;unfold pJ;split
  . exact cg
  . split
    . exact cg
    . split
      . exact cg
      . split
        . exact cg
        . split
          . split
            . exact two _ _ (by simp)
            . split
              . exact two _ _ (by simp)
              . split
                . exact cg
                . unfold pI;split
                  . exact cg
                  . exact two _ _ (by simp)
                  . exact two _ _ (by simp)
          . exact cg
 |
  round b=>
  show (lY s b).2.length<=60;unfold lY;split
  . exact cg
  . split
    . exact cg
    . rename_i x hx;have h2:=(ok.pt x hx).1;exact qz (i6 (by rw [List.length_zipWith,List.length_map];simp only [List.length_cons,List.length_nil];omega) cg) cg
noncomputable def fN:Vagran.Call->List Int
 |.code n _ _=>[0,n]
 |.point _=>[1]
 |.results=>[2]
 |.table=>[3]
 |.step k=>[4,k]
 |.take k n m=>[5,k,n,m]
 |.descend k h=>[6,k,h]
 |.error _=>[7]
 |.halve i k _=>[8,i,k]
 |.round b=>[9,b]
noncomputable def c_:Vagran.Call->List (List Int)
 |.code _ l o=>[l,o]
 |.point l=>[l]
 |.error l=>[l]
 |.halve _ _ l=>[l]
 |_=>[]
noncomputable def eY(rs:List (List Int)):List Int:=rs.flatMap fun r=>(r.length:Int)::r
theorem xY(C:Vagran.Call):iz C=fN C++eY (c_ C):=by
 cases C<;>simp [iz,fN,c_,eY]
noncomputable def rF:Vagran.Call->Nat
 |.code _ _ _=>0
 |.point _=>1
 |.results=>2
 |.table=>3
 |.step _=>4
 |.take _ _ _=>5
 |.descend _ _=>6
 |.error _=>7
 |.halve _ _ _=>8
 |.round _=>9
theorem xZ(C:Vagran.Call):∃ t,fN C=(rF C:Int)::t:=by cases C<;>exact ⟨_,rfl⟩
theorem Gh(C:Vagran.Call):rF C<=9:=by cases C<;>simp [rF]
theorem Hw(C:Vagran.Call):(c_ C).length<=2:=by cases C<;>simp [c_]
theorem Hx(C:Vagran.Call):(fN C).length<=4:=by cases C<;>simp [fN]
theorem AD(C:Vagran.Call):0<(iz C).length:=by
 obtain ⟨t,e⟩:=xZ C;rw [xY,e];simp
theorem Hy(x:List Int)(r:List (List Int)):PyFlat.told (x::r)=(x.length:Int)::(x++PyFlat.told r):=by
 unfold PyFlat.told;rw [List.flatMap_cons];rfl
theorem EE(rs:List (List Int))(r:List Int):eY (rs++[r])=eY rs++((r.length:Int)::r):=by
 unfold eY;rw [List.flatMap_append];simp
theorem Hz(a b:List (List Int)):eY (a++b)=eY a++eY b:=by
 unfold eY;rw [List.flatMap_append]
theorem EF(r:List Int)(rs:List (List Int)):eY (r::rs)=(r.length:Int)::(r++eY rs):=by
 unfold eY;rw [List.flatMap_cons];rfl
end Ex
namespace Pg
open PySem PySem.Spec PyProof.Rows L2
structure Def(K:PySem.W.Frag)(mg:Str->Option Value)(x:Str)(st:Stmt)(ps:List Str):Prop where
 ex:∃ f fd,mg x=some (.ref f)/\Ky K x x st f fd/\Binds K fd ps []
structure Br(K:PySem.W.Frag)(C:Addr)(m qual:Str)(st:Stmt)(ps:List Str):Prop where
 ex:∃ f fd,DW K C/\Meth K C m f/\Ky K m qual st f fd/\Binds K fd ps []
structure Bs(K:PySem.W.Frag)(mg:Str->Option Value)(C:Addr)(x qual:Str)(st:Stmt)(ps:List Str):Prop where
 ex:∃ f fd,Mk K C f/\mg x=some (.ref C)/\Ky K "__init__" qual st f fd/\Binds K fd ps []
structure Has(P:Program)(w:World)(K:PySem.W.Frag)(mg:Str->Option Value)(base:Heap)(x:Str)(ps:List Str)(k:Nat)(sp:Sp):Prop where
 ex:∃ f fd,mg x=some (.ref f)/\PySem.W.keepIn K (.ref f)=true/\Binds K fd ps []/\nt P w K mg base Ih k f fd ps sp
structure Bt(P:Program)(w:World)(K:PySem.W.Frag)(mg:Str->Option Value)(base:Heap)(C:Addr)(m:Str)(ps:List Str)(k:Nat)(sp:Sp):Prop where
 ex:∃ f fd,DW K C/\Meth K C m f/\Binds K fd ps []/\nt P w K mg base Ih k f fd ps sp
structure EG(P:Program)(w:World)(K:PySem.W.Frag)(mg:Str->Option Value)(base:Heap)(C:Addr)(x:Str)(ps:List Str)(k:Nat)(sp:Sp):Prop where
 ex:∃ f fd,Mk K C f/\mg x=some (.ref C)/\Binds K fd ps []/\nt P w K mg base Ih k f fd ps sp
section
variable {P:Program}{w:World}{K:PySem.W.Frag}{mg:Str->Option Value}{base:Heap}{x:Str}{st:Stmt}{N ps:List Str}{k:Nat}{sp:Sp}{C:Addr}{m qual:Str}
theorem Def.has(D:Def K mg x st ps)(S:aK N ps (aB st))(len:∀ vs H Q E,sp vs H Q E->vs.length=ps.length)
 (hbody:∀ (f:Addr) (cdv:Value) (A:Around) (outer:List Env) (s:Shared) (H:Hp) (vs:List V) (Q:VK) (E:XK),fT k (A.deeper (envOfC x (aB st) s.heap.objs.size f cdv))->sp vs H Q E->
  ∃ t,Cm (A1 Ih P w K mg base N x (aB st) f cdv A outer s H E).MN (gK st) t/\t {nx:=fun _ H'=>Q .non H',rt:=Q} (start N vs) H):Has P w K mg base x ps (k+1) sp:=by
 obtain ⟨f,fd,h1,F,hb⟩:=D.ex;exact ⟨f,fd,h1,F.kp,hb,F.ok S len (hbody f)⟩
theorem Br.has(D:Br K C m qual st ps)(S:aK N ps (aB st))(len:∀ vs H Q E,sp vs H Q E->vs.length=ps.length)
 (hbody:∀ (f:Addr) (cdv:Value) (A:Around) (outer:List Env) (s:Shared) (H:Hp) (vs:List V) (Q:VK) (E:XK),fT k (A.deeper (envOfC qual (aB st) s.heap.objs.size f cdv))->sp vs H Q E->
  ∃ t,Cm (A1 Ih P w K mg base N qual (aB st) f cdv A outer s H E).MN (gK st) t/\t {nx:=fun _ H'=>Q .non H',rt:=Q} (start N vs) H):Bt P w K mg base C m ps (k+1) sp:=by
 obtain ⟨f,fd,hc,h1,F,hb⟩:=D.ex;exact ⟨f,fd,hc,h1,hb,F.ok S len (hbody f)⟩
theorem Bs.has(D:Bs K mg C x qual st ps)(S:aK N ps (aB st))(len:∀ vs H Q E,sp vs H Q E->vs.length=ps.length)
 (hbody:∀ (f:Addr) (cdv:Value) (A:Around) (outer:List Env) (s:Shared) (H:Hp) (vs:List V) (Q:VK) (E:XK),fT k (A.deeper (envOfC qual (aB st) s.heap.objs.size f cdv))->sp vs H Q E->
  ∃ t,Cm (A1 Ih P w K mg base N qual (aB st) f cdv A outer s H E).MN (gK st) t/\t {nx:=fun _ H'=>Q .non H',rt:=Q} (start N vs) H):EG P w K mg base C x ps (k+1) sp:=by
 obtain ⟨f,fd,hm,h1,F,hb⟩:=D.ex;exact ⟨f,fd,hm,h1,hb,F.ok S len (hbody f)⟩
end
section
variable {X:Cx}{x m:Str}{ps:List Str}{k:Nat}{sp:Sp}{C:Addr}{p pos apos:Pos}{e o:Expr}{es:List Expr}{ta:TE}{t:TA}
theorem aG(h:Has X.prog X.w X.K X.mg X.base x ps k sp)(hr:fT k X.A)(hg:Gl X x)(ha:PA X (e::es) t)(hdb:(x == ("__debug__":Str))=false:=by decide)
 (he:starEach (e::es) X.env=(false,eval e X.env)::starEach es X.env:=by rfl) (hpl:(backTo pos (starEach es X.env)).any (·.1)=false:=by rfl) :
 PE X (.Call (.Name x p) (e::es) [] pos) (IP sp [] E0 t):=by
 obtain ⟨f,fd,h1,h2,hb,F⟩:=h.ex;exact KO F hr hg h1 h2 hb .nil F7 ha hdb he hpl
theorem Di{pl:Sem Bool}(h:Bt X.prog X.w X.K X.mg X.base C m ps k sp)(hr:fT k X.A)(ho:PE X o ta)(ha:PA X (e::es) t)
 (hst:starEach (e::es) X.env=(false,eval e X.env)::starEach es X.env:=by rfl) (hpl:(backTo pos (starEach es X.env)).any (·.1)=false:=by rfl)
 (ht:eval (.Call (.Attribute o m apos) (e::es) [] pos) X.env=(do
  let ov <-eval o X.env
  standAt apos.atName
  let (f,first) <-holding [ov] (getMethod ov m pl)
  callWith pos f first (backTo pos (starEach (e::es) X.env)) (backToKw pos (keywordEach [] X.env))):=by rfl) :
 PE X (.Call (.Attribute o m apos) (e::es) [] pos) (Me C m sp [] E0 ta t):=by
 obtain ⟨f,fd,hc,h1,hb,F⟩:=h.ex;exact KP (pl:=pl) ho hc h1 F hr hb .nil F7 ha hst hpl ht
theorem Pn(h:EG X.prog X.w X.K X.mg X.base C x ps k sp)(hr:fT (k+1) X.A)(hg:Gl X x)(ha:PA X (e::es) t)(hdb:(x == ("__debug__":Str))=false:=by decide)
 (he:starEach (e::es) X.env=(false,eval e X.env)::starEach es X.env:=by rfl) (hpl:(backTo pos (starEach es X.env)).any (·.1)=false:=by rfl) :
 PE X (.Call (.Name x p) (e::es) [] pos) (FJ C sp [] E0 t):=by
 obtain ⟨f,fd,hm,h1,hb,F⟩:=h.ex;exact KQ hm F hr hg h1 hb .nil F7 ha hdb he hpl
theorem Nt(h:EG X.prog X.w X.K X.mg X.base C x ps k sp)(hr:fT (k+1) X.A)(hg:Gl X x)(hdb:(x == ("__debug__":Str))=false:=by decide) :
 PE X (.Call (.Name x p) [] [] pos) (FJ C sp [] E0 KN):=by
 obtain ⟨f,fd,hm,h1,hb,F⟩:=h.ex;exact IS hm F hr hg h1 hb .nil F7 hdb
end
end Pg
namespace Pg
open PySem PySem.Spec PyProof.Rows L2
noncomputable def top(i:Nat):Stmt:=PySem.Challenge.pw_exactstep_s01_answers.main.body.getD i (.Pass ⟨0,0,0,0⟩)
noncomputable abbrev i7:Stmt:=top 5
theorem dh:aK ["first","second","larger","smaller","rest"] ["first","second"] (aB i7):=⟨rfl,rfl,rfl,by decide +kernel,rfl,by decide +kernel,by decide +kernel⟩
noncomputable abbrev jD:Stmt:=top 6
theorem cI:aK ["first","second","larger","smaller","divisions","rest"] ["first","second"] (aB jD):=⟨rfl,rfl,rfl,by decide +kernel,rfl,by decide +kernel,by decide +kernel⟩
noncomputable abbrev uI:Stmt:=top 7
theorem EH:aK ["top","bottom","divisor"] ["top","bottom","divisor"] (aB uI):=⟨rfl,rfl,rfl,by decide +kernel,rfl,by decide +kernel,by decide +kernel⟩
noncomputable abbrev x6:Stmt:=top 8
theorem HA:aK ["top","bottom"] ["top","bottom"] (aB x6):=⟨rfl,rfl,rfl,by decide +kernel,rfl,by decide +kernel,by decide +kernel⟩
noncomputable abbrev kq:Stmt:=top 9
theorem ou:aK ["top","bottom","divisor"] ["top","bottom"] (aB kq):=⟨rfl,rfl,rfl,by decide +kernel,rfl,by decide +kernel,by decide +kernel⟩
noncomputable abbrev x8:Stmt:=top 10
theorem HB:aK ["fraction"] ["fraction"] (aB x8):=⟨rfl,rfl,rfl,by decide +kernel,rfl,by decide +kernel,by decide +kernel⟩
noncomputable abbrev rG:Stmt:=top 11
theorem Dj:aK ["fraction"] ["fraction"] (aB rG):=⟨rfl,rfl,rfl,by decide +kernel,rfl,by decide +kernel,by decide +kernel⟩
noncomputable abbrev EI:Stmt:=top 12
theorem sY:aK ["first","second","shared","first_rest","top","left"] ["first","second"] (aB EI):=⟨rfl,rfl,rfl,by decide +kernel,rfl,by decide +kernel,by decide +kernel⟩
noncomputable abbrev Bu:Stmt:=top 13
theorem JE:aK ["first","second"] ["first","second"] (aB Bu):=⟨rfl,rfl,rfl,by decide +kernel,rfl,by decide +kernel,by decide +kernel⟩
noncomputable abbrev Bv:Stmt:=top 14
theorem x9:aK ["first","second","falling","rising"] ["first","second"] (aB Bv):=⟨rfl,rfl,rfl,by decide +kernel,rfl,by decide +kernel,by decide +kernel⟩
noncomputable abbrev EJ:Stmt:=top 15
theorem Lo:aK ["first","second"] ["first","second"] (aB EJ):=⟨rfl,rfl,rfl,by decide +kernel,rfl,by decide +kernel,by decide +kernel⟩
noncomputable abbrev uJ:Stmt:=top 16
theorem EK:aK ["first","second"] ["first","second"] (aB uJ):=⟨rfl,rfl,rfl,by decide +kernel,rfl,by decide +kernel,by decide +kernel⟩
noncomputable abbrev uK:Stmt:=top 17
theorem EL:aK ["fraction","bottom"] ["fraction","bottom"] (aB uK):=⟨rfl,rfl,rfl,by decide +kernel,rfl,by decide +kernel,by decide +kernel⟩
noncomputable abbrev i8:Stmt:=top 18
theorem fO:aK ["fractions","total","fraction"] ["fractions"] (aB i8):=⟨rfl,rfl,rfl,by decide +kernel,rfl,by decide +kernel,by decide +kernel⟩
noncomputable abbrev i9:Stmt:=top 19
theorem iA:aK ["numbers","many","fractions","place"] ["numbers","many"] (aB i9):=⟨rfl,rfl,rfl,by decide +kernel,rfl,by decide +kernel,by decide +kernel⟩
noncomputable abbrev nG:Stmt:=top 29
theorem gE:aK ["numbers","lines","place","line"] ["numbers"] (aB nG):=⟨rfl,rfl,rfl,by decide +kernel,rfl,by decide +kernel,by decide +kernel⟩
noncomputable abbrev pQ:Stmt:=top 30
theorem nH:aK ["numbers","place","kind","line"] ["numbers","place"] (aB pQ):=⟨rfl,rfl,rfl,by decide +kernel,rfl,by decide +kernel,by decide +kernel⟩
noncomputable abbrev lZ:Stmt:=top 31
theorem x_:aK ["line"] ["line"] (aB lZ):=⟨rfl,rfl,rfl,by decide +kernel,rfl,by decide +kernel,by decide +kernel⟩
noncomputable abbrev rH:Stmt:=top 32
theorem pR:aK ["lines","inputs","place","line"] ["lines","inputs"] (aB rH):=⟨rfl,rfl,rfl,by decide +kernel,rfl,by decide +kernel,by decide +kernel⟩
noncomputable abbrev JF:Stmt:=top 37
theorem yb:aK ["lines","point","worked_out","place","line","value"] ["lines","point"] (aB JF):=⟨rfl,rfl,rfl,by decide +kernel,rfl,by decide +kernel,by decide +kernel⟩
noncomputable abbrev nI:Stmt:=top 38
theorem zh:aK ["line","worked_out","point"] ["line","worked_out","point"] (aB nI):=⟨rfl,rfl,rfl,by decide +kernel,rfl,by decide +kernel,by decide +kernel⟩
noncomputable abbrev iB:Stmt:=top 39
theorem rJ:aK ["kind","first","second"] ["kind","first","second"] (aB iB):=⟨rfl,rfl,rfl,by decide +kernel,rfl,by decide +kernel,by decide +kernel⟩
noncomputable abbrev rK:Stmt:=top 41
theorem e_:aK ["lines","outs","inputs","line_values","slopes","place","line","by","out"] ["lines","outs","inputs","line_values"] (aB rK):=⟨rfl,rfl,rfl,by decide +kernel,rfl,by decide +kernel,by decide +kernel⟩
noncomputable abbrev nJ:Stmt:=top 42
theorem jq:aK ["line","place","by","slopes","line_values","first","second","second_value"] ["line","place","by","slopes","line_values"] (aB nJ):=⟨rfl,rfl,rfl,by decide +kernel,rfl,by decide +kernel,by decide +kernel⟩
noncomputable abbrev gT:Stmt:=top 43
theorem bV:aK ["table","results","step","pictures","row","result","told","slope","part"] ["table","results","step"] (aB gT):=⟨rfl,rfl,rfl,by decide +kernel,rfl,by decide +kernel,by decide +kernel⟩
noncomputable abbrev uL:Stmt:=top 47
theorem EM:aK ["kind"] ["kind"] (aB uL):=⟨rfl,rfl,rfl,by decide +kernel,rfl,by decide +kernel,by decide +kernel⟩
noncomputable abbrev pS:Stmt:=top 48
theorem sZ:aK ["kind","table","results","inputs","rows"] ["kind","table","results","inputs"] (aB pS):=⟨rfl,rfl,rfl,by decide +kernel,rfl,by decide +kernel,by decide +kernel⟩
noncomputable abbrev l_:Stmt:=top 49
theorem iC:aK ["rows","inputs","stepped","leads","row"] ["rows","inputs"] (aB l_):=⟨rfl,rfl,rfl,by decide +kernel,rfl,by decide +kernel,by decide +kernel⟩
noncomputable abbrev fW:Stmt:=top 50
theorem iQ:aK ["rows","inputs","stepped"] ["rows","inputs"] (aB fW):=⟨rfl,rfl,rfl,by decide +kernel,rfl,by decide +kernel,by decide +kernel⟩
noncomputable abbrev nL:Stmt:=top 51
theorem eN:aK ["table","results","rows","bottom","slopes","result","row"] ["table","results"] (aB nL):=⟨rfl,rfl,rfl,by decide +kernel,rfl,by decide +kernel,by decide +kernel⟩
noncomputable abbrev fX:Stmt:=top 52
theorem cW:aK ["rows","bottom","row","fraction"] ["rows"] (aB fX):=⟨rfl,rfl,rfl,by decide +kernel,rfl,by decide +kernel,by decide +kernel⟩
noncomputable abbrev pT:Stmt:=top 53
theorem nM:aK ["row","bottom","fraction"] ["row","bottom"] (aB pT):=⟨rfl,rfl,rfl,by decide +kernel,rfl,by decide +kernel,by decide +kernel⟩
noncomputable abbrev kr:Stmt:=top 54
theorem fB:aK ["rows","inputs","products","by","column"] ["rows","inputs"] (aB kr):=⟨rfl,rfl,rfl,by decide +kernel,rfl,by decide +kernel,by decide +kernel⟩
noncomputable abbrev i_:Stmt:=top 55
theorem iD:aK ["rows","first","second","row"] ["rows","first","second"] (aB i_):=⟨rfl,rfl,rfl,by decide +kernel,rfl,by decide +kernel,by decide +kernel⟩
noncomputable abbrev fY:Stmt:=top 56
theorem aU:aK ["rows","inputs","stepped","leads","lead_before","column","taken","found","lead_row","place","row"] ["rows","inputs"] (aB fY):=⟨rfl,rfl,rfl,by decide +kernel,rfl,by decide +kernel,by decide +kernel⟩
noncomputable abbrev ja:Stmt:=top 57
theorem lM:aK ["rows","column","start","place"] ["rows","column","start"] (aB ja):=⟨rfl,rfl,rfl,by decide +kernel,rfl,by decide +kernel,by decide +kernel⟩
noncomputable abbrev uM:Stmt:=top 58
theorem jb:aK ["row","lead_row","column","lead_before","lead","own","left","right"] ["row","lead_row","column","lead_before"] (aB uM):=⟨rfl,rfl,rfl,by decide +kernel,rfl,by decide +kernel,by decide +kernel⟩
noncomputable abbrev pU:Stmt:=top 59
theorem iE:aK ["stepped","leads","inputs","step","place","column"] ["stepped","leads","inputs"] (aB pU):=⟨rfl,rfl,rfl,by decide +kernel,rfl,by decide +kernel,by decide +kernel⟩
noncomputable abbrev mh:Stmt:=top 60
theorem iF:aK ["step","fractions","top","bottom"] ["step"] (aB mh):=⟨rfl,rfl,rfl,by decide +kernel,rfl,by decide +kernel,by decide +kernel⟩
noncomputable abbrev gc:Stmt:=inClass (top 62) 0
theorem s_:aK ["self","point","line_values","fault"] ["self","point","line_values","fault"] (aB gc):=⟨rfl,rfl,rfl,by decide +kernel,rfl,by decide +kernel,by decide +kernel⟩
noncomputable abbrev gO:Stmt:=inClass (top 63) 0
theorem uN:aK ["self"] ["self"] (aB gO):=⟨rfl,rfl,rfl,by decide +kernel,rfl,by decide +kernel,by decide +kernel⟩
noncomputable abbrev gf:Stmt:=inClass (top 63) 1
theorem tu:aK ["self","inputs","lines","outs"] ["self","inputs","lines","outs"] (aB gf):=⟨rfl,rfl,rfl,by decide +kernel,rfl,by decide +kernel,by decide +kernel⟩
noncomputable abbrev fP:Stmt:=inClass (top 63) 2
theorem rL:aK ["self","place"] ["self","place"] (aB fP):=⟨rfl,rfl,rfl,by decide +kernel,rfl,by decide +kernel,by decide +kernel⟩
noncomputable abbrev rM:Stmt:=top 64
theorem vQ:aK ["held","point","ran"] ["held","point"] (aB rM):=⟨rfl,rfl,rfl,by decide +kernel,rfl,by decide +kernel,by decide +kernel⟩
noncomputable abbrev nN:Stmt:=top 65
theorem mj:aK ["held","place","out"] ["held","place"] (aB nN):=⟨rfl,rfl,rfl,by decide +kernel,rfl,by decide +kernel,by decide +kernel⟩
noncomputable abbrev ku:Stmt:=top 66
theorem wz:aK ["held"] ["held"] (aB ku):=⟨rfl,rfl,rfl,by decide +kernel,rfl,by decide +kernel,by decide +kernel⟩
noncomputable abbrev nO:Stmt:=top 67
theorem qM:aK ["held","place"] ["held"] (aB nO):=⟨rfl,rfl,rfl,by decide +kernel,rfl,by decide +kernel,by decide +kernel⟩
noncomputable abbrev pV:Stmt:=top 68
theorem tw:aK ["held","kind","place"] ["held","kind"] (aB pV):=⟨rfl,rfl,rfl,by decide +kernel,rfl,by decide +kernel,by decide +kernel⟩
noncomputable abbrev EN:Stmt:=top 80
theorem Bw:aK ["head","fractions","numbers","fraction"] ["head","fractions"] (aB EN):=⟨rfl,rfl,rfl,by decide +kernel,rfl,by decide +kernel,by decide +kernel⟩
noncomputable abbrev nP:Stmt:=top 81
theorem zj:aK ["fault"] ["fault"] (aB nP):=⟨rfl,rfl,rfl,by decide +kernel,rfl,by decide +kernel,by decide +kernel⟩
noncomputable abbrev jE:Stmt:=top 82
theorem uO:aK ["held"] ["held"] (aB jE):=⟨rfl,rfl,rfl,by decide +kernel,rfl,by decide +kernel,by decide +kernel⟩
noncomputable abbrev kC:Stmt:=top 83
theorem jF:aK ["point","fraction"] ["point"] (aB kC):=⟨rfl,rfl,rfl,by decide +kernel,rfl,by decide +kernel,by decide +kernel⟩
noncomputable abbrev mq:Stmt:=top 88
theorem kD:aK ["held","inputs","numbers","outs","lines","refusal"] ["held","inputs","numbers","outs"] (aB mq):=⟨rfl,rfl,rfl,by decide +kernel,rfl,by decide +kernel,by decide +kernel⟩
noncomputable abbrev kE:Stmt:=top 89
theorem wA:aK ["inputs","lines","outs"] ["inputs","lines","outs"] (aB kE):=⟨rfl,rfl,rfl,by decide +kernel,rfl,by decide +kernel,by decide +kernel⟩
noncomputable abbrev rN:Stmt:=top 90
theorem Dk:aK ["outs","many_lines"] ["outs","many_lines"] (aB rN):=⟨rfl,rfl,rfl,by decide +kernel,rfl,by decide +kernel,by decide +kernel⟩
noncomputable abbrev kF:Stmt:=top 91
theorem ow:aK ["held","numbers","point"] ["held","numbers"] (aB kF):=⟨rfl,rfl,rfl,by decide +kernel,rfl,by decide +kernel,by decide +kernel⟩
noncomputable abbrev jc:Stmt:=top 92
theorem iG:aK ["held","refusal","results"] ["held"] (aB jc):=⟨rfl,rfl,rfl,by decide +kernel,rfl,by decide +kernel,by decide +kernel⟩
noncomputable abbrev kG:Stmt:=top 93
theorem gP:aK ["held","refusal","slopes","row"] ["held"] (aB kG):=⟨rfl,rfl,rfl,by decide +kernel,rfl,by decide +kernel,by decide +kernel⟩
noncomputable abbrev mw:Stmt:=top 94
theorem dO:aK ["held","kind","refusal","pairs","step","pictures","part"] ["held","kind"] (aB mw):=⟨rfl,rfl,rfl,by decide +kernel,rfl,by decide +kernel,by decide +kernel⟩
noncomputable abbrev kH:Stmt:=top 95
theorem bR:aK ["held","numbers","step","refusal","reached","pictures","errors","part","more","result","picture"] ["held","numbers"] (aB kH):=⟨rfl,rfl,rfl,by decide +kernel,rfl,by decide +kernel,by decide +kernel⟩
noncomputable abbrev kI:Stmt:=top 98
theorem jG:aK ["held","result","many","numbers","ends","refusal"] ["held","result","many","numbers"] (aB kI):=⟨rfl,rfl,rfl,by decide +kernel,rfl,by decide +kernel,by decide +kernel⟩
noncomputable abbrev jH:Stmt:=top 99
theorem uP:aK ["held","result","many","ends"] ["held","result","many","ends"] (aB jH):=⟨rfl,rfl,rfl,by decide +kernel,rfl,by decide +kernel,by decide +kernel⟩
noncomputable abbrev uQ:Stmt:=top 100
theorem nQ:aK ["lines","out","many","first","second","first_value","second_value","first_is_below"] ["lines","out","many","first","second"] (aB uQ):=⟨rfl,rfl,rfl,by decide +kernel,rfl,by decide +kernel,by decide +kernel⟩
noncomputable abbrev yc:Stmt:=top 101
theorem g8:aK ["lines","out","many","first","second","first_is_below","left","right","turn","middle","value"] ["lines","out","many","first","second","first_is_below"] (aB yc):=⟨rfl,rfl,rfl,by decide +kernel,rfl,by decide +kernel,by decide +kernel⟩
noncomputable abbrev rO:Stmt:=top 102
theorem vR:aK ["lines","out","fraction","ran"] ["lines","out","fraction"] (aB rO):=⟨rfl,rfl,rfl,by decide +kernel,rfl,by decide +kernel,by decide +kernel⟩
noncomputable abbrev mz:Stmt:=top 106
theorem iH:aK ["held","kind","top","bottom","refusal","pairs","point"] ["held","kind","top","bottom"] (aB mz):=⟨rfl,rfl,rfl,by decide +kernel,rfl,by decide +kernel,by decide +kernel⟩
noncomputable abbrev rP:Stmt:=top 107
theorem g9:aK ["point","pairs","top","bottom","reached","start","pair","whole","fraction"] ["point","pairs","top","bottom"] (aB rP):=⟨rfl,rfl,rfl,by decide +kernel,rfl,by decide +kernel,by decide +kernel⟩
noncomputable abbrev jd:Stmt:=top 108
theorem ck:aK ["held","kind","most_halvings","refusal","pairs","before","found","halvings","place","answer"] ["held","kind","most_halvings"] (aB jd):=⟨rfl,rfl,rfl,by decide +kernel,rfl,by decide +kernel,by decide +kernel⟩
noncomputable abbrev mC:Stmt:=top 109
theorem cQ:aK ["held","pairs","most_halvings","before","step","halvings","tried","start","part"] ["held","pairs","most_halvings","before"] (aB mC):=⟨rfl,rfl,rfl,by decide +kernel,rfl,by decide +kernel,by decide +kernel⟩
noncomputable abbrev kJ:Stmt:=top 110
theorem dj:aK ["held","places","point","rounded","fraction","was","now"] ["held","places"] (aB kJ):=⟨rfl,rfl,rfl,by decide +kernel,rfl,by decide +kernel,by decide +kernel⟩
noncomputable abbrev m6:Stmt:=top 123
theorem gU:aK ["calls","held","answered","place","read","answer"] ["calls"] (aB m6):=⟨rfl,rfl,rfl,by decide +kernel,rfl,by decide +kernel,by decide +kernel⟩
noncomputable abbrev pW:Stmt:=top 124
theorem fk:aK ["calls","place","number","behind","parts","row","start"] ["calls","place"] (aB pW):=⟨rfl,rfl,rfl,by decide +kernel,rfl,by decide +kernel,by decide +kernel⟩
noncomputable abbrev mD:Stmt:=top 125
theorem yd:aK ["held","parts"] ["held","parts"] (aB mD):=⟨rfl,rfl,rfl,by decide +kernel,rfl,by decide +kernel,by decide +kernel⟩
structure dP where
 JG:Addr
 Sj:Addr
 JH:Addr
 Bx:Addr
 JI:Addr
 Place:Addr
 jI:Addr
noncomputable def Nu:List (Int × Int):=[(1,2),(0,1),(0,0),(0,0),(1,0),(3,0),(2,0),(0,1),(2,1),(1,0)]
structure Txt(K:PySem.W.Frag)(mg:Str->Option Value)(A:dP):Prop where
 Dl:mg "abs"=none
 gF:mg "len"=none
 Mm:mg "min"=none
 Mn:mg "max"=none
 Po:mg "sum"=none
 Pp:mg "any"=none
 Pq:mg "all"=none
 JJ:mg "list"=none
 Lp:mg "tuple"=none
 jr:mg "range"=none
 jy:mg "enumerate"=none
 tD:mg "zip"=none
 ye:mg "ZERO"=some (.ref A.JG)
 yg:∀ H,fG K H A.JG [.int 0,.int 1]
 JK:mg "ONE"=some (.ref A.Sj)
 JL:∀ H,fG K H A.Sj [.int 1,.int 1]
 BA:mg "HALF"=some (.ref A.JH)
 EO:∀ H,fG K H A.JH [.int 1,.int 2]
 uR:∃ t,mg "MOST_DIVISIONS"=some (.int (4596) t)
 BB:∃ t,mg "INPUT"=some (.int (0) t)
 nR:∃ t,mg "CONSTANT"=some (.int (1) t)
 JM:∃ t,mg "PLUS"=some (.int (2) t)
 Gi:∃ t,mg "MINUS"=some (.int (3) t)
 Gj:∃ t,mg "TIMES"=some (.int (4) t)
 Nv:∃ t,mg "OVER"=some (.int (5) t)
 yh:∃ t,mg "NEGATIVE"=some (.int (6) t)
 m7:mg "LENGTHS"=some (.ref A.Bx)
 uS:∀ H,fG K H A.Bx [.int 2,.int 3,.int 3,.int 3,.int 3,.int 3,.int 2]
 rQ:∃ t,mg "DIVISION_BY_ZERO"=some (.int (1) t)
 tE:∃ t,mg "VALUE_TOO_HEAVY"=some (.int (2) t)
 kK:∃ t,mg "MOST_HELD_WEIGHT"=some (.int (2000) t)
 Dm:∃ t,mg "NEWTON"=some (.int (0) t)
 wB:∃ t,mg "LEAST_SQUARES"=some (.int (1) t)
 cA:∃ t,mg "NOT_REFUSED"=some (.int (0) t)
 eZ:∃ t,mg "OUT_OF_RANGE"=some (.int (-1) t)
 jX:∃ t,mg "WRONG_FORM"=some (.int (-2) t)
 Dq:∃ t,mg "WRONG_USE"=some (.int (-3) t)
 yi:∃ t,mg "NO_POINT"=some (.int (-4) t)
 m8:∃ t,mg "FAULT_AT_POINT"=some (.int (-5) t)
 fZ:∃ t,mg "TOO_HEAVY"=some (.int (-6) t)
 uT:∃ t,mg "TOO_MANY_LINES"=some (.int (-7) t)
 wC:∃ t,mg "NOT_ONE_INPUT"=some (.int (-8) t)
 kL:∃ t,mg "MOST_TOLD_WEIGHT"=some (.int (6000) t)
 zm:∃ t,mg "MOST_INPUTS"=some (.int (4) t)
 BC:∃ t,mg "MOST_LINES"=some (.int (60) t)
 yj:∃ t,mg "MOST_RESULTS"=some (.int (6) t)
 BD:∃ t,mg "MOST_TIMES"=some (.int (100) t)
 wD:∃ t,mg "MOST_HALVINGS"=some (.int (20) t)
 pX:∃ t,mg "MOST_BINARY_PLACES"=some (.int (200) t)
 Ny:∃ t,mg "CODE"=some (.int (0) t)
 Lq:∃ t,mg "POINT"=some (.int (1) t)
 HC:∃ t,mg "RESULTS"=some (.int (2) t)
 Lr:∃ t,mg "TABLE"=some (.int (3) t)
 Nz:∃ t,mg "STEP"=some (.int (4) t)
 NC:∃ t,mg "TAKE"=some (.int (5) t)
 HD:∃ t,mg "DESCEND"=some (.int (6) t)
 Ls:∃ t,mg "ERROR"=some (.int (7) t)
 Lu:∃ t,mg "HALVE"=some (.int (8) t)
 tF:mg "FORMS"=some (.ref A.JI)
 BE:∃ ps:List Addr,ps.length=10/\∀ H,fG K H A.JI (ps.map V.ref)/\∀ (i:Nat) (p:Addr) (f:Int × Int),ps[i]?=some p->Nu[i]?=some f->fG K H p [.int f.1,.int f.2]
 bN:DW K A.Place
 dH:dF K A.Place "point"
 dz:dF K A.Place "line_values"
 dI:dF K A.Place "fault"
 eO:dF K A.Place "table"
 eT:dF K A.Place "steps"
 bz:DW K A.jI
 cN:dF K A.jI "inputs"
 fm:dF K A.jI "lines"
 d9:dF K A.jI "outs"
 bA:dF K A.jI "place"
noncomputable def rR(K:PySem.W.Frag):Sp:=fun vs H Q _=>∃ (a:Addr) (ns:List Int),vs=[.ref a]/\aP K H a (ns.map V.int)/\PyVagran.answers_asked ns=true/\∀ H' p,H' p=some (.lst ((PyVagran.answers ns).map V.int))->Q (.ref p) H'
structure T8(K:PySem.W.Frag)(mg:Str->Option Value):Prop where
 JN:Def K mg "weight" x8 ["fraction"]
 ER:Def K mg "negative" rG ["fraction"]
 uU:Def K mg "sum_of_squares" i8 ["fractions"]
 BF:Def K mg "read_lines" nG ["numbers"]
 zo:Def K mg "numbers_fit" lZ ["line"]
 HE:Def K mg "is_kind" uL ["kind"]
 pY:Def K mg "common_denominator" fX ["rows"]
 zu:Def K mg "lowest_step" mh ["step"]
 yk:Def K mg "results_here" ku ["held"]
 BG:Def K mg "table_here" nO ["held"]
 BH:Def K mg "run_answer" nP ["fault"]
 wF:Def K mg "place_refusal" jE ["held"]
 yl:Def K mg "may_be_taken" kC ["point"]
 uV:Def K mg "answer_results" jc ["held"]
 ym:Def K mg "answer_table" kG ["held"]
 HF:Def K mg "answers" m6 ["calls"]
 uW:Def K mg "common_divisor" i7 ["first","second"]
 wG:Def K mg "quick_divisor" jD ["first","second"]
 JO:Def K mg "lowest" x6 ["top","bottom"]
 yo:Def K mg "quick_lowest" kq ["top","bottom"]
 ND:Def K mg "plus" EI ["first","second"]
 Lv:Def K mg "minus" Bu ["first","second"]
 Lw:Def K mg "times" Bv ["first","second"]
 NF:Def K mg "over" EJ ["first","second"]
 HG:Def K mg "is_less" uJ ["first","second"]
 HH:Def K mg "nearest" uK ["fraction","bottom"]
 uX:Def K mg "read_fractions" i9 ["numbers","many"]
 Dr:Def K mg "read_line" pQ ["numbers","place"]
 ES:Def K mg "uses_fit" rH ["lines","inputs"]
 Pu:Def K mg "run" JF ["lines","point"]
 zy:Def K mg "newton_step" l_ ["rows","inputs"]
 pZ:Def K mg "least_squares_step" fW ["rows","inputs"]
 BI:Def K mg "whole_rows" nL ["table","results"]
 Ds:Def K mg "whole_row" pT ["row","bottom"]
 yp:Def K mg "turned_times" kr ["rows","inputs"]
 p5:Def K mg "brought_into_steps" fY ["rows","inputs"]
 ET:Def K mg "place_at" rM ["held","point"]
 BJ:Def K mg "results_at" nN ["held","place"]
 Dt:Def K mg "step_here" pV ["held","kind"]
 NG:Def K mg "told" EN ["head","fractions"]
 EU:Def K mg "are_outs" rN ["outs","many_lines"]
 yq:Def K mg "answer_point" kF ["held","numbers"]
 zz:Def K mg "answer_step" mw ["held","kind"]
 yr:Def K mg "answer_error" kH ["held","numbers"]
 yt:Def K mg "answer_round" kJ ["held","places"]
 Du:Def K mg "read_call" pW ["calls","place"]
 zA:Def K mg "answer_call" mD ["held","parts"]
 HJ:Def K mg "divided" uI ["top","bottom","divisor"]
 BK:Def K mg "line_value" nI ["line","worked_out","point"]
 tG:Def K mg "operation_value" iB ["kind","first","second"]
 rS:Def K mg "straight_picture" gT ["table","results","step"]
 uY:Def K mg "column_product" i_ ["rows","first","second"]
 uZ:Def K mg "first_row_with" ja ["rows","column","start"]
 Dv:Def K mg "read_step" pU ["stepped","leads","inputs"]
 yu:Def K mg "code_refusal" kE ["inputs","lines","outs"]
 EV:Def K mg "value_at" rO ["lines","out","fraction"]
 u0:Def K mg "answer_descend" jd ["held","kind","most_halvings"]
 EW:Def K mg "table_at" rK ["lines","outs","inputs","line_values"]
 Dy:Def K mg "find_step" pS ["kind","table","results","inputs"]
 HK:Def K mg "cleared" uM ["row","lead_row","column","lead_before"]
 zB:Def K mg "answer_code" mq ["held","inputs","numbers","outs"]
 yw:Def K mg "answer_halve" kI ["held","result","many","numbers"]
 wH:Def K mg "halve_refusal" jH ["held","result","many","ends"]
 zC:Def K mg "answer_take" mz ["held","kind","top","bottom"]
 EX:Def K mg "part_way" rP ["point","pairs","top","bottom"]
 zD:Def K mg "first_lower" mC ["held","pairs","most_halvings","before"]
 BL:Def K mg "line_slope" nJ ["line","place","by","slopes","line_values"]
 HL:Def K mg "between" uQ ["lines","out","many","first","second"]
 JP:Def K mg "halved" yc ["lines","out","many","first","second","first_is_below"]
end Pg
namespace Pg
open PySem PySem.Spec PyProof.Rows L2
@[irreducible] noncomputable def M:Nat:=67108864
theorem Pw:M=67108864:=by with_unfolding_all rfl
theorem gu{n:Nat}(h:n<=67108864):n<=M:=by rw [Pw];exact h
noncomputable abbrev m9(x:Int):Prop:=Ex.Bd M x
theorem Px{i j:Int}(hi:m9 i)(hj:m9 j):IntMulOk i j:=
 IntMulOk.of_le (intBits_le_iff.mpr hi) (intBits_le_iff.mpr hj) (by rw [Pw];decide)
theorem m9.of{b:Nat}{x:Int}(h:Ex.Bd b x)(hb:b<=67108864):m9 x:=h.mono (gu hb)
theorem dp{k:Nat}{A:Around}(hr:fT k A)(h:33<=k):A.depth+100<recursionLimit:=by
 have:=hr.dp;omega
section
variable {X:Cx}
theorem cu:xr X (binaryOp .Mult) (rI (fun i j=>m9 i/\m9 j) fun i j=>.int (i*j)):=Rz fun _ _ _ _ _ _ _ hc q=>mul_int q (Px hc.1 hc.2)
theorem NH{pins:List (Addr × Obj)}{s:Shared}{σ:L2.St}{H:Hp}(I:Inv X pins σ H s)(hd:X.A.depth+100<recursionLimit):PylongRoom (model X.prog X.w) X.A s:=by
 obtain ⟨env,l,hs,h1,h2,h3,h4⟩:=I.ok.top;exact PylongRoom.of I.nolimit hd (SeerAt.of (I.mod.seer.keeps I.bk) I.ok.tree (by rw [I.ok.frames,hs]) h1 h2 h3 h4)
theorem dB(hd:X.A.depth+100<recursionLimit):xr X (binaryOp .FloorDiv) (rI (fun _ j=>j≠0) fun i j=>.int (i.fdiv j)):=by
 intro pins s σ H x y v u Q I rx ry h;obtain ⟨i,j,rfl,rfl,hc,q⟩:=h;obtain ⟨t,rfl⟩:=rx;obtain ⟨t',rfl⟩:=ry;exact floordiv_int hc ⟨.int _,H,I.tok _,⟨_,rfl⟩,q⟩ (.inr (NH I hd))
theorem Lx:RG X "int.bit_length" (fun x xs H Q=>∃ i,x=.int i/\xs=[]/\Q (.int ((Builtin.Int.intBits i:Nat):Int)) H):=by
 intro pins s σ H x xs v us Q I rx r h;obtain ⟨i,rfl,rfl,q⟩:=h;obtain ⟨t,rfl⟩:=rx;rw [Vals.zero r];exact call_int_bit_length ⟨.int _,H,I.tok _,⟨_,rfl⟩,q⟩
theorem Gk{o:Expr}{to:TE}{apos cpos:Pos}(ho:PE X o to)
 (hbase:attributeBase o (Str.ofString "bit_length") X.env (eval o X.env)=eval o X.env:=by rfl) (hline:(apos.endLine == cpos.line)=true:=by rfl):PE X (.Call (.Attribute o "bit_length" apos) [] [] cpos) (OZ X.K "int" (fun x xs H Q=>∃ i,x=.int i/\xs=[]/\Q (.int ((Builtin.Int.intBits i:Nat):Int)) H) to):=
 M6 PySem.F.plainAttrs_int PySem.F.slot_int_bit_length PySem.F.type_int_bit_length Lx ho hbase hline
theorem Py:KZ X (fun x y H Q=>M0 X.K x y H Q\/M1 X.K x y H Q):=K0.or M3
theorem Pz:KS X (fun x lo hi H Q=>M5 X.K x lo hi H Q\/MY X.K x lo hi H Q):=K1.or MZ
theorem az{K:PySem.W.Frag}(e:X.K=K):KZ X (fun x y H Q=>M0 K x y H Q\/M1 K x y H Q):=by subst e;exact Py
theorem u5{K:PySem.W.Frag}(e:X.K=K):KS X (fun x lo hi H Q=>M5 K x lo hi H Q\/MY K x lo hi H Q):=by subst e;exact Pz
theorem aZ{K:PySem.W.Frag}{e:Expr}{f:Str}{pos:Pos}{ta:TE}(ek:X.K=K)(he:PE X e ta)(hb:attributeBase e f X.env (eval e X.env)=eval e X.env):PE X (.Attribute e f pos) (OU K ta f):=by subst ek;exact MV he hb
theorem fq{K:PySem.W.Frag}{es:List Expr}{k:Nat}{t:L8}{pos:Pos}(n:Nat)(ek:X.K=K)(hc:X.calm=true)(h:OJ X es t)
 (hn:(assignEach es X.env).length=n:=by rfl) (hst:(assignEach es X.env).findIdx? (·.1)=none:=by rfl):PG X (.Tuple es k pos) (AY K n t):=by subst ek;exact MQ hc h hn hst
noncomputable def PB(K:PySem.W.Frag):List V->Hp->VK->Prop:=fun vs H Q=>∃ (a:Addr) (ns:List Int),vs=[V.ref a]/\(aP K H a (ns.map V.int)\/fG K H a (ns.map V.int))/\0<ns.length/\∀ m,m∈ns->(∀ y,y∈ns->m<=y)->Q (.int m) H
noncomputable def PD(K:PySem.W.Frag):List V->Hp->VK->Prop:=fun vs H Q=>∃ (a:Addr) (ns:List Int),vs=[V.ref a]/\(aP K H a (ns.map V.int)\/fG K H a (ns.map V.int))/\0<ns.length/\∀ m,m∈ns->(∀ y,y∈ns->y<=m)->Q (.int m) H
end
section
variable {prog:Program}{w:World}{A:Around}{E:Value->Shared->Prop}{s:Shared}{l:Addr}{xs:Array (Int × Tok)}
theorem qN{Q:Value->Shared->Prop}(hl:s.heap.IsTuple l (intItems xs))
 (h:∀ s₂:Shared,s₂={s with heap:=s.heap.push {cls:=.type "tuple_iterator",data:=.fields #[.ref l,.int 0 0]}}->
  (s₂.heap.IsTupleIter s.heap.objs.size l 0/\s₂.heap.IsTuple l (intItems xs))->(∀ b∈[s.heap.objs.size,l],b<s₂.heap.objs.size)->l≠s.heap.objs.size->Q (.ref s.heap.objs.size) s₂) :
 wpAny (model prog w) A (pyIter (.ref l)) Q E s:=by
 have hlt:l<s.heap.objs.size:=by obtain ⟨_,e,_⟩:=hl;exact Heap.lt_size e
 refine wpAny_pyIter_tuple hl (h _ rfl ⟨⟨_,Heap.get?_push_size _ rfl,rfl,rfl⟩,hl.push _⟩ (fun b hb=>?_) (Nat.ne_of_lt hlt));show b<(s.heap.push _).objs.size;rw [Heap.size_push];rcases List.mem_cons.mp hb with rfl|hb
 . exact Nat.lt_succ_self _
 . rcases List.mem_cons.mp hb with rfl|hb
   . exact Nat.lt_succ_of_lt hlt
   . cases hb
theorem AE{h':Heap}(hk:∀ b o,b ∉ [s.heap.objs.size]->(s.heap.push {cls:=.type "tuple_iterator",data:=.fields #[.ref l,.int 0 0]}).get? b=some o->h'.get? b=some o) :
 ∀ b o,s.heap.get? b=some o->h'.get? b=some o:=fun b o e=>by
 refine hk b o (fun hm=>?_) (Heap.get?_push_of_some _ e);rcases List.mem_cons.mp hm with e1|hm
 . exact absurd (e1 ▸ Heap.lt_size e) (Nat.lt_irrefl _)
 . cases hm
theorem BN{Q:Value->Shared->Prop}(hh:A.handled=none)(hl:s.heap.IsTuple l (intItems xs))(hne:0<xs.size)
 (h:∀ v h' tk,(intItems xs)[argBest (fun i j=>decide (numAt xs i > numAt xs j)) (xs.size-1)]?=some v->(∀ b o,s.heap.get? b=some o->h'.get? b=some o)->Q v {s with heap:=h',toks:=tk}) :
 wpAny (model prog w) A (call (.builtin "max") [.ref l]) Q E s:=by
 refine call_max_walk (qN hl fun s₂ e st hfp hlI=>?_);subst e;refine ⟨_,_,_,_,_,_,_,rfl,Walks.tuple (A:=A.in1) hh _ l hlI (intItems xs),st,hfp,by simpa [intItems] using hne,CmpOf.ints_gt (numAt xs) (fun _ _=>intItems_at),fun v h' tk hP hk=>?_⟩;exact h v h' tk (by simpa [intItems] using hP) (AE hk)
theorem BO{Q:Value->Shared->Prop}(hh:A.handled=none)(hl:s.heap.IsTuple l (intItems xs))(hne:0<xs.size)
 (h:∀ v h' tk,(intItems xs)[argBest (fun i j=>decide (numAt xs i<numAt xs j)) (xs.size-1)]?=some v->(∀ b o,s.heap.get? b=some o->h'.get? b=some o)->Q v {s with heap:=h',toks:=tk}) :
 wpAny (model prog w) A (call (.builtin "min") [.ref l]) Q E s:=by
 refine call_min_walk (qN hl fun s₂ e st hfp hlI=>?_);subst e;refine ⟨_,_,_,_,_,_,_,rfl,Walks.tuple (A:=A.in1) hh _ l hlI (intItems xs),st,hfp,by simpa [intItems] using hne,CmpOf.ints_lt (numAt xs) (fun _ _=>intItems_at),fun v h' tk hP hk=>?_⟩;exact h v h' tk (by simpa [intItems] using hP) (AE hk)
variable {its:List Value}{ns:List Int}{Q:Value->Shared->Prop}
theorem JQ(hh:A.handled=none)(hl:s.heap.IsTuple l its.toArray)(hi:IntsAre its ns)(hne:0<ns.length)
 (h:∀ h' tk M t',(∀ b o,s.heap.get? b=some o->h'.get? b=some o)->M∈ns->(∀ a,a∈ns->a<=M)->Q (.int M t') {s with heap:=h',toks:=tk}):wpAny (model prog w) A (call (.builtin "max") [.ref l]) Q E s:=by
 obtain ⟨xs,e⟩:=hi.allInts.items;have hn:numsOf (intItems xs).toList=ns:=by rw [<-e];exact hi.numsOf
 rw [nums_intItems] at hn;subst hn;rw [e] at hl;have hsz:0<xs.size:=by simpa using hne
 refine BN hh hl hsz fun v h' tk hv hk=>?_;obtain ⟨t,rfl⟩:=intItems_at hv;obtain ⟨h1,h2⟩:=argBest_gt (numAt xs) (xs.size-1);refine h h' tk _ t hk ?_ fun a ha=>?_
 . rw [numAt_eq];exact PySem.getD_mem (by rw [List.length_map,Array.length_toList];omega)
 . obtain ⟨j,hj,rfl⟩:=mem_getD ha;rw [List.length_map,Array.length_toList] at hj;rw [<-numAt_eq];exact h2 j (by omega)
theorem JR(hh:A.handled=none)(hl:s.heap.IsTuple l its.toArray)(hi:IntsAre its ns)(hne:0<ns.length)
 (h:∀ h' tk M t',(∀ b o,s.heap.get? b=some o->h'.get? b=some o)->M∈ns->(∀ a,a∈ns->M<=a)->Q (.int M t') {s with heap:=h',toks:=tk}):wpAny (model prog w) A (call (.builtin "min") [.ref l]) Q E s:=by
 obtain ⟨xs,e⟩:=hi.allInts.items;have hn:numsOf (intItems xs).toList=ns:=by rw [<-e];exact hi.numsOf
 rw [nums_intItems] at hn;subst hn;rw [e] at hl;have hsz:0<xs.size:=by simpa using hne
 refine BO hh hl hsz fun v h' tk hv hk=>?_;obtain ⟨t,rfl⟩:=intItems_at hv;obtain ⟨h1,h2⟩:=argBest_lt (numAt xs) (xs.size-1);refine h h' tk _ t hk ?_ fun a ha=>?_
 . rw [numAt_eq];exact PySem.getD_mem (by rw [List.length_map,Array.length_toList];omega)
 . obtain ⟨j,hj,rfl⟩:=mem_getD ha;rw [List.length_map,Array.length_toList] at hj;rw [<-numAt_eq];exact h2 j (by omega)
end
section
variable {X:Cx}
theorem Gm(hc:X.calm=true):mU X (.builtin "min") (PB X.K):=by
 intro pins s σ H vs us Q I r h;obtain ⟨a,ns,rfl,hs,hne,q⟩:=h;rcases hs with hs|hs
 . exact M9 hc pins s σ H _ us Q I r ⟨a,ns,rfl,hs,hne,q⟩
 . obtain ⟨its,rv,hl,_⟩:=I.tuple hs;rw [Vals.Ef r];exact JR (I.ok.hd hc) hl rv.ints hne fun h' tk m t' hk h1 h2=>⟨.int _,H,I.kept hk,⟨_,rfl⟩,q m h1 h2⟩
theorem Gn(hc:X.calm=true):mU X (.builtin "max") (PD X.K):=by
 intro pins s σ H vs us Q I r h;obtain ⟨a,ns,rfl,hs,hne,q⟩:=h;rcases hs with hs|hs
 . exact M8 hc pins s σ H _ us Q I r ⟨a,ns,rfl,hs,hne,q⟩
 . obtain ⟨its,rv,hl,_⟩:=I.tuple hs;rw [Vals.Ef r];exact JQ (I.ok.hd hc) hl rv.ints hne fun h' tk m t' hk h1 h2=>⟨.int _,H,I.kept hk,⟨_,rfl⟩,q m h1 h2⟩
noncomputable def Sk(K:PySem.W.Frag):R2:=fun x y H Q=>∃ p xs,x=.non/\y=.ref p/\H p=some (.lst xs)/\(∀ v,v∈xs->v=.non\/∃ a ys,v=.ref a/\fG K H a ys)/\Q (.bl (xs.any fun v=>decide (v=.non))) H
noncomputable def nS(u:Value):Bool:=match u with
 |.none=>true
 |_=>false
theorem EY(hu:X.A.units+2<cLine):xr X (compareOp .In) (Sk X.K):=by
 intro pins s σ H x y v u Q I rx ry h;obtain ⟨p,xs,rfl,rfl,hq,hk,q⟩:=h;cases ry;cases rx;obtain ⟨its,r,pl,hz⟩:=I.list (aP.of hq);have all:∀ {xs:List V} {us:List Value},Vals xs us->(∀ v,v∈xs->v=.non\/∃ a ys,v=.ref a/\fG X.K H a ys)->(∀ u∈us,SeqAt.EqAt X.A.in1 s u .none (nS u))/\us.any nS=xs.any fun v=>decide (v=.non):=by
  intro xs us r
  induction r with
  |nil=>exact fun _=>⟨fun u hu=>(nomatch hu),rfl⟩
  |
   @cons x u xs us r1 r2 ih=>
   intro hx;obtain ⟨i1,i2⟩:=ih fun v hv=>hx v (List.mem_cons_of_mem _ hv);have hd:SeqAt.EqAt X.A.in1 s u .none (nS u)/\nS u=decide (x=V.non):=by
    rcases hx x List.mem_cons_self with rfl|⟨a,ys,rfl,ha⟩
    . cases r1;exact ⟨SeqAt.EqAt.same _,rfl⟩
    . cases r1;obtain ⟨its,_,ht,_⟩:=I.tuple ha;exact ⟨SeqAt.EqAt.tuple_none ht (by show X.A.in1.units<cLine;show X.A.units+1<cLine;omega),rfl⟩
   refine ⟨fun u' Gp=>?_,?_⟩
   . rcases List.mem_cons.mp Gp with rfl|Gp
     . exact hd.1
     . exact i1 u' Gp
   . rw [List.any_cons,List.any_cons,hd.2,i2]
 obtain ⟨a1,a2⟩:=all r hk;refine SeqAt.in_listAt nS pl.isList (fun w hw=>a1 w (by simpa using hw)) ⟨.bl _,H,I,rfl,?_⟩;rw [show its.toArray.any nS=its.any nS by simp,a2];exact q
theorem aX{x:Str}{i:Int}{pos:Pos}(h:∃ t,X.mg x=some (.int i t))(hg:Gl X x:=by rfl)(hd:(x == ("__debug__":Str))=false:=by decide):PE X (.Name x pos) (tC (.int i)):=by
 obtain ⟨t,h⟩:=h;exact FE hg h ⟨t,rfl⟩ hd
theorem oz{x:Str}{a:Addr}{pos:Pos}(h:X.mg x=some (.ref a))(hg:Gl X x:=by rfl)(hd:(x == ("__debug__":Str))=false:=by decide):PE X (.Name x pos) (tC (.ref a)):=FE hg h rfl hd
end
theorem m_:bootBuiltins "abs"=some (.builtin "abs"):=by decide +kernel
theorem bU:bootBuiltins "len"=some (.builtin "len"):=by decide +kernel
theorem AF:bootBuiltins "min"=some (.builtin "min"):=by decide +kernel
theorem AG:bootBuiltins "max"=some (.builtin "max"):=by decide +kernel
theorem HM:bootBuiltins "sum"=some (.builtin "sum"):=by decide +kernel
theorem HN:bootBuiltins "any"=some (.builtin "any"):=by decide +kernel
theorem HP:bootBuiltins "all"=some (.builtin "all"):=by decide +kernel
theorem yx:bootBuiltins "list"=some (.type "list"):=by decide +kernel
theorem Dz:bootBuiltins "tuple"=some (.type "tuple"):=by decide +kernel
end Pg
namespace Pg
open PySem PySem.Spec PyProof.Rows L2
noncomputable def PF:HO->Prop
 |.ins _ _ _=>False
 |.dK _=>False
 |_=>True
noncomputable def c8(H H':Hp):Prop:=∀ b o,H b=some o->PF o->H' b=some o
theorem c8.refl(H:Hp):c8 H H:=fun _ _ h _=>h
theorem c8.trans{H H1 H2:Hp}(a:c8 H H1)(b:c8 H1 H2):c8 H H2:=fun c o h s=>b c o (a c o h s) s
theorem kp{H H':Hp}(s:aH H H'):c8 H H':=fun b o h _=>s b o h
theorem ak{H:Hp}{p:Addr}{o:HO}(h:H p=none):aH H (upd H p o):=fun b u e=>by
 rw [aJ (bg e h)];exact e
theorem aS{H:Hp}{p:Addr}{o:HO}(h:H p=none):c8 H (upd H p o):=kp (ak h)
theorem c8.JS{K:PySem.W.Frag}{H H':Hp}{a:Addr}{xs:List V}(k:c8 H H')(h:fG K H a xs):fG K H' a xs:=by
 rcases h with (h|⟨o,h⟩)|h
 . exact .inl (.inl (k _ _ h trivial))
 . exact .inl (.inr ⟨o,k _ _ h trivial⟩)
 . exact .inr h
theorem c8.JT{K:PySem.W.Frag}{H H':Hp}{a:Addr}{xs:List V}(k:c8 H H')(h:aP K H a xs):aP K H' a xs:=by
 rcases h with (h|⟨o,h⟩)|h
 . exact .inl (.inl (k _ _ h trivial))
 . exact .inl (.inr ⟨o,k _ _ h trivial⟩)
 . exact .inr h
theorem c8.lst{H H':Hp}{a:Addr}{xs:List V}(k:c8 H H')(h:H a=some (.lst xs)):H' a=some (.lst xs):=k _ _ h trivial
theorem cut{B H':Hp}{D:Addr}{o:List V}(hB:B D=none)(s:aH (upd B D (.lst o)) H'):∃ B',H'=upd B' D (.lst o)/\B' D=none/\aH B B':=by
 refine ⟨fun b=>if b=D then none else H' b,?_,if_pos rfl,fun b u e=>?_⟩
 . funext b;unfold upd;by_cases h:b=D
   . rw [if_pos h,h];exact s D _ ao
   . rw [if_neg h];show H' b=if b=D then none else H' b;rw [if_neg h]
 . have hn:=bg e hB;show (if b=D then none else H' b)=some u;rw [if_neg hn];exact s b u (by rw [aJ hn];exact e)
inductive Al{α:Type}(R:V->α->Prop):List V->List α->Prop
 |nil:Al R [] []
 |cons {v:V} {x:α} {vs:List V} {xs:List α}:R v x->Al R vs xs->Al R (v::vs) (x::xs)
section
variable {α:Type}{R R':V->α->Prop}
theorem Al.length:∀ {vs:List V} {xs:List α},Al R vs xs->vs.length=xs.length
 |_,_,.nil=>rfl
 |_,_,.cons _ t=>by rw [List.length_cons,List.length_cons,t.length]
theorem Al.imp(h:∀ v x,R v x->R' v x):∀ {vs:List V} {xs:List α},Al R vs xs->Al R' vs xs
 |_,_,.nil=>.nil
 |_,_,.cons r t=>.cons (h _ _ r) (t.imp h)
theorem Al.get:∀ {vs:List V} {xs:List α} {i:Nat} {v:V},Al R vs xs->vs[i]?=some v->∃ x,xs[i]?=some x/\R v x
 |_,_,_,_,.nil,e=>by simp at e
 |_,_,0,_,.cons r _,e=>by simp at e;subst e;exact ⟨_,rfl,r⟩
 |
  _,_,i+1,v,.cons _ t,e=>by
  obtain ⟨x,h1,h2⟩:=Al.get (i:=i) (v:=v) t (by simpa using e);exact ⟨x,by simpa using h1,h2⟩
theorem Al.at_:∀ {vs:List V} {xs:List α} {i:Nat} {x:α},Al R vs xs->xs[i]?=some x->∃ v,vs[i]?=some v/\R v x
 |_,_,_,_,.nil,e=>by simp at e
 |_,_,0,_,.cons r _,e=>by simp at e;subst e;exact ⟨_,rfl,r⟩
 |
  _,_,i+1,x,.cons _ t,e=>by
  obtain ⟨v,h1,h2⟩:=Al.at_ (i:=i) (x:=x) t (by simpa using e);exact ⟨v,by simpa using h1,h2⟩
theorem Al.app:∀ {vs ws:List V} {xs ys:List α},Al R vs xs->Al R ws ys->Al R (vs++ws) (xs++ys)
 |_,_,_,_,.nil,s=>s
 |_,_,_,_,.cons r t,s=>.cons r (t.app s)
theorem Al.snoc{vs:List V}{xs:List α}{v:V}{x:α}(h:Al R vs xs)(r:R v x):Al R (vs++[v]) (xs++[x]):=h.app (.cons r .nil)
theorem Al.drop:∀ {vs:List V} {xs:List α} (n:Nat),Al R vs xs->Al R (vs.drop n) (xs.drop n)
 |_,_,0,h=>h
 |_,_,_+1,.nil=>.nil
 |_,_,n+1,.cons _ t=>t.drop n
theorem Al.set{v:V}{x:α}(r:R v x):∀ {vs:List V} {xs:List α} (n:Nat),Al R vs xs->Al R (vs.set n v) (xs.set n x)
 |_,_,_,.nil=>.nil
 |_,_,0,.cons _ t=>.cons r t
 |_,_,n+1,.cons q t=>.cons q (t.set r n)
end
theorem take_snoc{α:Type}:∀ {l:List α} {i:Nat} {x:α},l[i]?=some x->l.take (i+1)=l.take i++[x]
 |[],i,x,h=>by simp at h
 |
  a::l,0,x,h=>by
  have e:a=x:=Option.some.inj h;subst e;rfl
 |
  a::l,i+1,x,h=>by
  have ih:=take_snoc (l:=l) (i:=i) (x:=x) h;show a::l.take (i+1)=a::l.take i++[x]
  rw [ih];rfl
noncomputable def Ii{α:Type}(R:Hp->V->α->Prop)(H:Hp)(v:V)(xs:List α):Prop:=∃ a vs,v=.ref a/\H a=some (.lst vs)/\Al (R H) vs xs
structure Mo{α:Type}(R:Hp->V->α->Prop):Prop where
 up:∀ {H H':Hp} {v:V} {x:α},c8 H H'->R H v x->R H' v x
instance Sl{α:Type}{R:Hp->V->α->Prop}:CoeFun (Mo R) fun _=>∀ {H H':Hp} {v:V} {x:α},c8 H H'->R H v x->R H' v x:=⟨Mo.up⟩
structure wI{α:Type}(R:Hp->V->α->Prop):Prop where
 up:∀ {B:Hp} {D:Addr} {o:List V} {v:V} {x:α},B D=none->R (upd B D (.lst o)) v x->R B v x
instance PJ{α:Type}{R:Hp->V->α->Prop}:CoeFun (wI R) fun _=>∀ {B:Hp} {D:Addr} {o:List V} {v:V} {x:α},B D=none->R (upd B D (.lst o)) v x->R B v x:=⟨wI.up⟩
section
variable {α:Type}{R:Hp->V->α->Prop}
theorem Mo.al(m:Mo R){H H':Hp}{vs:List V}{xs:List α}(k:c8 H H')(h:Al (R H) vs xs):Al (R H') vs xs:=h.imp fun _ _ r=>m k r
theorem Mo.ls(m:Mo R):Mo (Ii R):=⟨fun k ⟨a,vs,e,h,l⟩=>⟨a,vs,e,k.lst h,m.al k l⟩⟩
theorem wI.al(m:wI R){B:Hp}{D:Addr}{o:List V}{vs:List V}{xs:List α}(hB:B D=none)(h:Al (R (upd B D (.lst o))) vs xs):Al (R B) vs xs:=h.imp fun _ _ r=>m hB r
theorem wI.ls(m:wI R){B:Hp}{D:Addr}{o:List V}{v:V}{xs:List α}(hB:B D=none)(hv:v≠.ref D)(h:Ii R (upd B D (.lst o)) v xs):Ii R B v xs:=by
 obtain ⟨a,vs,rfl,h,l⟩:=h;have hn:a≠D:=fun z=>hv (by rw [z]);rw [aJ hn] at h;exact ⟨a,vs,rfl,h,m.al hB l⟩
end
noncomputable def zE:Hp->V->Int->Prop:=fun _ v i=>v=.int i
theorem jJ:Mo zE:=⟨fun _ h=>h⟩
theorem EZ:wI zE:=⟨fun _ h=>h⟩
noncomputable def qE(K:PySem.W.Frag):Hp->V->List Int->Prop:=fun H v t=>∃ a,v=.ref a/\fG K H a (t.map V.int)
theorem fH{K:PySem.W.Frag}:Mo (qE K):=⟨fun k ⟨a,e,h⟩=>⟨a,e,k.JS h⟩⟩
theorem E1{K:PySem.W.Frag}:wI (qE K):=by
 refine ⟨fun {B D o v x} hB ⟨a,e,h⟩=>⟨a,e,?_⟩⟩;rcases h with (h|⟨ob,h⟩)|h
 . have hn:a≠D:=by
    rintro rfl;rw [ao] at h;cases h
   rw [aJ hn] at h;exact .inl (.inl h)
 . have hn:a≠D:=by
    rintro rfl;rw [ao] at h;cases h
   rw [aJ hn] at h;exact .inl (.inr ⟨ob,h⟩)
 . exact .inr h
noncomputable def Fr(K:PySem.W.Frag):Hp->V->Rat->Prop:=fun H v q=>qE K H v [q.num,(q.den:Int)]
theorem aL{K:PySem.W.Frag}:Mo (Fr K):=⟨fun k h=>fH k h⟩
theorem kM{K:PySem.W.Frag}:wI (Fr K):=⟨fun hB h=>E1 hB h⟩
noncomputable def Pr(K:PySem.W.Frag):Hp->V->Int × Int->Prop:=fun H v q=>qE K H v [q.1,q.2]
theorem tH{K:PySem.W.Frag}:Mo (Pr K):=⟨fun k h=>fH k h⟩
theorem Mp{K:PySem.W.Frag}:wI (Pr K):=⟨fun hB h=>E1 hB h⟩
noncomputable abbrev IL:Hp->V->List Int->Prop:=Ii zE
theorem BP:∀ {vs:List V} {ns:List Int} {H:Hp},Al (zE H) vs ns->vs=ns.map V.int
 |_,_,_,.nil=>rfl
 |_,_,_,.cons r t=>by rw [List.map_cons,<-BP t,r]
theorem Gq{H:Hp}:∀ ns:List Int,Al (zE H) (ns.map V.int) ns
 |[]=>.nil
 |n::ns=>.cons rfl (Gq ns)
theorem IL.of{H:Hp}{a:Addr}{ns:List Int}(h:H a=some (.lst (ns.map V.int))):IL H (.ref a) ns:=⟨a,_,rfl,h,Gq ns⟩
theorem IL.at_{H:Hp}{v:V}{ns:List Int}(h:IL H v ns):∃ a,v=.ref a/\H a=some (.lst (ns.map V.int)):=by
 obtain ⟨a,vs,e,h,l⟩:=h;rw [BP l] at h;exact ⟨a,e,h⟩
theorem kN{α:Type}{R:Hp->V->α->Prop}(se:wI R){B H':Hp}{D:Addr}{o:List V}{v:V}{x:α}(hB:B D=none)(s:aH (upd B D (.lst o)) H')(r:R H' v x):∃ B',H'=upd B' D (.lst o)/\B' D=none/\aH B B'/\R B' v x:=by
 obtain ⟨B',rfl,h1,h2⟩:=cut hB s;exact ⟨B',rfl,h1,h2,se h1 r⟩
theorem JU{α:Type}{R:Hp->V->α->Prop}(se:wI R){B H':Hp}{D:Addr}{o:List V}{v:V}{x:List α}(hB:B D=none)(hv:∀ a,v=.ref a->(upd B D (.lst o)) a=none)(s:aH (upd B D (.lst o)) H')(r:Ii R H' v x) :
 ∃ B',H'=upd B' D (.lst o)/\B' D=none/\aH B B'/\Ii R B' v x:=by
 obtain ⟨B',rfl,h1,h2⟩:=cut hB s;refine ⟨B',rfl,h1,h2,se.ls h1 (fun z=>?_) r⟩;have:=hv D z;rw [ao] at this;cases this
theorem tK{K:PySem.W.Frag}{a:Addr}{xs:List V}{i j:Nat}{tb:TS}{D:Ends}{σ:L2.St}{H:Hp}(Pv:Nat->L2.St->Hp->Prop)(h0:Pv 0 σ H)(hl:∀ n σ H,n<=xs.length->Pv n σ H->aP K H a xs)
 (hs:∀ (n:Nat) x σ H T,xs[n]?=some x->Pv n σ H->H T=none->tb {D with nx:=Pv (n+1),ct:=Pv (n+1),bk:=D.nx} ((σ.set i (some (.int (n:Nat)))).set j (some x)) (upd H T (.tup [.int (n:Nat),x]))) (hd:∀ σ H,Pv xs.length σ H->D.nx σ H) :
 ∃ W:Nat->Nat->L2.St->Hp->Prop,(∃ m,W 0 m σ H)/\∀ n m σ H,W n m σ H->
  ((Og K a).stop n H/\D.nx σ H)\/((Og K a).go n H/\∃ N:L2.St->Hp->Prop,(∀ σ' H',N σ' H'->∃ m',m'<m/\W (n+1) m' σ' H')/\∀ x H',(Og K a).Ku n H x H'->AY K 2 (j5 (e9 i) (j5 (e9 j) Co)) x σ H' fun σ2 H2=>tb {D with nx:=N,ct:=N,bk:=D.nx} σ2 H2):=by
 refine ⟨fun i m σ H=>m=xs.length-i/\i<=xs.length/\Pv i σ H,⟨xs.length,by simp,Nat.zero_le _,h0⟩,?_⟩;rintro n m σ H ⟨rfl,hi,p⟩;have q:=hl n σ H hi p;by_cases hlt:n<xs.length
 . refine .inr ⟨⟨xs,xs[n],q,by simp [hlt]⟩,Pv (n+1),fun σ' H' p'=>⟨xs.length-(n+1),by omega,rfl,hlt,p'⟩,fun x H' y=>?_⟩;obtain ⟨T,x',rfl,hT,rfl,y⟩:=y;exact ⟨T,_,rfl,fG.of ao,rfl,_,_,rfl,_,_,rfl,rfl,hs n x' σ H T (y xs q) p hT⟩
 . have e:n=xs.length:=by omega
   subst e;exact .inl ⟨⟨xs,q,Nat.le_refl _⟩,hd σ H p⟩
theorem BQ{K:PySem.W.Frag}{a b:Addr}{xs ys:List V}{i j:Nat}{tb:TS}{D:Ends}{σ:L2.St}{H:Hp}(hxy:xs.length=ys.length)(Pv:Nat->L2.St->Hp->Prop)(h0:Pv 0 σ H)(hl:∀ n σ H,n<=xs.length->Pv n σ H->aP K H a xs/\aP K H b ys)
 (hs:∀ (n:Nat) x y σ H T,xs[n]?=some x->ys[n]?=some y->Pv n σ H->H T=none->tb {D with nx:=Pv (n+1),ct:=Pv (n+1),bk:=D.nx} ((σ.set i (some x)).set j (some y)) (upd H T (.tup [x,y]))) (hd:∀ σ H,Pv xs.length σ H->D.nx σ H) :
 ∃ W:Nat->Nat->L2.St->Hp->Prop,(∃ m,W 0 m σ H)/\∀ n m σ H,W n m σ H->
  ((Oh K a b).stop n H/\D.nx σ H)\/((Oh K a b).go n H/\∃ N:L2.St->Hp->Prop,(∀ σ' H',N σ' H'->∃ m',m'<m/\W (n+1) m' σ' H')/\∀ x H',(Oh K a b).Ku n H x H'->AY K 2 (j5 (e9 i) (j5 (e9 j) Co)) x σ H' fun σ2 H2=>tb {D with nx:=N,ct:=N,bk:=D.nx} σ2 H2):=by
 refine ⟨fun i m σ H=>m=xs.length-i/\i<=xs.length/\Pv i σ H,⟨xs.length,by simp,Nat.zero_le _,h0⟩,?_⟩;rintro n m σ H ⟨rfl,hi,p⟩;obtain ⟨q,q2⟩:=hl n σ H hi p;by_cases hlt:n<xs.length
 . have NI:n<ys.length:=by omega
   refine .inr ⟨⟨xs,ys,xs[n],ys[n],q,q2,by simp [hlt],by simp [NI]⟩,Pv (n+1),fun σ' H' p'=>⟨xs.length-(n+1),by omega,rfl,hlt,p'⟩,fun x H' y=>?_⟩;obtain ⟨T,x',y',rfl,hT,rfl,y1,y2⟩:=y;exact ⟨T,_,rfl,fG.of ao,rfl,_,_,rfl,_,_,rfl,rfl,hs n x' y' σ H T (y1 xs q) (y2 ys q2) p hT⟩
 . have e:n=xs.length:=by omega
   subst e;exact .inl ⟨⟨xs,ys,q,q2,.inl (Nat.le_refl _)⟩,hd σ H p⟩
noncomputable abbrev NJ(J:It)(g:TG)(tt:TT)(te:TE)(vs:List Nat)(σ:L2.St)(H1:Hp)(D:Addr)(Qd:Hp->Prop):Prop:=∃ W:Nat->Nat->Hp->Prop,(∃ m,W 0 m (upd H1 D (.lst [])))/\∀ i m H,W i m H->
 (J.stop i H/\Qd H)\/(J.go i H/\∃ Nx:Hp->Prop,(∀ H',Nx H'->∃ m',m'<m/\W (i+1) m' H')/\∀ x H',J.Ku i H x H'->g x (wipe σ vs) H' fun σ2 H2=>wipe σ2 vs=wipe σ vs/\tt σ2 H2 fun b H3=>
  if b=true then te σ2 H3 fun y H4=>∃ acc,H4 D=some (.lst acc)/\acc.length<sizeLine/\Nx (upd H4 D (.lst (acc++[y]))) else Nx H3)
theorem tL{α:Type}{R:Hp->V->α->Prop}(mo:Mo R){J:It}{zs:List α}{g:TG}{te:TE}{vs:List Nat}{σ:L2.St}{H1:Hp}{D:Addr}{Qd:Hp->Prop}(hD:H1 D=none)(hz:zs.length<sizeLine)
 (stop:∀ B ys,aH H1 B->B D=none->J.stop zs.length (upd B D (.lst ys)))
 (hs:∀ (i:Nat) z B ys,zs[i]?=some z->B D=none->aH H1 B->J.go i (upd B D (.lst ys))/\∀ x H',J.Ku i (upd B D (.lst ys)) x H'->g x (wipe σ vs) H' fun σ2 H2=>wipe σ2 vs=wipe σ vs/\
  ∀ Q:VK,(∀ y B',B' D=none->aH B B'->R B' y z->Q y (upd B' D (.lst ys)))->te σ2 H2 Q)
 (PK:∀ x σ H Q Q',(∀ σ H1,Q σ H1->Q' σ H1)->g x σ H Q->g x σ H Q')
 (hd:∀ B ys,aH H1 B->B D=none->Al (R B) ys zs->Qd (upd B D (.lst ys))):NJ J g A5 te vs σ H1 D Qd:=by
 refine ⟨fun i m H=>m=zs.length-i/\i<=zs.length/\∃ B ys,H=upd B D (.lst ys)/\B D=none/\aH H1 B/\Al (R B) ys (zs.take i),⟨zs.length,by simp,Nat.zero_le _,H1,[],rfl,hD,aH.refl _,.nil⟩,?_⟩;rintro i m H ⟨rfl,hi,B,ys,rfl,hB,s,al⟩;by_cases hlt:i<zs.length
 . obtain ⟨h1,h2⟩:=hs i zs[i] B ys (by simp [hlt]) hB s;refine .inr ⟨h1,fun H'=>∃ B ys,H'=upd B D (.lst ys)/\B D=none/\aH H1 B/\Al (R B) ys (zs.take (i+1)),fun H' p=>⟨zs.length-(i+1),by omega,rfl,hlt,p⟩,fun x H' y=>?_⟩;refine PK _ _ _ _ _ (fun σ2 H2 q=>⟨q.1,?_⟩) (h2 x H' y);show te σ2 H2 _;refine q.2 _ fun v B' jQ s' r=>?_;refine ⟨ys,ao,?_,B',ys++[v],c6,jQ,s.trans s',?_⟩
   . have:=al.length;rw [List.length_take] at this;omega
   . rw [take_snoc (show zs[i]?=some zs[i] by simp [hlt])];exact (mo.al (kp s') al).snoc r
 . have e:i=zs.length:=by omega
   subst e;rw [List.take_length] at al;exact .inl ⟨stop B ys s hB,hd B ys s hB al⟩
theorem Gr{σ:L2.St}{j:Nat}{x:V}:(wipe σ [j]).set j (some x)=σ.set j (some x)/\wipe (σ.set j (some x)) [j]=wipe σ [j]:=by
 constructor
 . show ((wipe σ []).set j none).set j (some x)=_;rw [List.set_set];rfl
 . show (σ.set j (some x)).set j none=σ.set j none;rw [List.set_set]
theorem AH{σ:L2.St}{i j:Nat}{x y:V}(h:i≠j):((wipe σ [i,j]).set i (some x)).set j (some y)=(σ.set i (some x)).set j (some y)/\wipe ((σ.set i (some x)).set j (some y)) [i,j]=wipe σ [i,j]:=by
 constructor
 . show ((((σ.set j none).set i none).set i (some x)).set j (some y))=_;rw [List.set_set,List.set_comm _ _ (Ne.symm h),List.set_set]
 . show ((((σ.set i (some x)).set j (some y)).set j none).set i none)=(σ.set j none).set i none;rw [List.set_set,List.set_comm _ _ (Ne.symm h),List.set_set,List.set_comm _ _ h,List.set_comm _ _ (Ne.symm h)]
theorem yy{j:Nat}:∀ (x:V) (σ:L2.St) (H:Hp) (Q Q':L2.St->Hp->Prop),(∀ σ H1,Q σ H1->Q' σ H1)->e9 j x σ H Q->e9 j x σ H Q':=fun _ _ _ _ _ h q=>h _ _ q
theorem rT{K:PySem.W.Frag}{i j:Nat}:∀ (x:V) (σ:L2.St) (H:Hp) (Q Q':L2.St->Hp->Prop),(∀ σ H1,Q σ H1->Q' σ H1)->AY K 2 (j5 (e9 i) (j5 (e9 j) Co)) x σ H Q->AY K 2 (j5 (e9 i) (j5 (e9 j) Co)) x σ H Q':=
 fun _ _ _ _ _ h ⟨a,xs,e1,e2,e3,v,r,e4,v2,r2,e5,e6,q⟩=>⟨a,xs,e1,e2,e3,v,r,e4,v2,r2,e5,e6,h _ _ q⟩
section
variable {α:Type}{R:Hp->V->α->Prop}{zs:List α}{te:TE}{σ:L2.St}{H1:Hp}{D:Addr}{Qd:Hp->Prop}{K:PySem.W.Frag}
theorem BR(mo:Mo R){a:Addr}{xs:List V}{j:Nat}(hD:H1 D=none)(hz:zs.length<sizeLine)(ha:aP K H1 a xs)(hl:xs.length=zs.length)
 (hs:∀ (i:Nat) x z B ys,xs[i]?=some x->zs[i]?=some z->B D=none->aH H1 B->∀ Q:VK,(∀ y B',B' D=none->aH B B'->R B' y z->Q y (upd B' D (.lst ys)))->te (σ.set j (some x)) (upd B D (.lst ys)) Q)
 (hd:∀ B ys,aH H1 B->B D=none->Al (R B) ys zs->Qd (upd B D (.lst ys))):NJ (MR K a) (e9 j) A5 te [j] σ H1 D Qd:=by
 have up:∀ B ys,aH H1 B->B D=none->aP K (upd B D (.lst ys)) a xs:=fun B ys s hB=>(kp (s.trans (ak hB))).JT ha;refine tL mo hD hz (fun B ys s hB=>⟨xs,up B ys s hB,by omega⟩) (fun i z B ys hi hB s=>?_) yy hd;have hlt:i<xs.length:=by have:=(List.getElem?_eq_some_iff.mp hi).1;omega
 refine ⟨⟨xs,xs[i],up B ys s hB,by simp [hlt]⟩,fun x H' y=>?_⟩;obtain ⟨rfl,y⟩:=y;show wipe ((wipe σ [j]).set j (some x)) [j]=wipe σ [j]/\∀ Q:VK,_->te ((wipe σ [j]).set j (some x)) _ Q;rw [Gr.1,Gr.2];exact ⟨rfl,hs i x z B ys (y xs (up B ys s hB)) hi hB s⟩
theorem Sm(mo:Mo R){lo:Int}{n j:Nat}(hD:H1 D=none)(hz:zs.length<sizeLine)(hl:n=zs.length)
 (hs:∀ (i:Nat) z B ys,zs[i]?=some z->B D=none->aH H1 B->∀ Q:VK,(∀ y B',B' D=none->aH B B'->R B' y z->Q y (upd B' D (.lst ys)))->te (σ.set j (some (.int (lo+i)))) (upd B D (.lst ys)) Q)
 (hd:∀ B ys,aH H1 B->B D=none->Al (R B) ys zs->Qd (upd B D (.lst ys))):NJ (Ie lo n) (e9 j) A5 te [j] σ H1 D Qd:=by
 refine tL mo hD hz (fun B ys s hB=>by show n<=zs.length;omega) (fun i z B ys hi hB s=>?_) yy hd;have hlt:i<zs.length:=(List.getElem?_eq_some_iff.mp hi).1;refine ⟨by show i<n;omega,fun x H' y=>?_⟩;obtain ⟨rfl,rfl⟩:=y;show wipe ((wipe σ [j]).set j (some _)) [j]=wipe σ [j]/\∀ Q:VK,_->te ((wipe σ [j]).set j (some _)) _ Q;rw [Gr.1,Gr.2];exact ⟨rfl,hs i z B ys hi hB s⟩
theorem HQ(mo:Mo R){a b:Addr}{xs ws:List V}{i j:Nat}(hij:i≠j)(hD:H1 D=none)(hz:zs.length<sizeLine)(ha:aP K H1 a xs)(hb:aP K H1 b ws)(hl:xs.length=zs.length)(hl2:ws.length=zs.length)
 (hs:∀ (n:Nat) x w z B ys T,xs[n]?=some x->ws[n]?=some w->zs[n]?=some z->B D=none->aH H1 B->upd B D (.lst ys) T=none->∀ Q:VK,(∀ y B',B' D=none->aH B B'->R B' y z->Q y (upd B' D (.lst ys)))->te ((σ.set i (some x)).set j (some w)) (upd (upd B D (.lst ys)) T (.tup [x,w])) Q)
 (hd:∀ B ys,aH H1 B->B D=none->Al (R B) ys zs->Qd (upd B D (.lst ys))):NJ (Oh K a b) (AY K 2 (j5 (e9 i) (j5 (e9 j) Co))) A5 te [i,j] σ H1 D Qd:=by
 have up:∀ B ys,aH H1 B->B D=none->aP K (upd B D (.lst ys)) a xs/\aP K (upd B D (.lst ys)) b ws:=fun B ys s hB=>⟨(kp (s.trans (ak hB))).JT ha,(kp (s.trans (ak hB))).JT hb⟩
 refine tL mo hD hz (fun B ys s hB=>⟨xs,ws,(up B ys s hB).1,(up B ys s hB).2,.inl (by omega)⟩) (fun n z B ys hi hB s=>?_) rT hd;have hlt:n<xs.length:=by have:=(List.getElem?_eq_some_iff.mp hi).1;omega
 have NI:n<ws.length:=by omega
 refine ⟨⟨xs,ws,xs[n],ws[n],(up B ys s hB).1,(up B ys s hB).2,by simp [hlt],by simp [NI]⟩,fun x H' y=>?_⟩;obtain ⟨T,x',y',rfl,hT,rfl,y1,y2⟩:=y;refine ⟨T,_,rfl,fG.of ao,rfl,_,_,rfl,_,_,rfl,rfl,?_⟩;show wipe (((wipe σ [i,j]).set i (some x')).set j (some y')) [i,j]=wipe σ [i,j]/\∀ Q:VK,_->te (((wipe σ [i,j]).set i (some x')).set j (some y')) _ Q;rw [(AH hij).1,(AH hij).2];exact ⟨rfl,hs n x' y' z B ys T (y1 xs (up B ys s hB).1) (y2 ws (up B ys s hB).2) hi hB s hT⟩
theorem Sn(mo:Mo R){a:Addr}{xs:List V}{i j:Nat}(hij:i≠j)(hD:H1 D=none)(hz:zs.length<sizeLine)(ha:aP K H1 a xs)(hl:xs.length=zs.length)
 (hs:∀ (n:Nat) x z B ys T,xs[n]?=some x->zs[n]?=some z->B D=none->aH H1 B->upd B D (.lst ys) T=none->∀ Q:VK,(∀ y B',B' D=none->aH B B'->R B' y z->Q y (upd B' D (.lst ys)))->te ((σ.set i (some (.int (n:Nat)))).set j (some x)) (upd (upd B D (.lst ys)) T (.tup [.int (n:Nat),x])) Q)
 (hd:∀ B ys,aH H1 B->B D=none->Al (R B) ys zs->Qd (upd B D (.lst ys))):NJ (Og K a) (AY K 2 (j5 (e9 i) (j5 (e9 j) Co))) A5 te [i,j] σ H1 D Qd:=by
 have up:∀ B ys,aH H1 B->B D=none->aP K (upd B D (.lst ys)) a xs:=fun B ys s hB=>(kp (s.trans (ak hB))).JT ha;refine tL mo hD hz (fun B ys s hB=>⟨xs,up B ys s hB,by omega⟩) (fun n z B ys hi hB s=>?_) rT hd;have hlt:n<xs.length:=by have:=(List.getElem?_eq_some_iff.mp hi).1;omega
 refine ⟨⟨xs,xs[n],up B ys s hB,by simp [hlt]⟩,fun x H' y=>?_⟩;obtain ⟨T,x',rfl,hT,rfl,y⟩:=y;refine ⟨T,_,rfl,fG.of ao,rfl,_,_,rfl,_,_,rfl,rfl,?_⟩;show wipe (((wipe σ [i,j]).set i (some _)).set j (some x')) [i,j]=wipe σ [i,j]/\∀ Q:VK,_->te (((wipe σ [i,j]).set i (some _)).set j (some x')) _ Q;rw [(AH hij).1,(AH hij).2];exact ⟨rfl,hs n x' z B ys T (y xs (up B ys s hB)) hi hB s hT⟩
end
end Pg
namespace Pg
open PySem PySem.Spec PyProof.Rows L2
section
variable {P:Program}{w:World}{K:PySem.W.Frag}{mg:Str->Option Value}{base:Heap}{A:dP}
theorem m9.fdiv{x y:Int}(h:m9 x):m9 (x.fdiv y):=Nat.lt_of_le_of_lt (natAbs_fdiv_le x y) h
theorem nT{p:Rat}(h:Ex.Sz M p):m9 p.num:=h.1
theorem mE{p:Rat}(h:Ex.Sz M p):m9 (p.den:Int):=h.2
theorem yz(x:Int):Builtin.Int.intBits x=Vagraa.bits x.natAbs:=by
 unfold Builtin.Int.intBits Vagraa.bits;by_cases h:x=0
 . subst h;rfl
 . rw [if_neg (by simpa using h),if_neg (by omega)]
noncomputable def d_(K:PySem.W.Frag)(A:dP):Sp:=fun vs H Q _=>∃ x y:Int,vs=[.int x,.int y]/\Q (.int (Ex.cd x y)) H
theorem tM(i:Int):(if i<0 then -i else i)=((i.natAbs:Nat):Int):=by split<;>omega
theorem tN(T:Txt K mg A)(D:Def K mg "common_divisor" i7 ["first","second"]) :Has P w K mg base "common_divisor" ["first","second"] 41 (d_ K A):=by
 refine D.has dh (fun vs H Q E h=>?_) (fun f cdv Ar outer s H vs Q E hr h=>?_)
 . obtain ⟨_,_,rfl,_⟩:=h;rfl
 . skip
   obtain ⟨x,y,rfl,k⟩:=h;refine ⟨_,(ah (aI (i:=2) dh.nd rfl (Or.inl rfl) (bu (oZ) (by rfl) T.Dl m_ (af (pv 0) ai)))
    (ah (aI (i:=3) dh.nd rfl (Or.inl rfl) (bu (oZ) (by rfl) T.Dl m_ (af (pv 1) ai)))
    (ah (sj PassesOwn.never (aC oY (pv 3) ay (aE _)) (ah (aI (i:=4) dh.nd rfl (Or.inl rfl) (bC IG (pv 2) (pv 3)))
    (ah (aI (i:=2) dh.nd rfl (Or.inl rfl) (pv 3))
    (au (aI (i:=3) dh.nd rfl (Or.inl rfl) (pv 4))))))
    (au (aA (pv 2)))))),?_⟩
   refine ⟨_,rfl,_,rfl,_,rfl,_,rfl,?_⟩;refine sr (fun σ H'=>H'=H/\∃ a b:Nat,∃ o,σ=[some (.int x),some (.int y),some (.int a),some (.int b),o]/\Nat.gcd a b=Nat.gcd x.natAbs y.natAbs)
    (fun σ _=>match σ with | [_,_,_,some (.int b),_]=>b.toNat|_=>0) ⟨rfl,x.natAbs,y.natAbs,none,by rw [tM,tM];rfl,rfl⟩ ?_ ?_
   . rintro σ H' ⟨rfl,a,b,o,rfl,e⟩;refine ⟨_,rfl,_,_,rfl,rfl,_,rfl,?_⟩;refine ny (fun hb=>?_) (fun hb=>?_)
     . have hb:0<b:=by simpa using hb
       refine ⟨_,rfl,_,rfl,_,_,rfl,rfl,(by omega),?_⟩;refine ⟨_,rfl,_,rfl,⟨rfl,b,a % b,_,rfl,?_⟩,?_⟩
       . rw [Nat.gcd_comm,<-Nat.gcd_rec,Nat.gcd_comm];exact e
       . show ((a:Int) % (b:Int)).toNat<((b:Int)).toNat;have:=Nat.mod_lt a hb;have h2:(a:Int) % (b:Int)=((a % b:Nat):Int):=rfl;rw [h2];omega
     . have hb:b=0:=by
        have:¬ (0:Int)<(b:Int):=by simpa using hb
        omega
       subst hb;refine ⟨_,rfl,?_⟩;have e2:((a:Nat):Int)=Ex.cd x y:=by
        unfold Ex.cd;rw [<-e,Nat.gcd_zero_right]
       rw [e2];exact k
   . rintro σ H' R R' hR ⟨v,e1,i,j,e2,e3,c,e4,q⟩;exact ⟨v,e1,i,j,e2,e3,c,e4,hR _ _ q⟩
noncomputable def ng(K:PySem.W.Frag)(A:dP):Sp:=fun vs H Q _=>∃ x y:Int,vs=[.int x,.int y]/\Q (.int (if Ex.iY x.natAbs y.natAbs<=4596 then Ex.cd x y else 0)) H
theorem u6(T:Txt K mg A)(D:Def K mg "quick_divisor" jD ["first","second"]) :Has P w K mg base "quick_divisor" ["first","second"] 41 (ng K A):=by
 refine D.has cI (fun vs H Q E h=>?_) (fun f cdv Ar outer s H vs Q E hr h=>?_)
 . obtain ⟨_,_,rfl,_⟩:=h;rfl
 . skip
   obtain ⟨x,y,rfl,k⟩:=h;refine ⟨_,(ah (aI (i:=2) cI.nd rfl (Or.inl rfl) (bu (oZ) (by rfl) T.Dl m_ (af (pv 0) ai)))
    (ah (aI (i:=3) cI.nd rfl (Or.inl rfl) (bu (oZ) (by rfl) T.Dl m_ (af (pv 1) ai)))
    (ah (aI (i:=4) cI.nd rfl (Or.inl rfl) ay)
    (ah (sj PassesOwn.never (aC oY (pv 3) ay (aE _)) (ah (aM (aC cU (pv 4) (aX T.uR) (aE _)) (au (aA ay))
    aF)
    (ah (aI (i:=5) cI.nd rfl (Or.inl rfl) (bC IG (pv 2) (pv 3)))
    (ah (aI (i:=2) cI.nd rfl (Or.inl rfl) (pv 3))
    (ah (aI (i:=3) cI.nd rfl (Or.inl rfl) (pv 5))
    (au (Iz (i:=4) cI.nd rfl (Or.inl rfl) ay IA)))))))
    (au (aA (pv 2))))))),?_⟩
   refine ⟨_,rfl,_,rfl,_,rfl,_,rfl,?_⟩;refine sr (fun σ H'=>H'=H/\∃ a b d:Nat,∃ o,σ=[some (.int x),some (.int y),some (.int a),some (.int b),some (.int d),o]/\Nat.gcd a b=Nat.gcd x.natAbs y.natAbs/\Ex.iY a b+d=Ex.iY x.natAbs y.natAbs/\d<=4596)
    (fun σ _=>match σ with | [_,_,_,some (.int b),_,_]=>b.toNat|_=>0) ⟨rfl,x.natAbs,y.natAbs,0,none,by rw [tM,tM];rfl,rfl,rfl,by decide⟩ ?_ ?_
   . rintro σ H' ⟨rfl,a,b,d,o,rfl,e,es,hd⟩;refine ⟨_,rfl,_,_,rfl,rfl,_,rfl,?_⟩;refine ny (fun hb=>?_) (fun hb=>?_)
     . have hb:0<b:=by simpa using hb
       have e1:=Ex.qX (a:=a) (b:=b) (by omega);refine ⟨_,rfl,rfl,_,rfl,?_⟩;refine ny (fun hq=>?_) (fun hq=>?_)
       . have hq:V.int (d:Int)=V.int 4596:=of_decide_eq_true hq;have hq:(d:Int)=4596:=by injection hq
         rw [if_neg (by omega)] at k;exact k
       . have hq:¬ (d:Int)=4596:=fun z=>hq (decide_eq_true (by rw [z]));refine ⟨_,rfl,_,rfl,_,_,rfl,rfl,(by omega),?_⟩;refine ⟨_,rfl,_,rfl,_,rfl,_,_,rfl,rfl,⟨rfl,b,a % b,d+1,_,rfl,?_,?_,?_⟩,?_⟩
         . rw [Nat.gcd_comm,<-Nat.gcd_rec,Nat.gcd_comm];exact e
         . omega
         . omega
         . show ((a:Int) % (b:Int)).toNat<((b:Int)).toNat;have:=Nat.mod_lt a hb;have h2:(a:Int) % (b:Int)=((a % b:Nat):Int):=rfl;rw [h2];omega
     . have hb:b=0:=by
        have:¬ (0:Int)<(b:Int):=by simpa using hb
        omega
       subst hb;rw [Ex.pD] at es;refine ⟨_,rfl,?_⟩;have e2:((a:Nat):Int)=Ex.cd x y:=by
        unfold Ex.cd;rw [<-e,Nat.gcd_zero_right]
       rw [e2];rw [if_pos (by omega)] at k;exact k
   . rintro σ H' R R' hR ⟨v,e1,i,j,e2,e3,c,e4,q⟩;exact ⟨v,e1,i,j,e2,e3,c,e4,hR _ _ q⟩
noncomputable def kO(t b d:Int):List Int:=if b<0 then [(-t).fdiv d,(-b).fdiv d] else [t.fdiv d,b.fdiv d]
noncomputable def nU(K:PySem.W.Frag)(A:dP):Sp:=fun vs H Q _=>∃ t b d:Int,vs=[.int t,.int b,.int d]/\d≠0/\∀ v H',aH H H'->qE K H' v (kO t b d)->Q v H'
theorem E2(T:Txt K mg A)(D:Def K mg "divided" uI ["top","bottom","divisor"]) :Has P w K mg base "divided" ["top","bottom","divisor"] 41 (nU K A):=by
 refine D.has EH (fun vs H Q E h=>?_) (fun f cdv Ar outer s H vs Q E hr h=>?_)
 . obtain ⟨_,_,_,rfl,_⟩:=h;rfl
 . skip
   obtain ⟨t,b,d,rfl,hd,k⟩:=h;refine ⟨_,(ah (aM (aC gX (pv 1) ay (aE _)) (au (aA (gq (af (bC (dB (dp hr (by decide))) (IE D5 (pv 0)) (pv 2)) (af (bC (dB (dp hr (by decide))) (IE D5 (pv 1)) (pv 2)) ai)))))
    aF)
    (au (aA (gq (af (bC (dB (dp hr (by decide))) (pv 0) (pv 2)) (af (bC (dB (dp hr (by decide))) (pv 1) (pv 2)) ai)))))),?_⟩
   refine ⟨_,rfl,_,_,rfl,rfl,_,rfl,?_⟩;refine ny (fun hb=>?_) (fun hb=>?_)
   . have hb:b<0:=of_decide_eq_true hb;refine ⟨_,rfl,_,rfl,_,rfl,_,_,rfl,rfl,hd,_,rfl,_,rfl,_,rfl,_,_,rfl,rfl,hd,(by show 2<=sizeLine;decide),fun p hp=>?_⟩;refine k _ _ (ak hp) ⟨p,rfl,fG.of ?_⟩;unfold kO;rw [if_pos hb];exact ao
   . have hb:¬ b<0:=fun z=>hb (decide_eq_true z);refine ⟨_,rfl,_,rfl,_,_,rfl,rfl,hd,_,rfl,_,rfl,_,_,rfl,rfl,hd,(by show 2<=sizeLine;decide),fun p hp=>?_⟩;refine k _ _ (ak hp) ⟨p,rfl,fG.of ?_⟩;unfold kO;rw [if_neg hb];exact ao
theorem vS{t b:Int}(hb:b≠0):kO t b (Ex.cd t b)=[((t:Rat) / (b:Rat)).num,(((t:Rat) / (b:Rat)).den:Int)]:=by
 unfold kO;by_cases h:b<0
 . obtain ⟨h1,h2⟩:=Ex.xF (a:=t) h;rw [if_pos h];unfold Ex.cd;rw [h1,h2]
 . obtain ⟨h1,h2⟩:=Ex.qY (a:=t) (b:=b) (by omega);rw [if_neg h];unfold Ex.cd;rw [h1,h2]
noncomputable def qA(K:PySem.W.Frag)(A:dP):Sp:=fun vs H Q _=>∃ t b:Int,vs=[.int t,.int b]/\b≠0/\∀ v H',aH H H'->Fr K H' v ((t:Rat) / (b:Rat))->Q v H'
theorem HR(T:Txt K mg A)(D:Def K mg "lowest" x6 ["top","bottom"])(gg:Has P w K mg base "divided" ["top","bottom","divisor"] 41 (nU K A))(bh:Has P w K mg base "common_divisor" ["first","second"] 41 (d_ K A)):Has P w K mg base "lowest" ["top","bottom"] 42 (qA K A):=by
 refine D.has HA (fun vs H Q E h=>?_) (fun f cdv Ar outer s H vs Q E hr h=>?_)
 . obtain ⟨_,_,rfl,_⟩:=h;rfl
 . skip
   obtain ⟨t,b,rfl,hb,k⟩:=h;refine ⟨_,(au (aA (aG gg (hr.mono (by decide)) rfl (af (pv 0) (af (pv 1) (af (aG bh (hr.mono (by decide)) rfl (af (pv 0) (af (pv 1) ai))) ai)))))),?_⟩;refine ⟨_,rfl,_,rfl,_,rfl,_,rfl,_,_,rfl,?_⟩;have hg:=Ex.fj (x:=t) hb;refine ⟨_,_,_,rfl,(by omega),fun v H' s h=>k v H' s ?_⟩;rw [vS hb] at h;exact h
theorem Ly{t b:Int}(hb:b≠0):Ex.wt ((t:Rat) / (b:Rat))=Vagraa.bits (t.natAbs / Nat.gcd t.natAbs b.natAbs)+Vagraa.bits (b.natAbs / Nat.gcd t.natAbs b.natAbs):=by
 have key:∀ t b:Int,0<b->Ex.wt ((t:Rat) / (b:Rat))=Vagraa.bits (t.natAbs / Nat.gcd t.natAbs b.natAbs)+Vagraa.bits (b.natAbs / Nat.gcd t.natAbs b.natAbs):=by
  intro t b hb;obtain ⟨h1,h2⟩:=Ex.vH (a:=t) hb;have h2':((t:Rat) / (b:Rat)).den=b.natAbs / Nat.gcd t.natAbs b.natAbs:=by
   have e:(b:Int)=((b.natAbs:Nat):Int):=by omega
   have:(((t:Rat) / (b:Rat)).den:Int)=((b.natAbs / Nat.gcd t.natAbs b.natAbs:Nat):Int):=by
    rw [h2];conv=>lhs;arg 1;rw [e]
    rfl
   exact_mod_cast this
  have GZ:((t:Rat) / (b:Rat)).num.natAbs=t.natAbs / Nat.gcd t.natAbs b.natAbs:=by
   rw [h1];exact Int.natAbs_ediv_of_dvd (Int.ofNat_dvd_left.mpr (Nat.gcd_dvd_left _ _))
  show Vagraa.bits ((t:Rat) / (b:Rat)).num.natAbs+Vagraa.bits ((t:Rat) / (b:Rat)).den=_;rw [GZ,h2']
 by_cases h:0<b
 . exact key t b h
 . have e:(t:Rat) / (b:Rat)=((-t:Int):Rat) / ((-b:Int):Rat):=by
    have:(b:Rat)≠0:=Ex.b_ hb;rw [Rat.intCast_neg,Rat.intCast_neg];grind
   have:=key (-t) (-b) (by omega);rw [Int.natAbs_neg,Int.natAbs_neg] at this;rw [e];exact this
noncomputable def jK(K:PySem.W.Frag)(A:dP):Sp:=fun vs H Q _=>∃ t b:Int,vs=[.int t,.int b]/\b≠0/\(∀ v H',aH H H'->Fr K H' v ((t:Rat) / (b:Rat))->Q v H')/\(6100<Ex.wt ((t:Rat) / (b:Rat))->Q .non H)
theorem wJ(T:Txt K mg A)(D:Def K mg "quick_lowest" kq ["top","bottom"])(jL:Has P w K mg base "quick_divisor" ["first","second"] 41 (ng K A))(gg:Has P w K mg base "divided" ["top","bottom","divisor"] 41 (nU K A)):Has P w K mg base "quick_lowest" ["top","bottom"] 42 (jK K A):=by
 refine D.has ou (fun vs H Q E h=>?_) (fun f cdv Ar outer s H vs Q E hr h=>?_)
 . obtain ⟨_,_,rfl,_⟩:=h;rfl
 . skip
   obtain ⟨t,b,rfl,hb,k,k2⟩:=h;refine ⟨_,(ah (aI (i:=2) ou.nd rfl (Or.inl rfl) (aG jL (hr.mono (by decide)) rfl (af (pv 0) (af (pv 1) ai))))
    (ah (aM (aC cU (pv 2) ay (aE _)) (au (aA bF))
    aF)
    (au (aA (aG gg (hr.mono (by decide)) rfl (af (pv 0) (af (pv 1) (af (pv 2) ai)))))))),?_⟩
   have hg:=Ex.fj (x:=t) hb;refine ⟨_,rfl,_,rfl,_,_,rfl,?_⟩;refine ⟨_,rfl,rfl,_,rfl,?_⟩;by_cases hs:Ex.iY t.natAbs b.natAbs<=4596
   . rw [if_pos hs];refine ny (fun hq=>?_) (fun hq=>?_)
     . have hq:V.int (Ex.cd t b)=V.int 0:=of_decide_eq_true hq;have hq:Ex.cd t b=0:=by injection hq
       omega
     . refine ⟨_,rfl,_,rfl,_,rfl,_,_,_,rfl,(by omega),fun v H' s h=>k v H' s ?_⟩;rw [vS hb] at h;exact h
   . rw [if_neg hs];refine ny (fun hq=>?_) (fun hq=>absurd (decide_eq_true rfl) hq);refine k2 ?_;rw [Ly hb];apply Classical.byContradiction;intro hn;exact hs (Ex.CQ (by omega) (by omega))
noncomputable def nh(K:PySem.W.Frag)(A:dP):Sp:=fun vs H Q _=>∃ (v:V) (q:Rat),vs=[v]/\Fr K H v q/\Q (.int (Ex.wt q:Nat)) H
theorem HS(T:Txt K mg A)(D:Def K mg "weight" x8 ["fraction"]) :Has P w K mg base "weight" ["fraction"] 41 (nh K A):=by
 refine D.has HB (fun vs H Q E h=>?_) (fun f cdv Ar outer s H vs Q E hr h=>?_)
 . obtain ⟨_,_,rfl,_⟩:=h;rfl
 . skip
   obtain ⟨v,q,rfl,⟨a,rfl,ha⟩,k⟩:=h;refine ⟨_,(au (aA (bC iU (Gk (bu (oZ) (by rfl) T.Dl m_ (af (aD (az (K:=K) rfl) (pv 0) ay (fun _ _=>rfl)) ai))) (Gk (aD (az (K:=K) rfl) (pv 0) ay (fun _ _=>rfl)))))),?_⟩;refine ⟨_,rfl,.inr ⟨_,_,_,_,rfl,rfl,ha,rfl,_,rfl,rfl,_,rfl,rfl,_,rfl,.inr ⟨_,_,_,_,rfl,rfl,ha,rfl,rfl,_,rfl,rfl,_,_,rfl,rfl,?_⟩⟩⟩;rw [tM,yz,yz];exact k
noncomputable def jz(K:PySem.W.Frag)(A:dP):Sp:=fun vs H Q _=>∃ (v:V) (q:Rat),vs=[v]/\Fr K H v q/\∀ v H',aH H H'->Fr K H' v (-q)->Q v H'
theorem DA(T:Txt K mg A)(D:Def K mg "negative" rG ["fraction"]) :Has P w K mg base "negative" ["fraction"] 41 (jz K A):=by
 refine D.has Dj (fun vs H Q E h=>?_) (fun f cdv Ar outer s H vs Q E hr h=>?_)
 . obtain ⟨_,_,rfl,_⟩:=h;rfl
 . skip
   obtain ⟨v,q,rfl,⟨a,rfl,ha⟩,k⟩:=h;refine ⟨_,(au (aA (gq (af (IE D5 (aD (az (K:=K) rfl) (pv 0) ay (fun _ _=>rfl))) (af (aD (az (K:=K) rfl) (pv 0) ay (fun _ _=>rfl)) ai))))),?_⟩;refine ⟨_,rfl,.inr ⟨_,_,_,_,rfl,rfl,ha,rfl,_,rfl,_,rfl,.inr ⟨_,_,_,_,rfl,rfl,ha,rfl,(by show 2<=sizeLine;decide),fun p hp=>?_⟩⟩⟩;exact k _ _ (ak hp) ⟨p,rfl,fG.of ao⟩
noncomputable def jY(K:PySem.W.Frag)(A:dP):Sp:=fun vs H Q _=>∃ (a b:V) (p q:Rat),vs=[a,b]/\Fr K H a p/\Fr K H b q/\Ex.Sz M p/\Ex.Sz M q/\∀ v H',aH H H'->Fr K H' v (p+q)->Q v H'
theorem Lz(T:Txt K mg A)(D:Def K mg "plus" EI ["first","second"])(bh:Has P w K mg base "common_divisor" ["first","second"] 41 (d_ K A)):Has P w K mg base "plus" ["first","second"] 42 (jY K A):=by
 refine D.has sY (fun vs H Q E h=>?_) (fun f cdv Ar outer s H vs Q E hr h=>?_)
 . obtain ⟨_,_,_,_,rfl,_⟩:=h;rfl
 . skip
   obtain ⟨a,b,p,q,rfl,⟨a,rfl,ha⟩,⟨b,rfl,hb⟩,zp,zq,k⟩:=h;refine ⟨_,(ah (aI (i:=2) sY.nd rfl (Or.inl rfl) (aG bh (hr.mono (by decide)) rfl (af (aD (az (K:=K) rfl) (pv 0) ay (fun _ _=>rfl)) (af (aD (az (K:=K) rfl) (pv 1) ay (fun _ _=>rfl)) ai))))
    (ah (aI (i:=3) sY.nd rfl (Or.inl rfl) (bC (dB (dp hr (by decide))) (aD (az (K:=K) rfl) (pv 0) ay (fun _ _=>rfl)) (pv 2)))
    (ah (aI (i:=4) sY.nd rfl (Or.inl rfl) (bC iU (bC cu (aD (az (K:=K) rfl) (pv 0) ay (fun _ _=>rfl)) (bC (dB (dp hr (by decide))) (aD (az (K:=K) rfl) (pv 1) ay (fun _ _=>rfl)) (pv 2))) (bC cu (aD (az (K:=K) rfl) (pv 1) ay (fun _ _=>rfl)) (pv 3))))
    (ah (aI (i:=5) sY.nd rfl (Or.inl rfl) (aG bh (hr.mono (by decide)) rfl (af (pv 4) (af (pv 2) ai))))
    (au (aA (gq (af (bC (dB (dp hr (by decide))) (pv 4) (pv 5)) (af (bC cu (pv 3) (bC (dB (dp hr (by decide))) (aD (az (K:=K) rfl) (pv 1) ay (fun _ _=>rfl)) (pv 5))) ai))))))))),?_⟩
   have hs:Ex.cd (p.den:Int) (q.den:Int)≠0:=by have:=Ex.fj (x:=(p.den:Int)) (Ex.kj q);omega
   refine ⟨_,rfl,.inr ⟨_,_,_,_,rfl,rfl,ha,rfl,_,rfl,.inr ⟨_,_,_,_,rfl,rfl,hb,rfl,_,_,rfl,?_⟩⟩⟩;refine ⟨_,rfl,.inr ⟨_,_,_,_,rfl,rfl,ha,rfl,_,rfl,_,_,rfl,rfl,hs,?_⟩⟩;refine ⟨_,rfl,.inr ⟨_,_,_,_,rfl,rfl,ha,rfl,_,rfl,.inr ⟨_,_,_,_,rfl,rfl,hb,rfl,_,rfl,_,_,rfl,rfl,hs,_,_,rfl,rfl,⟨nT zp,(mE zq).fdiv⟩,
    _,rfl,.inr ⟨_,_,_,_,rfl,rfl,hb,rfl,_,rfl,_,_,rfl,rfl,⟨nT zq,(mE zp).fdiv⟩,_,_,rfl,rfl,?_⟩⟩⟩⟩
   refine ⟨_,rfl,_,rfl,_,_,rfl,?_⟩;obtain ⟨f1,f2⟩:=Ex.Hh p q _ _ _ _ rfl rfl rfl rfl;have hl:=Ex.fj (x:=p.num*(q.den:Int).fdiv (Ex.cd p.den q.den)+q.num*(p.den:Int).fdiv (Ex.cd p.den q.den)) hs;refine ⟨_,rfl,_,rfl,_,_,rfl,rfl,(by omega),_,rfl,_,rfl,.inr ⟨_,_,_,_,rfl,rfl,hb,rfl,_,rfl,_,_,rfl,rfl,(by omega),_,_,rfl,rfl,⟨(mE zp).fdiv,(mE zq).fdiv⟩,
    (by show 2<=sizeLine;decide),fun r hr=>?_⟩⟩
   refine k _ _ (ak hr) ⟨r,rfl,fG.of ?_⟩;rw [<-f1,<-f2];exact ao
noncomputable def p6(K:PySem.W.Frag)(A:dP):Sp:=fun vs H Q _=>∃ (a b:V) (p q:Rat),vs=[a,b]/\Fr K H a p/\Fr K H b q/\Ex.Sz M p/\Ex.Sz M q/\∀ v H',aH H H'->Fr K H' v (p-q)->Q v H'
theorem JV(T:Txt K mg A)(D:Def K mg "minus" Bu ["first","second"])(dm:Has P w K mg base "plus" ["first","second"] 42 (jY K A))(dw:Has P w K mg base "negative" ["fraction"] 41 (jz K A)):Has P w K mg base "minus" ["first","second"] 43 (p6 K A):=by
 refine D.has JE (fun vs H Q E h=>?_) (fun f cdv Ar outer s H vs Q E hr h=>?_)
 . obtain ⟨_,_,_,_,rfl,_⟩:=h;rfl
 . skip
   obtain ⟨a,b,p,q,rfl,ha,hb,zp,zq,k⟩:=h;refine ⟨_,(au (aA (aG dm (hr.mono (by decide)) rfl (af (pv 0) (af (aG dw (hr.mono (by decide)) rfl (af (pv 1) ai)) ai))))),?_⟩;refine ⟨_,rfl,_,rfl,_,_,rfl,hb,fun v H1 s1 hv=>?_⟩;refine ⟨_,_,p,-q,rfl,aL (kp s1) ha,hv,zp,zq.neg,fun u H2 s2 hu=>k u H2 (s1.trans s2) ?_⟩;rw [Rat.sub_eq_add_neg];exact hu
noncomputable def iI(K:PySem.W.Frag)(A:dP):Sp:=fun vs H Q _=>∃ (a b:V) (p q:Rat),vs=[a,b]/\Fr K H a p/\Fr K H b q/\Ex.Sz M p/\Ex.Sz M q/\∀ v H',aH H H'->Fr K H' v (p*q)->Q v H'
theorem JW(T:Txt K mg A)(D:Def K mg "times" Bv ["first","second"])(bh:Has P w K mg base "common_divisor" ["first","second"] 41 (d_ K A)):Has P w K mg base "times" ["first","second"] 42 (iI K A):=by
 refine D.has x9 (fun vs H Q E h=>?_) (fun f cdv Ar outer s H vs Q E hr h=>?_)
 . obtain ⟨_,_,_,_,rfl,_⟩:=h;rfl
 . skip
   obtain ⟨a,b,p,q,rfl,⟨a,rfl,ha⟩,⟨b,rfl,hb⟩,zp,zq,k⟩:=h;refine ⟨_,(ah (aM (aC (Nb hr.units) (pv 0) (pv 1) (aE _)) (au (aA (gq (af (bC cu (aD (az (K:=K) rfl) (pv 0) ay (fun _ _=>rfl)) (aD (az (K:=K) rfl) (pv 0) ay (fun _ _=>rfl))) (af (bC cu (aD (az (K:=K) rfl) (pv 0) ay (fun _ _=>rfl)) (aD (az (K:=K) rfl) (pv 0) ay (fun _ _=>rfl))) ai)))))
    aF)
    (ah (aI (i:=2) x9.nd rfl (Or.inl rfl) (aG bh (hr.mono (by decide)) rfl (af (aD (az (K:=K) rfl) (pv 0) ay (fun _ _=>rfl)) (af (aD (az (K:=K) rfl) (pv 1) ay (fun _ _=>rfl)) ai))))
    (ah (aI (i:=3) x9.nd rfl (Or.inl rfl) (aG bh (hr.mono (by decide)) rfl (af (aD (az (K:=K) rfl) (pv 1) ay (fun _ _=>rfl)) (af (aD (az (K:=K) rfl) (pv 0) ay (fun _ _=>rfl)) ai))))
    (au (aA (gq (af (bC cu (bC (dB (dp hr (by decide))) (aD (az (K:=K) rfl) (pv 0) ay (fun _ _=>rfl)) (pv 2)) (bC (dB (dp hr (by decide))) (aD (az (K:=K) rfl) (pv 1) ay (fun _ _=>rfl)) (pv 3))) (af (bC cu (bC (dB (dp hr (by decide))) (aD (az (K:=K) rfl) (pv 0) ay (fun _ _=>rfl)) (pv 3)) (bC (dB (dp hr (by decide))) (aD (az (K:=K) rfl) (pv 1) ay (fun _ _=>rfl)) (pv 2))) ai)))))))),?_⟩
   refine ⟨_,rfl,_,rfl,_,_,.tup ha (.cons (.int _) (.cons (.int _) .nil)),.tup hb (.cons (.int _) (.cons (.int _) .nil)),rfl,rfl,_,rfl,?_⟩;refine ny (fun he=>?_) (fun _=>?_)
   . have he:p=q:=by
      have he:(p.num == q.num && ((p.den:Int) == (q.den:Int) && true))=true:=he;rw [Bool.and_eq_true,Bool.and_eq_true] at he;have h1:p.num=q.num:=eq_of_beq he.1;have h2:(p.den:Int)=(q.den:Int):=eq_of_beq he.2.1;exact Rat.ext h1 (by omega)
     subst he;obtain ⟨f1,f2⟩:=Ex.C6 p;refine ⟨_,rfl,.inr ⟨_,_,_,_,rfl,rfl,ha,rfl,_,rfl,.inr ⟨_,_,_,_,rfl,rfl,ha,rfl,_,_,rfl,rfl,⟨nT zp,nT zp⟩,
      _,rfl,.inr ⟨_,_,_,_,rfl,rfl,ha,rfl,_,rfl,.inr ⟨_,_,_,_,rfl,rfl,ha,rfl,_,_,rfl,rfl,⟨mE zp,mE zp⟩,(by show 2<=sizeLine;decide),fun r hr=>?_⟩⟩⟩⟩⟩
     refine k _ _ (ak hr) ⟨r,rfl,fG.of ?_⟩;rw [<-f1,<-f2];exact ao
   . obtain ⟨f1,f2⟩:=Ex.Ew p q;have h1:Ex.cd p.num (q.den:Int)≠0:=by have:=Ex.fj (x:=p.num) (Ex.kj q);omega
     have h2:Ex.cd q.num (p.den:Int)≠0:=by have:=Ex.fj (x:=q.num) (Ex.kj p);omega
     refine ⟨_,rfl,.inr ⟨_,_,_,_,rfl,rfl,ha,rfl,_,rfl,.inr ⟨_,_,_,_,rfl,rfl,hb,rfl,_,_,rfl,?_⟩⟩⟩;refine ⟨_,rfl,.inr ⟨_,_,_,_,rfl,rfl,hb,rfl,_,rfl,.inr ⟨_,_,_,_,rfl,rfl,ha,rfl,_,_,rfl,?_⟩⟩⟩;refine ⟨_,rfl,.inr ⟨_,_,_,_,rfl,rfl,ha,rfl,_,rfl,_,_,rfl,rfl,h1,_,rfl,.inr ⟨_,_,_,_,rfl,rfl,hb,rfl,_,rfl,_,_,rfl,rfl,h2,_,_,rfl,rfl,⟨(nT zp).fdiv,(nT zq).fdiv⟩,
      _,rfl,.inr ⟨_,_,_,_,rfl,rfl,ha,rfl,_,rfl,_,_,rfl,rfl,h2,_,rfl,.inr ⟨_,_,_,_,rfl,rfl,hb,rfl,_,rfl,_,_,rfl,rfl,h1,_,_,rfl,rfl,⟨(mE zp).fdiv,(mE zq).fdiv⟩,(by show 2<=sizeLine;decide),fun r hr=>?_⟩⟩⟩⟩⟩
     refine k _ _ (ak hr) ⟨r,rfl,fG.of ?_⟩;rw [<-f1,<-f2];exact ao
noncomputable def BS(K:PySem.W.Frag)(A:dP):Sp:=fun vs H Q _=>∃ (a b:V) (p q:Rat),vs=[a,b]/\Fr K H a p/\Fr K H b q/\Ex.Sz M p/\Ex.Sz M q/\q≠0/\∀ v H',aH H H'->Fr K H' v (p / q)->Q v H'
theorem LA(T:Txt K mg A)(D:Def K mg "over" EJ ["first","second"])(cR:Has P w K mg base "times" ["first","second"] 42 (iI K A))(gg:Has P w K mg base "divided" ["top","bottom","divisor"] 41 (nU K A)):Has P w K mg base "over" ["first","second"] 43 (BS K A):=by
 refine D.has Lo (fun vs H Q E h=>?_) (fun f cdv Ar outer s H vs Q E hr h=>?_)
 . obtain ⟨_,_,_,_,rfl,_⟩:=h;rfl
 . skip
   obtain ⟨a,b,p,q,rfl,hp,⟨b,rfl,hb⟩,zp,zq,hq,k⟩:=h;refine ⟨_,(au (aA (aG cR (hr.mono (by decide)) rfl (af (pv 0) (af (aG gg (hr.mono (by decide)) rfl (af (aD (az (K:=K) rfl) (pv 1) ay (fun _ _=>rfl)) (af (aD (az (K:=K) rfl) (pv 1) ay (fun _ _=>rfl)) (af ay ai)))) ai))))),?_⟩;refine ⟨_,rfl,_,rfl,.inr ⟨_,_,_,_,rfl,rfl,hb,rfl,_,rfl,.inr ⟨_,_,_,_,rfl,rfl,hb,rfl,_,_,_,rfl,(by decide),fun v H1 s1 hv=>?_⟩⟩⟩;have hv:Fr K H1 v q⁻¹:=by
    have e:kO (q.den:Int) q.num 1=[(q⁻¹).num,((q⁻¹).den:Int)]:=by
     obtain ⟨i1,i2⟩:=Ex.Jt hq;unfold kO;by_cases hn:q.num<0
     . rw [if_pos hn,(i1 hn).1,(i1 hn).2,Int.fdiv_one,Int.fdiv_one]
     . rw [if_neg hn];have:=i2 hn;rw [Int.fdiv_one,Int.fdiv_one];rw [<-this.1,<-this.2]
    rw [e] at hv;exact hv
   refine ⟨_,_,p,q⁻¹,rfl,aL (kp s1) hp,hv,zp,Ex.Sz.inv hq zq,fun u H2 s2 hu=>k u H2 (s1.trans s2) ?_⟩;rw [Rat.div_def];exact hu
noncomputable def yC(K:PySem.W.Frag)(A:dP):Sp:=fun vs H Q _=>∃ (a b:V) (p q:Rat),vs=[a,b]/\Fr K H a p/\Fr K H b q/\Ex.Sz M p/\Ex.Sz M q/\Q (.bl (decide (p<q))) H
theorem E3(T:Txt K mg A)(D:Def K mg "is_less" uJ ["first","second"]) :Has P w K mg base "is_less" ["first","second"] 41 (yC K A):=by
 refine D.has EK (fun vs H Q E h=>?_) (fun f cdv Ar outer s H vs Q E hr h=>?_)
 . obtain ⟨_,_,_,_,rfl,_⟩:=h;rfl
 . skip
   obtain ⟨a,b,p,q,rfl,⟨a,rfl,ha⟩,⟨b,rfl,hb⟩,zp,zq,k⟩:=h;refine ⟨_,(au (aA (gJ gX (bC cu (aD (az (K:=K) rfl) (pv 0) ay (fun _ _=>rfl)) (aD (az (K:=K) rfl) (pv 1) ay (fun _ _=>rfl))) (bC cu (aD (az (K:=K) rfl) (pv 1) ay (fun _ _=>rfl)) (aD (az (K:=K) rfl) (pv 0) ay (fun _ _=>rfl))) (aE _)))),?_⟩;refine ⟨_,rfl,.inr ⟨_,_,_,_,rfl,rfl,ha,rfl,_,rfl,.inr ⟨_,_,_,_,rfl,rfl,hb,rfl,_,_,rfl,rfl,⟨nT zp,mE zq⟩,
    _,rfl,.inr ⟨_,_,_,_,rfl,rfl,hb,rfl,_,rfl,.inr ⟨_,_,_,_,rfl,rfl,ha,rfl,_,_,rfl,rfl,⟨nT zq,mE zp⟩,_,_,rfl,rfl,?_⟩⟩⟩⟩⟩
   rw [<-decide_eq_decide.mpr (Ex.Lj p q)] at k;exact k
noncomputable def yD(K:PySem.W.Frag)(A:dP):Sp:=fun vs H Q _=>∃ (a:V) (p:Rat) (b:Nat),vs=[a,.int ((2 ^ b:Nat):Int)]/\Fr K H a p/\Ex.Sz 2000 p/\b<=200/\∀ v H',aH H H'->Fr K H' v (Ex.cV b p)->Q v H'
theorem NK(b:Nat)(h:b<=200):Ex.Bd 201 ((2 ^ b:Nat):Int):=by
 show 2 ^ b<2 ^ 201;exact Nat.pow_lt_pow_right (by decide) (by omega)
theorem E4(T:Txt K mg A)(D:Def K mg "nearest" uK ["fraction","bottom"])(iJ:Has P w K mg base "lowest" ["top","bottom"] 42 (qA K A)):Has P w K mg base "nearest" ["fraction","bottom"] 43 (yD K A):=by
 refine D.has EL (fun vs H Q E h=>?_) (fun f cdv Ar outer s H vs Q E hr h=>?_)
 . obtain ⟨_,_,_,rfl,_⟩:=h;rfl
 . skip
   obtain ⟨a,p,b,rfl,⟨a,rfl,ha⟩,zp,hb,k⟩:=h;refine ⟨_,(au (aA (aG iJ (hr.mono (by decide)) rfl (af (bC (dB (dp hr (by decide))) (bC iU (bC cu (bC cu ay (aD (az (K:=K) rfl) (pv 0) ay (fun _ _=>rfl))) (pv 1)) (aD (az (K:=K) rfl) (pv 0) ay (fun _ _=>rfl))) (bC cu ay (aD (az (K:=K) rfl) (pv 0) ay (fun _ _=>rfl)))) (af (pv 1) ai))))),?_⟩;have z1:Ex.Bd 2002 (2*p.num):=by
    show (2*p.num).natAbs<2 ^ 2002;rw [Int.natAbs_mul];exact Ex.cX (a:=2) (b:=2000) (by decide) zp.1
   have h2:m9 2:=m9.of (b:=2) (by show 2<2 ^ 2;decide) (by decide);refine ⟨_,rfl,.inr ⟨_,_,_,_,rfl,rfl,ha,rfl,_,_,rfl,rfl,⟨h2,m9.of (b:=2000) zp.1 (by decide)⟩,_,rfl,_,_,rfl,rfl,⟨m9.of z1 (by decide),m9.of (NK b hb) (by decide)⟩,
    _,rfl,.inr ⟨_,_,_,_,rfl,rfl,ha,rfl,_,_,rfl,rfl,_,rfl,.inr ⟨_,_,_,_,rfl,rfl,ha,rfl,_,_,rfl,rfl,⟨h2,m9.of (b:=2000) zp.2 (by decide)⟩,_,_,rfl,rfl,(by have:=Ex.Bp p;omega),_,rfl,_,_,rfl,?_⟩⟩⟩⟩
   have hp:0<2 ^ b:=Nat.two_pow_pos b;refine ⟨(by omega),fun v H' s hv=>k v H' s ?_⟩;rw [Ex.Ey] at hv;unfold Ex.cV;rw [Rat.mkRat_eq_div];exact hv
noncomputable abbrev FL(K:PySem.W.Frag):Hp->V->List Rat->Prop:=Ii (Fr K)
noncomputable def eE(K:PySem.W.Frag)(A:dP):Sp:=fun vs H Q _=>∃ (v:V) (qs:List Rat) (n:Nat),vs=[v]/\FL K H v qs/\(∀ q,q∈qs->Ex.Sz n q)/\(n+n+1)*qs.length+1<=67108864/\∀ v H',aH H H'->Fr K H' v (Ex.oO qs)->Q v H'
theorem tO(T:Txt K mg A)(D:Def K mg "sum_of_squares" i8 ["fractions"])(dm:Has P w K mg base "plus" ["first","second"] 42 (jY K A))(cR:Has P w K mg base "times" ["first","second"] 42 (iI K A)):Has P w K mg base "sum_of_squares" ["fractions"] 43 (eE K A):=by
 refine D.has fO (fun vs H Q E h=>?_) (fun f cdv Ar outer s H vs Q E hr h=>?_)
 . obtain ⟨_,_,_,rfl,_⟩:=h;rfl
 . skip
   obtain ⟨v,qs,n,rfl,⟨a,vs,rfl,ha,al⟩,hz,hn,k⟩:=h;refine ⟨_,(ah (aI (i:=1) fO.nd rfl (Or.inl rfl) (oz T.ye))
    (ah (eX PassesOwn.never rfl (eW (pv 0)) (aN (i:=2) fO.nd rfl (Or.inl rfl))
    (au (aI (i:=1) fO.nd rfl (Or.inl rfl) (aG dm (hr.mono (by decide)) rfl (af (pv 1) (af (aG cR (hr.mono (by decide)) rfl (af (pv 2) (af (pv 2) ai))) ai))))))
    (au (aA (pv 1))))),?_⟩
   refine ⟨_,rfl,a,rfl,⟨_,aP.of ha⟩,mT (K:=K) (a:=a) (xs:=vs) (fun i σ H'=>∃ o t,σ=[some (.ref a),some t,o]/\aH H H'/\Fr K H' t (Ex.oO (qs.take i))/\Ex.Sz ((n+n+1)*i+1) (Ex.oO (qs.take i)))
    ⟨none,_,rfl,aH.refl _,⟨A.JG,rfl,T.yg H⟩,Ex.Sz.zero _ (by omega)⟩ (fun i σ H' _ ⟨_,_,_,s,_⟩=>aP.of ((kp s).lst ha)) ?_ ?_⟩
   . rintro i x σ H' hi ⟨o,t,rfl,s,ht,zt⟩;obtain ⟨q,hq,rq⟩:=al.get hi;have rq:=aL (kp s) rq;have hlt:i<qs.length:=(List.getElem?_eq_some_iff.mp hq).1;have zq:=hz q (List.mem_of_getElem? hq);have l1:(n+n+1)*i+1<=67108864:=Nat.le_trans (Nat.succ_le_succ (Nat.mul_le_mul_left _ (Nat.le_of_lt hlt))) hn;have l2:n<=67108864:=by
      have:(n+n+1)*1<=(n+n+1)*qs.length:=Nat.mul_le_mul_left _ (by omega);omega
     have e:Ex.oO (qs.take (i+1))=Ex.oO (qs.take i)+q*q:=by
      unfold Ex.oO;rw [take_snoc hq,List.map_append,List.foldl_append];rfl
     have l3:n+n<=67108864:=by
      have:(n+n+1)*1<=(n+n+1)*qs.length:=Nat.mul_le_mul_left _ (by omega);omega
     refine ⟨_,rfl,_,rfl,_,rfl,_,_,q,q,rfl,rq,rq,zq.mono (gu l2),zq.mono (gu l2),fun u H2 s2 hu=>?_⟩;refine ⟨_,_,_,_,rfl,aL (kp s2) ht,hu,zt.mono (gu l1),(zq.mul zq).mono (gu l3),fun u' H3 s3 Gp=>?_⟩;refine ⟨_,_,rfl,(s.trans s2).trans s3,by rw [e];exact Gp,?_⟩;rw [e];exact (zt.add (zq.mul zq)).mono (by rw [Nat.mul_add];omega)
   . rintro σ H' ⟨o,t,rfl,s,ht,zt⟩;rw [al.length,List.take_length] at ht;exact ⟨_,rfl,k _ _ s ht⟩
end
end Pg
namespace Pg
open PySem PySem.Spec PyProof.Rows L2
section
variable {P:Program}{w:World}{K:PySem.W.Frag}{mg:Str->Option Value}{base:Heap}{A:dP}
noncomputable def Cg{α:Type}(R:Hp->V->α->Prop)(H:Hp)(v:V)(o:Option α):Prop:=match o with
 |none=>v=.non
 |some x=>R H v x
theorem mF{α:Type}{R:Hp->V->α->Prop}(m:Mo R):Mo (Cg R):=by
 refine ⟨fun {H H' v x} k h=>?_⟩;cases x with
 |none=>exact h
 |some x=>exact m k h
theorem gQ{ns:List Int}{i:Nat}{z:Int}(h:ns[i]?=some z):(ns.map V.int)[i]?=some (.int z):=by rw [List.getElem?_map,h];rfl
theorem NL{n:Nat}(h:n<=1000000):m9 (n:Int):=m9.of (b:=20) (by show n<2 ^ 20;omega) (by decide)
noncomputable def fQ(K:PySem.W.Frag)(A:dP):Sp:=fun vs H Q _=>∃ (v:V) (ns:List Int) (n:Nat),vs=[v,.int n]/\IL H v ns/\n<=4/\∀ u H',aH H H'->Cg (FL K) H' u (Ex.cY n ns)->Q u H'
theorem tP(T:Txt K mg A)(D:Def K mg "read_fractions" i9 ["numbers","many"])(iJ:Has P w K mg base "lowest" ["top","bottom"] 42 (qA K A)):Has P w K mg base "read_fractions" ["numbers","many"] 43 (fQ K A):=by
 refine D.has iA (fun vs H Q E h=>?_) (fun f cdv Ar outer s H vs Q E hr h=>?_)
 . obtain ⟨_,_,_,rfl,_⟩:=h;rfl
 . skip
   obtain ⟨v,ns,n,rfl,hv,hn,k⟩:=h;obtain ⟨a,rfl,ha⟩:=hv.at_;refine ⟨_,(ah (aM (aC lA (bu (aY) (by rfl) T.gF bU (af (pv 0) ai)) (bC cu ay (pv 1)) (aE _)) (au (aA bF))
    aF)
    (ah (aI (i:=2) iA.nd rfl (Or.inl rfl) (aR ai))
    (ah (eX PassesOwn.never rfl (f_ rfl T.jr (af (pv 1) ai)) (aN (i:=3) iA.nd rfl (Or.inl rfl))
    (ah (aM (aC gX (aD (az (K:=K) rfl) (pv 0) (bC iU (bC cu ay (pv 3)) ay) (fun _ _=>rfl)) ay (aE _)) (au (aA bF))
    aF)
    (au (dD (lB PySem.F.plainAttrs_list PySem.F.slot_list_append PySem.F.type_list_append dX (pv 2) (af (aG iJ (hr.mono (by decide)) rfl (af (aD (az (K:=K) rfl) (pv 0) (bC cu ay (pv 3)) (fun _ _=>rfl)) (af (aD (az (K:=K) rfl) (pv 0) (bC iU (bC cu ay (pv 3)) ay) (fun _ _=>rfl)) ai))) ai))))))
    (au (aA (pv 2)))))),?_⟩
   have h2:m9 2:=NL (n:=2) (by decide);refine ⟨_,rfl,_,_,rfl,.inl (aP.of ha),_,rfl,_,_,rfl,rfl,⟨h2,NL (by omega)⟩,rfl,_,rfl,?_⟩;rw [List.length_map];refine ny (fun hq=>?_) (fun hq=>?_)
   . have hq:¬ ns.length=2*n:=by
      intro z;rw [z] at hq;simp at hq
     refine k _ _ (aH.refl _) ?_;rw [Ex.Hj hq];rfl
   . have hq:ns.length=2*n:=by
      apply Classical.byContradiction;intro z;apply hq;have:¬ V.int (ns.length:Int)=V.int (2*(n:Int)):=fun e=>z (by injection e;omega);rw [decide_eq_false this];rfl
     rw [Ex.Hi hq] at k;refine ⟨Nat.zero_le _,fun l hl=>?_⟩;refine ⟨_,rfl,_,rfl,(by omega),(by omega),um (lo:=0) (n:=(n:Int).toNat) (fun i σ H'=>∃ o B vs done,σ=[some (.ref a),some (.int n),some (.ref l),o]/\H'=upd B l (.lst vs)/\B l=none/\aH H B/\Al (Fr K B) vs done/\done.length=i/\Ex.eK ns=(Ex.eK (ns.drop (2*i))).map fun t=>done++t)
      ⟨none,H,[],[],rfl,rfl,hl,aH.refl _,.nil,rfl,?_⟩ ?_ ?_⟩
     . show Ex.eK ns=(Ex.eK ns).map fun t=>t;rw [Option.map_id']
     . rintro i σ H' hi ⟨o,B,vs,done,rfl,rfl,hB,s,al,hd,e⟩;have hi:i<n:=by omega
       have s1:=s.trans (ak (o:=.lst vs) hB);have ha1:=(kp s1).lst ha;obtain ⟨x,hx⟩:∃ x,ns[2*i]?=some x:=⟨_,List.getElem?_eq_getElem (by omega)⟩
       obtain ⟨y,hy⟩:∃ y,ns[2*i+1]?=some y:=⟨_,List.getElem?_eq_getElem (by omega)⟩
       have ef:=Ex.Jv hx hy;have bi:m9 (0+(i:Int)):=by rw [Int.zero_add];exact NL (by omega)
       refine ⟨_,rfl,_,rfl,_,_,rfl,rfl,⟨h2,bi⟩,_,_,rfl,rfl,.inl ⟨_,_,_,_,rfl,rfl,aP.of ha1,at_of (j:=2*i+1) (by omega) (gQ hy),_,_,rfl,rfl,_,rfl,?_⟩⟩;refine ny (fun hq=>?_) (fun hq=>?_)
       . have hq:y<1:=of_decide_eq_true hq;refine k _ _ s1 ?_;rw [e,ef,if_pos hq];rfl
       . have hq:¬ y<1:=fun z=>hq (decide_eq_true z);rw [if_neg hq] at ef;refine ⟨_,rfl,.inl ⟨rfl,_,aP.of ao⟩,_,rfl,_,rfl,_,_,rfl,rfl,⟨h2,bi⟩,.inl ⟨_,_,_,_,rfl,rfl,aP.of ha1,at_of (j:=2*i) (by omega) (gQ hx),
          _,rfl,_,rfl,_,_,rfl,rfl,⟨h2,bi⟩,_,_,rfl,rfl,.inl ⟨_,_,_,_,rfl,rfl,aP.of ha1,at_of (j:=2*i+1) (by omega) (gQ hy),_,_,rfl,(by omega),fun u H2 s2 hu=>?_⟩⟩⟩
         obtain ⟨B',rfl,jQ,s',Gp⟩:=kN kM hB s2 hu;refine ⟨_,_,_,rfl,rfl,ao,?_,?_⟩
         . rw [al.length,hd];exact Nat.lt_of_lt_of_le (by omega:i<4) (by decide)
         . refine ⟨_,B',vs++[u],done++[mkRat x y.toNat],rfl,c6,jQ,s.trans s',(aL.al (kp s') al).snoc ?_,?_,?_⟩
           . rw [Ex.ko x (by omega)] at Gp;exact Gp
           . rw [List.length_append,hd];rfl
           . rw [e,ef,Option.map_map];congr 1;funext t;show done++(_::t)=done++[_]++t;rw [List.append_assoc];rfl
     . rintro σ H' ⟨o,B,vs,done,rfl,rfl,hB,s,al,hd,e⟩;refine ⟨_,rfl,k _ _ (s.trans (ak hB)) ?_⟩;rw [e,List.drop_eq_nil_of_le (by omega)];show FL K _ _ (done++[]);rw [List.append_nil];exact ⟨l,vs,rfl,ao,aL.al (aS hB) al⟩
theorem all_min{l:List Int}{m:Int}(h1:m∈l)(h2:∀ y,y∈l->m<=y):decide (0<=m)=l.all fun x=>decide (0<=x):=by
 by_cases h:0<=m
 . rw [decide_eq_true h];symm;rw [List.all_eq_true];intro x hx;exact decide_eq_true (Int.le_trans h (h2 x hx))
 . rw [decide_eq_false h];symm;apply Bool.eq_false_iff.mpr;intro z;rw [List.all_eq_true] at z;exact h (of_decide_eq_true (z m h1))
theorem PM(xs:List V)(h:1<=xs.length):qC xs (some 1) none=xs.drop 1:=by
 unfold qC;have e:HT.iP xs.length 0 (some 1)=1:=by
  have:=HT.qo xs.length 0 1;rw [show ((1:Nat):Int)=1 from rfl] at this;rw [this];omega
 rw [e,HT.Ct];rw [List.take_of_length_le (by rw [List.length_drop];omega)]
theorem DB{xs:List V}{i n:Nat}(h:i<=xs.length):qC xs (some (i:Int)) (some ((i:Int)+(n:Int)))=(xs.drop i).take n:=by
 unfold qC;have e:HT.iP xs.length 0 (some (i:Int))=i:=by rw [HT.qo];omega
 have e2:HT.iP xs.length xs.length (some ((i:Int)+(n:Int)))=min (i+n) xs.length:=by
  rw [show ((i:Int)+(n:Int))=((i+n:Nat):Int) by omega,HT.qo]
 rw [e,e2];rw [List.take_eq_take_iff];rw [List.length_drop];omega
noncomputable def p7(K:PySem.W.Frag)(A:dP):Sp:=fun vs H Q _=>∃ (v:V) (t:List Int),vs=[v]/\qE K H v t/\2<=t.length/\(t.getD 0 0=1->3<=t.length)/\∀ H',aH H H'->Q (.bl (Ex.fits t)) H'
theorem yE(T:Txt K mg A)(D:Def K mg "numbers_fit" lZ ["line"]) :Has P w K mg base "numbers_fit" ["line"] 41 (p7 K A):=by
 refine D.has x_ (fun vs H Q E h=>?_) (fun f cdv Ar outer s H vs Q E hr h=>?_)
 . obtain ⟨_,_,rfl,_⟩:=h;rfl
 . skip
   obtain ⟨v,t,rfl,⟨a,rfl,ha⟩,hl,h3,k⟩:=h;refine ⟨_,(ah (aM (aC cU (aD (az (K:=K) rfl) (pv 0) ay (fun _ _=>rfl)) (aX T.nR) (aE _)) (au (aA (gJ vz (aD (az (K:=K) rfl) (pv 0) ay (fun _ _=>rfl)) ay (aE _))))
    aF)
    (au (aA (gJ vz (bu (Gm rfl) (by rfl) T.Mm AF (af (mV (u5 (K:=K) rfl) (pv 0) (jR ay) A2) ai)) ay (aE _))))),?_⟩
   obtain ⟨k0,h0⟩:∃ z,t[0]?=some z:=⟨_,List.getElem?_eq_getElem (by omega)⟩
   have e0:t.getD 0 0=k0:=by rw [List.getD_eq_getElem?_getD,h0];rfl
   refine ⟨_,rfl,.inr ⟨_,_,_,_,rfl,rfl,ha,at_of (j:=0) rfl (gQ h0),rfl,_,rfl,?_⟩⟩;refine ny (fun hq=>?_) (fun hq=>?_)
   . have hq:V.int k0=V.int 1:=of_decide_eq_true hq;have hq:k0=1:=by injection hq
     obtain ⟨z,hz⟩:∃ z,t[2]?=some z:=⟨_,List.getElem?_eq_getElem (by have:=h3 (by rw [e0,hq]);omega)⟩
     refine ⟨_,rfl,.inr ⟨_,_,_,_,rfl,rfl,ha,at_of (j:=2) rfl (gQ hz),_,_,rfl,rfl,?_⟩⟩;have e:Ex.fits t=decide (1<=z):=by
      unfold Ex.fits;rw [e0,if_pos hq,List.getD_eq_getElem?_getD,hz];rfl
     have kk:=k _ (aH.refl _);rw [e] at kk;exact kk
   . have hq:¬ k0=1:=fun z=>hq (decide_eq_true (by rw [z]));refine ⟨_,rfl,_,rfl,.inr ⟨_,_,rfl,ha,?_,fun p hp=>?_⟩⟩
     . intro z;have e:HT.iP (t.map V.int).length 0 (some 1)=1:=by
        have:=HT.qo (t.map V.int).length 0 1;rw [show ((1:Nat):Int)=1 from rfl] at this;rw [this,List.length_map];omega
       rw [e] at z;omega
     . refine ⟨_,t.drop 1,rfl,.inr (fG.of ?_),?_,fun m h1 h2=>?_⟩
       . rw [PM _ (by rw [List.length_map];omega),List.map_drop];exact ao
       . rw [List.length_drop];omega
       . refine ⟨_,_,rfl,rfl,?_⟩;have e:Ex.fits t=decide (0<=m):=by
          unfold Ex.fits;rw [e0,if_neg hq,all_min h1 h2]
         have kk:=k _ (ak (o:=.tup (qC (t.map V.int) (some 1) none)) hp);rw [e] at kk;exact kk
noncomputable def tQ(K:PySem.W.Frag)(A:dP):Sp:=fun vs H Q _=>∃ (v:V) (ns:List Int) (i:Nat),vs=[v,.int i]/\IL H v ns/\i<ns.length/\∀ u H',aH H H'->Cg (qE K) H' u (Ex.di (ns.drop i))->Q u H'
theorem yF{k:Int}(h:¬ (k<0\/7<=k)):Mf ([.int 2,.int 3,.int 3,.int 3,.int 3,.int 3,.int 2]:List V) k=some (.int (Ex.lenOf k:Nat)):=by
 have:k=0\/k=1\/k=2\/k=3\/k=4\/k=5\/k=6:=by omega
 rcases this with rfl|rfl|rfl|rfl|rfl|rfl|rfl<;>rfl
theorem BU(T:Txt K mg A)(D:Def K mg "read_line" pQ ["numbers","place"])(mG:Has P w K mg base "numbers_fit" ["line"] 41 (p7 K A)):Has P w K mg base "read_line" ["numbers","place"] 42 (tQ K A):=by
 refine D.has nH (fun vs H Q E h=>?_) (fun f cdv Ar outer s H vs Q E hr h=>?_)
 . obtain ⟨_,_,_,rfl,_⟩:=h;rfl
 . skip
   obtain ⟨v,ns,i,rfl,hv,hi,k⟩:=h;obtain ⟨a,rfl,ha⟩:=hv.at_;obtain ⟨z,hz⟩:∃ z,ns[i]?=some z:=⟨_,List.getElem?_eq_getElem hi⟩
   rw [Ex.Hl hz] at k;refine ⟨_,(ah (aI (i:=2) nH.nd rfl (Or.inl rfl) (aD (az (K:=K) rfl) (pv 0) (pv 1) (fun _ _=>rfl)))
    (ah (aM (PW.pt (ju (aC gX (pv 2) ay (aE _)) (ig (aC vz (pv 2) (bu (aY) (by rfl) T.gF bU (af (oz T.m7) ai)) (aE _))))) (au (aA bF))
    aF)
    (ah (aI (i:=3) nH.nd rfl (Or.inl rfl) (uq y_ (by rfl) T.Lp Dz (af (mV (u5 (K:=K) rfl) (pv 0) (jR (pv 1)) (jR (bC iU (pv 1) (aD (az (K:=K) rfl) (oz T.m7) (pv 2) (fun _ _=>rfl))))) ai)))
    (ah (aM (PW.pt (ju (aC gX (bu (aY) (by rfl) T.gF bU (af (pv 3) ai)) (aD (az (K:=K) rfl) (oz T.m7) (pv 2) (fun _ _=>rfl)) (aE _)) (ig (lU (jB (aG mG (hr.mono (by decide)) rfl (af (pv 3) ai))))))) (au (aA bF))
    aF)
    (au (aA (pv 3))))))),?_⟩
   have QM:fG K H A.Bx [.int 2,.int 3,.int 3,.int 3,.int 3,.int 3,.int 2]:=T.uS H;refine ⟨_,rfl,_,rfl,.inl ⟨_,_,_,_,rfl,rfl,aP.of ha,at_of (j:=i) rfl (gQ hz),?_⟩⟩;refine ⟨_,rfl,_,_,rfl,rfl,_,rfl,?_⟩;by_cases hk:z<0\/7<=z
   . rw [if_pos hk] at k;have fin:=k .non H (aH.refl _) rfl;refine ny (fun hq=>aW fin) (fun hq=>?_);have hq:¬ z<0:=fun e=>hq (decide_eq_true e);refine ⟨_,rfl,_,_,rfl,.inr QM,_,_,rfl,rfl,_,rfl,?_⟩;have e:decide (((List.length ([.int 2,.int 3,.int 3,.int 3,.int 3,.int 3,.int 2]:List V)):Int)<=z)=true:=decide_eq_true (by show (7:Int)<=z;omega);rw [e];exact aW fin
   . rw [if_neg hk] at k;have e0:decide (z<0)=false:=decide_eq_false (by omega);rw [e0];refine aQ ⟨_,rfl,_,_,rfl,.inr QM,_,_,rfl,rfl,_,rfl,?_⟩;have e1:decide (((List.length ([.int 2,.int 3,.int 3,.int 3,.int 3,.int 3,.int 2]:List V)):Int)<=z)=false:=decide_eq_false (by show ¬ (7:Int)<=z;omega);rw [e1];refine aQ ?_;refine ⟨_,rfl,_,rfl,_,rfl,_,rfl,_,rfl,.inr ⟨_,_,_,_,rfl,rfl,QM,yF hk,_,_,rfl,rfl,_,rfl,.inl ⟨_,_,rfl,aP.of ha,fun p hp=>?_⟩⟩⟩;rw [DB (by rw [List.length_map];omega),<-List.map_drop,<-List.map_take];refine ⟨_,_,rfl,.inl ⟨aP.of ao,fun q hq=>?_⟩⟩;have s1:aH H (upd H p (.lst (((ns.drop i).take (Ex.lenOf z)).map V.int))):=ak hp;have s2:=s1.trans (ak (o:=.tup (((ns.drop i).take (Ex.lenOf z)).map V.int)) hq);have Sq:=(kp s2).JS QM;have ht:fG K _ q (((ns.drop i).take (Ex.lenOf z)).map V.int):=fG.of (ao (H:=upd H p (.lst (((ns.drop i).take (Ex.lenOf z)).map V.int))));generalize Ss:upd (upd H p (.lst (((ns.drop i).take (Ex.lenOf z)).map V.int))) q (.tup (((ns.drop i).take (Ex.lenOf z)).map V.int))=H2 at *;generalize hu:(ns.drop i).take (Ex.lenOf z)=u at *;refine ⟨_,rfl,_,_,rfl,.inr ht,_,rfl,.inr ⟨_,_,_,_,rfl,rfl,Sq,yF hk,_,_,rfl,rfl,_,rfl,?_⟩⟩;rw [List.length_map];have bd:=Ex.Jw z;by_cases hs:u.length<Ex.lenOf z
     . rw [if_pos (Or.inl hs)] at k;have e2:decide ((u.length:Int)<(Ex.lenOf z:Int))=true:=decide_eq_true (by omega);rw [e2];exact aW (aW (k .non _ s2 rfl))
     . have e2:decide ((u.length:Int)<(Ex.lenOf z:Int))=false:=decide_eq_false (by omega);rw [e2];have QN:u.length=Ex.lenOf z:=by
        have:u.length<=Ex.lenOf z:=by rw [<-hu];exact List.length_take_le _ _
        omega
       have Vk:u.getD 0 0=z:=by
        rw [<-hu,List.getD_eq_getElem?_getD,List.getElem?_take_of_lt (by omega),List.getElem?_drop,Nat.add_zero,hz];rfl
       refine aQ ⟨_,rfl,_,_,rfl,⟨q,rfl,ht⟩,(by omega),fun h1=>?_,fun H3 s3=>⟨_,rfl,?_⟩⟩
       . rw [QN];rw [Vk] at h1;subst h1;decide
       . cases hf:Ex.fits u with
         |
          false=>
          rw [if_pos (Or.inr hf)] at k;exact aW (k .non _ (s2.trans s3) rfl)
         |
          true=>
          rw [if_neg (by rintro (z|z);exact hs z;rw [hf] at z;cases z)] at k;exact aQ ⟨_,rfl,k _ _ (s2.trans s3) ⟨q,rfl,(kp s3).JS ht⟩⟩
noncomputable abbrev LL(K:PySem.W.Frag):Hp->V->List Ex.Raw->Prop:=Ii (qE K)
noncomputable def qO(K:PySem.W.Frag)(A:dP):Sp:=fun vs H Q _=>∃ (v:V) (ns:List Int),vs=[v]/\IL H v ns/\ns.length<=400/\∀ u H',aH H H'->Cg (LL K) H' u (Ex.bY ns.length ns)->Q u H'
theorem zF(T:Txt K mg A)(D:Def K mg "read_lines" nG ["numbers"])(p8:Has P w K mg base "read_line" ["numbers","place"] 42 (tQ K A)):Has P w K mg base "read_lines" ["numbers"] 43 (qO K A):=by
 refine D.has gE (fun vs H Q E h=>?_) (fun f cdv Ar outer s H vs Q E hr h=>?_)
 . obtain ⟨_,_,rfl,_⟩:=h;rfl
 . skip
   obtain ⟨v,ns,rfl,hv,hn,k⟩:=h;obtain ⟨a,rfl,ha⟩:=hv.at_;refine ⟨_,(ah (aI (i:=1) gE.nd rfl (Or.inl rfl) (aR ai))
    (ah (aI (i:=2) gE.nd rfl (Or.inl rfl) ay)
    (ah (sj PassesOwn.never (aC gX (pv 2) (bu (aY) (by rfl) T.gF bU (af (pv 0) ai)) (aE _)) (ah (aI (i:=3) gE.nd rfl (Or.inl rfl) (aG p8 (hr.mono (by decide)) rfl (af (pv 0) (af (pv 2) ai))))
    (ah (aM (aC dW (pv 3) bF (aE _)) (au (aA bF))
    aF)
    (ah (dD (lB PySem.F.plainAttrs_list PySem.F.slot_list_append PySem.F.type_list_append dX (pv 1) (af (pv 3) ai)))
    (au (Iz (i:=2) gE.nd rfl (Or.inl rfl) (bu (aY) (by rfl) T.gF bU (af (pv 3) ai)) IA))))))
    (au (aA (pv 1)))))),?_⟩
   refine ⟨Nat.zero_le _,fun l hl=>?_⟩;refine sr (fun σ H'=>∃ o B vs done,∃ i:Nat,σ=[some (.ref a),some (.ref l),some (.int i),o]/\H'=upd B l (.lst vs)/\B l=none/\aH H B/\Al (qE K B) vs done/\i<=ns.length/\done.length<=i/\Ex.bY ns.length ns=(Ex.bY (ns.length-i) (ns.drop i)).map fun c=>done++c)
    (fun σ _=>match σ with | [_,_,some (.int i),_]=>ns.length-i.toNat|_=>0)
    ⟨none,H,[],[],0,rfl,rfl,hl,aH.refl _,.nil,Nat.zero_le _,Nat.le_refl _,by show Ex.bY ns.length ns=(Ex.bY ns.length ns).map fun t=>t;rw [Option.map_id']⟩ ?_ ?_
   . rintro σ H' ⟨o,B,vs,done,i,rfl,rfl,hB,s,al,hi,hd,e⟩;have s1:=s.trans (ak (o:=.lst vs) hB);have ha1:=(kp s1).lst ha;refine ⟨_,rfl,_,rfl,_,_,rfl,.inl (aP.of ha1),_,_,rfl,rfl,_,rfl,?_⟩;rw [List.length_map];refine ny (fun hq=>?_) (fun hq=>?_)
     . have hq:(i:Int)<(ns.length:Int):=of_decide_eq_true hq;have es:=Ex.Bq (l:=ns) (i:=i) (by omega);refine ⟨_,rfl,_,rfl,_,_,_,rfl,IL.of ha1,(by omega),fun u H2 s2 hu=>?_⟩;refine ⟨_,rfl,rfl,_,rfl,?_⟩;cases er:Ex.di (ns.drop i) with
       |
        none=>
        rw [er] at hu es;have hu:u=.non:=hu;subst hu;refine aW (k _ _ (s1.trans s2) ?_);rw [e,es];rfl
       |
        some t=>
        rw [er] at hu es;have hu:qE K H2 u t:=hu;have hun:¬ u=.non:=by obtain ⟨b,rfl,_⟩:=hu;intro z;cases z
        obtain ⟨il,ip,i0⟩:=Ex.jn er;have tl:=il.len;have WB:t.length<=ns.length-i:=by have:=ip.length_le;rw [List.length_drop] at this;exact this
        rw [decide_eq_false hun];refine aQ ?_;obtain ⟨B',rfl,jQ,s',Gp⟩:=kN E1 hB s2 hu;obtain ⟨b,rfl,hb⟩:=Gp;refine ⟨_,rfl,.inl ⟨rfl,_,aP.of ao⟩,_,rfl,_,_,_,rfl,rfl,ao,?_,?_⟩
        . rw [al.length];exact Nat.lt_of_le_of_lt (by omega:done.length<=400) (by decide)
        . refine ⟨_,rfl,_,rfl,_,_,rfl,.inr ((aS (o:=.lst (vs++[.ref b])) jQ).JS hb |> fun z=>by rw [c6];exact z),_,_,rfl,rfl,?_⟩;rw [List.length_map];refine ⟨⟨some (.ref b),B',vs++[.ref b],done++[t],i+t.length,?_,c6,jQ,s.trans s',(fH.al (kp s') al).snoc ⟨b,rfl,hb⟩,by omega,?_,?_⟩,?_⟩
          . rfl
          . rw [List.length_append];show done.length+1<=_;omega
          . rw [e,es,Option.map_map];congr 1;funext c;show done++(t::c)=done++[t]++c;rw [List.append_assoc];rfl
          . show ns.length-((i:Int)+(t.length:Int)).toNat<ns.length-((i:Int)).toNat;omega
     . have hq:¬ (i:Int)<(ns.length:Int):=fun z=>hq (decide_eq_true z);have hi2:i=ns.length:=by omega
       subst hi2;refine ⟨_,rfl,k _ _ s1 ?_⟩;rw [e,List.drop_eq_nil_of_le (Nat.le_refl _),Nat.sub_self];show LL K _ _ (done++[]);rw [List.append_nil];exact ⟨l,vs,rfl,ao,fH.al (aS hB) al⟩
   . rintro σ H' R R' hR ⟨v,e1,v2,e2,p,ys,e3,e4,i,j,e5,e6,c,e7,q⟩;exact ⟨v,e1,v2,e2,p,ys,e3,e4,i,j,e5,e6,c,e7,hR _ _ q⟩
theorem HU{n p:Nat}{t:Ex.Raw}(h:Ex.cE t)(h0:¬ t.getD 0 0=0)(h1:¬ t.getD 0 0=1):Ex.cz n p t=(t.drop 1).all fun x=>decide (x<(p:Int)):=by
 cases h with
 |input h=>exact absurd rfl h0
 |num h=>exact absurd rfl h1
 |add h h'=>simp [Ex.cz]
 |sub h h'=>simp [Ex.cz]
 |mul h h'=>simp [Ex.cz]
 |div h h'=>simp [Ex.cz]
 |neg h=>simp [Ex.cz]
theorem LB{l:List Int}{m p:Int}(h1:m∈l)(h2:∀ y,y∈l->y<=m):(l.all fun x=>decide (x<p))=!decide (p<=m):=by
 by_cases h:p<=m
 . rw [decide_eq_true h];apply Bool.eq_false_iff.mpr;intro z;rw [List.all_eq_true] at z;have:=of_decide_eq_true (z m h1);omega
 . rw [decide_eq_false h];show _=true;rw [List.all_eq_true];intro x hx;exact decide_eq_true (by have:=h2 x hx;omega)
noncomputable def vU(K:PySem.W.Frag)(A:dP):Sp:=fun vs H Q _=>∃ (v:V) (ts:List Ex.Raw) (n:Nat),vs=[v,.int n]/\LL K H v ts/\(∀ t,t∈ts->Ex.cE t)/\∀ H',aH H H'->Q (.bl (Ex.bK n 0 ts)) H'
theorem DC(T:Txt K mg A)(D:Def K mg "uses_fit" rH ["lines","inputs"]) :Has P w K mg base "uses_fit" ["lines","inputs"] 41 (vU K A):=by
 refine D.has pR (fun vs H Q E h=>?_) (fun f cdv Ar outer s H vs Q E hr h=>?_)
 . obtain ⟨_,_,_,rfl,_⟩:=h;rfl
 . skip
   obtain ⟨v,ts,n,rfl,⟨a,vs,rfl,ha,al⟩,hts,k⟩:=h;refine ⟨_,(ah (eX PassesOwn.never rfl (sE rfl T.jy (af (pv 0) ai)) (fq (K:=K) 2 rfl rfl (bG (aN (i:=2) pR.nd rfl (Or.inl rfl)) (bG (aN (i:=3) pR.nd rfl (Or.inl rfl)) ff)))
    (au (aM (aC cU (aD (az (K:=K) rfl) (pv 3) ay (fun _ _=>rfl)) (aX T.BB) (aE _)) (au (aM (aC vz (aD (az (K:=K) rfl) (pv 3) ay (fun _ _=>rfl)) (pv 1) (aE _)) (au (aA FD))
    aF))
    (au (aM (aC lA (aD (az (K:=K) rfl) (pv 3) ay (fun _ _=>rfl)) (aX T.nR) (aE _)) (au (aM (aC vz (bu (Gn rfl) (by rfl) T.Mn AG (af (mV (u5 (K:=K) rfl) (pv 3) (jR ay) A2) ai)) (pv 2) (aE _)) (au (aA FD))
    aF))
    aF)))))
    (au (aA FD))),?_⟩
   refine ⟨_,rfl,_,_,rfl,aP.of ha,tK (K:=K) (a:=a) (xs:=vs) (i:=2) (j:=3) (fun i σ H'=>∃ o1 o2,σ=[some (.ref a),some (.int n),o1,o2]/\aH H H'/\Ex.bK n 0 ts=Ex.bK n i (ts.drop i))
    ⟨none,none,rfl,aH.refl _,rfl⟩ (fun i σ H' _ ⟨_,_,_,s,_⟩=>aP.of ((kp s).lst ha)) ?_ ?_⟩
   . rintro i x σ H' p hi ⟨o1,o2,rfl,s,e⟩ hp;obtain ⟨t,ht,rt⟩:=al.get hi;have JX:=hts t (List.mem_of_getElem? ht);have s1:=s.trans (ak (o:=.tup [.int (i:Nat),x]) hp);obtain ⟨b,rfl,hb⟩:=fH (kp s1) rt;have len:=JX.len;obtain ⟨k0,h0⟩:∃ z,t[0]?=some z:=⟨_,List.getElem?_eq_getElem (by omega)⟩
     obtain ⟨k1,h1⟩:∃ z,t[1]?=some z:=⟨_,List.getElem?_eq_getElem (by omega)⟩
     have e0:t.getD 0 0=k0:=by rw [List.getD_eq_getElem?_getD,h0];rfl
     have ed:Ex.bK n i (ts.drop i)=(Ex.cz n i t && Ex.bK n (i+1) (ts.drop (i+1))):=by
      obtain ⟨l1,e1⟩:=List.getElem?_eq_some_iff.mp ht;rw [List.drop_eq_getElem_cons l1,e1];rfl
     rw [ed] at e;refine ⟨_,rfl,.inr ⟨_,_,_,_,rfl,rfl,hb,at_of (j:=0) rfl (gQ h0),rfl,_,rfl,?_⟩⟩;by_cases c0:k0=0
     . subst c0;refine aW ?_;have et:t=[0,k1]:=by
        cases JX with
        |input h=>simp at h1;rw [h1]
        |num h=>simp at h0
        |add h h'=>simp at h0
        |sub h h'=>simp at h0
        |mul h h'=>simp at h0
        |div h h'=>simp at h0
        |neg h=>simp at h0
       refine ⟨_,rfl,.inr ⟨_,_,_,_,rfl,rfl,hb,at_of (j:=1) rfl (gQ h1),_,rfl,_,_,rfl,rfl,_,rfl,?_⟩⟩;have eu:Ex.cz n i t=decide (k1<(n:Int)):=by rw [et];rfl
       refine ny (fun hq=>?_) (fun hq=>?_)
       . have hq:(n:Int)<=k1:=of_decide_eq_true hq;have:=k _ s1;rw [e,eu,decide_eq_false (by omega)] at this;exact this
       . have hq:¬ (n:Int)<=k1:=fun z=>hq (decide_eq_true z);refine ⟨_,_,rfl,s1,?_⟩;rw [e,eu,decide_eq_true (by omega)];rfl
     . rw [decide_eq_false (show ¬ V.int k0=V.int 0 from fun z=>c0 (by injection z))];refine aQ ⟨_,rfl,.inr ⟨_,_,_,_,rfl,rfl,hb,at_of (j:=0) rfl (gQ h0),rfl,_,rfl,?_⟩⟩;by_cases c1:k0=1
       . subst c1;refine aQ ⟨_,_,rfl,s1,?_⟩;have eu:Ex.cz n i t=true:=by
          cases JX with
          |num h=>rfl
          |input h=>simp at h0
          |add h h'=>simp at h0
          |sub h h'=>simp at h0
          |mul h h'=>simp at h0
          |div h h'=>simp at h0
          |neg h=>simp at h0
         rw [e,eu];rfl
       . rw [decide_eq_false (show ¬ V.int k0=V.int 1 from fun z=>c1 (by injection z))];refine aW ?_;refine ⟨_,rfl,_,rfl,.inr ⟨_,_,rfl,hb,?_,fun r hr2=>?_⟩⟩
         . intro z;have e:HT.iP (t.map V.int).length 0 (some 1)=1:=by
            have:=HT.qo (t.map V.int).length 0 1;rw [show ((1:Nat):Int)=1 from rfl] at this;rw [this,List.length_map];omega
           rw [e] at z;omega
         . refine ⟨_,t.drop 1,rfl,.inr (fG.of ?_),?_,fun m h1 h2=>?_⟩
           . rw [PM _ (by rw [List.length_map];omega),List.map_drop];exact ao
           . rw [List.length_drop];omega
           . have s2:=s1.trans (ak (o:=.tup (qC (t.map V.int) (some 1) none)) hr2);refine ⟨_,rfl,_,_,rfl,rfl,_,rfl,?_⟩;have eu:Ex.cz n i t=!decide ((i:Int)<=m):=by
              rw [HU JX (by rw [e0];exact c0) (by rw [e0];exact c1),LB h1 h2]
             refine ny (fun hq=>?_) (fun hq=>?_)
             . have:=k _ s2;rw [e,eu,show decide ((i:Int)<=m)=true from hq] at this;exact this
             . have hq:decide ((i:Int)<=m)=false:=Bool.eq_false_iff.mpr hq;refine ⟨_,_,rfl,s2,?_⟩;rw [e,eu,hq];rfl
   . rintro σ H' ⟨o1,o2,rfl,s,e⟩;have:=k _ s;rw [e,List.drop_eq_nil_of_le (by rw [al.length];exact Nat.le_refl _)] at this;exact this
noncomputable def QO(k:Int)(p q:Rat):Option Rat:=if k=2 then some (p+q) else if k=3 then some (p-q) else if k=4 then some (p*q) else if k=5/\¬ q.num=0 then some (p / q) else none
noncomputable def kP(K:PySem.W.Frag)(A:dP):Sp:=fun vs H Q _=>∃ (z:Int) (a b:V) (p q:Rat),vs=[.int z,a,b]/\Fr K H a p/\Fr K H b q/\Ex.Sz M p/\Ex.Sz M q/\∀ r H',aH H H'->Cg (Fr K) H' r (QO z p q)->Q r H'
theorem rV(T:Txt K mg A)(D:Def K mg "operation_value" iB ["kind","first","second"])(dm:Has P w K mg base "plus" ["first","second"] 42 (jY K A))(gh:Has P w K mg base "minus" ["first","second"] 43 (p6 K A))(cR:Has P w K mg base "times" ["first","second"] 42 (iI K A))(u7:Has P w K mg base "over" ["first","second"] 43 (BS K A)):Has P w K mg base "operation_value" ["kind","first","second"] 44 (kP K A):=by
 refine D.has rJ (fun vs H Q E h=>?_) (fun f cdv Ar outer s H vs Q E hr h=>?_)
 . obtain ⟨_,_,_,_,_,rfl,_⟩:=h;rfl
 . skip
   obtain ⟨z,a,b,p,q,rfl,ha,hb,zp,zq,k⟩:=h;refine ⟨_,(ah (aM (aC cU (pv 0) (aX T.JM) (aE _)) (au (aA (aG dm (hr.mono (by decide)) rfl (af (pv 1) (af (pv 2) ai)))))
    aF)
    (ah (aM (aC cU (pv 0) (aX T.Gi) (aE _)) (au (aA (aG gh (hr.mono (by decide)) rfl (af (pv 1) (af (pv 2) ai)))))
    aF)
    (ah (aM (aC cU (pv 0) (aX T.Gj) (aE _)) (au (aA (aG cR (hr.mono (by decide)) rfl (af (pv 1) (af (pv 2) ai)))))
    aF)
    (ah (aM (PW.pt (Iv (aC cU (pv 0) (aX T.Nv) (aE _)) (FF (aC lA (aD (az (K:=K) rfl) (pv 2) ay (fun _ _=>rfl)) ay (aE _))))) (au (aA (aG u7 (hr.mono (by decide)) rfl (af (pv 1) (af (pv 2) ai)))))
    aF)
    (au (aA bF)))))),?_⟩
   have hb':=hb;obtain ⟨b',rfl,hb'⟩:=hb';have cc:∀ {c:Int},decide (V.int z=V.int c)=decide (z=c):=fun {c}=>decide_eq_decide.mpr ⟨fun e=>by injection e,fun e=>by rw [e]⟩;refine ⟨_,rfl,rfl,_,rfl,?_⟩;rw [cc];refine ny (fun h2=>?_) (fun h2=>?_)
   . have h2:z=2:=of_decide_eq_true h2;subst h2;exact ⟨_,rfl,_,rfl,_,_,p,q,rfl,ha,hb,zp,zq,fun v H' s hv=>k v H' s hv⟩
   have h2:¬ z=2:=fun e=>h2 (decide_eq_true e);refine ⟨_,rfl,rfl,_,rfl,?_⟩;rw [cc];refine ny (fun h3=>?_) (fun h3=>?_)
   . have h3:z=3:=of_decide_eq_true h3;subst h3;exact ⟨_,rfl,_,rfl,_,_,p,q,rfl,ha,hb,zp,zq,fun v H' s hv=>k v H' s hv⟩
   have h3:¬ z=3:=fun e=>h3 (decide_eq_true e);refine ⟨_,rfl,rfl,_,rfl,?_⟩;rw [cc];refine ny (fun h4=>?_) (fun h4=>?_)
   . have h4:z=4:=of_decide_eq_true h4;subst h4;exact ⟨_,rfl,_,rfl,_,_,p,q,rfl,ha,hb,zp,zq,fun v H' s hv=>k v H' s hv⟩
   have h4:¬ z=4:=fun e=>h4 (decide_eq_true e);have eo:QO z p q=if z=5/\¬ q.num=0 then some (p / q) else none:=by
    unfold QO;rw [if_neg h2,if_neg h3,if_neg h4]
   rw [eo] at k;refine ⟨_,rfl,rfl,_,rfl,?_⟩;rw [cc];refine ny (fun h5=>?_) (fun h5=>?_)
   . have h5:z=5:=of_decide_eq_true h5;refine ⟨_,rfl,.inr ⟨_,_,_,_,rfl,rfl,hb',rfl,rfl,_,rfl,?_⟩⟩;have cn:decide (V.int q.num=V.int 0)=decide (q.num=0):=decide_eq_decide.mpr ⟨fun e=>by injection e,fun e=>by rw [e]⟩;rw [cn];by_cases hq:q.num=0
     . rw [decide_eq_true hq];rw [if_neg (by rintro ⟨_,z⟩;exact z hq)] at k;exact aQ (k _ _ (aH.refl _) rfl)
     . rw [decide_eq_false hq];rw [if_pos ⟨h5,hq⟩] at k;exact aW ⟨_,rfl,_,rfl,_,_,p,q,rfl,ha,hb,zp,zq,fun e=>hq (by rw [e];rfl),fun v H' s hv=>k v H' s hv⟩
   . have h5:¬ z=5:=fun e=>h5 (decide_eq_true e);rw [if_neg (by rintro ⟨z,_⟩;exact h5 z)] at k;exact aQ (k _ _ (aH.refl _) rfl)
theorem Fl.at_{K:PySem.W.Frag}{H:Hp}{a:Addr}{vs:List V}{qs:List Rat}(ha:H a=some (.lst vs))(al:Al (Fr K H) vs qs){i:Nat}(hi:i<qs.length):∃ v,vs[i]?=some v/\Fr K H v (qs.getD i 0):=by
 obtain ⟨v,h1,h2⟩:=al.at_ (i:=i) (x:=qs[i]) (List.getElem?_eq_getElem hi);refine ⟨v,h1,?_⟩;rw [List.getD_eq_getElem?_getD,List.getElem?_eq_getElem hi];exact h2
theorem Ij{q:Rat}{n:Nat}(h:Ex.wt q<=n)(hn:n<=67108864):Ex.Sz M q:=(Ex.Sz.xJ h).mono (gu hn)
noncomputable def qP(K:PySem.W.Frag)(A:dP):Sp:=fun vs H Q _=>∃ (u v x:V) (t:Ex.Raw) (ws pt:List Rat),vs=[u,v,x]/\qE K H u t/\FL K H v ws/\FL K H x pt/\Ex.cE t/\Ex.cz pt.length ws.length t=true/\(∀ q,q∈ws->Ex.wt q<=2000)/\
 ∀ r H',aH H H'->Cg (Fr K) H' r (Ex.oN pt ws t)->Q r H'
theorem iK{ws:List Rat}(h:∀ q,q∈ws->Ex.wt q<=2000)(i:Nat):Ex.wt (ws.getD i 0)<=2000:=by
 rw [List.getD_eq_getElem?_getD];cases e:ws[i]? with
 |none=>show Ex.wt 0<=2000;rw [Ex.Lk];decide
 |some q=>exact h q (List.mem_of_getElem? e)
theorem zG(T:Txt K mg A)(D:Def K mg "line_value" nI ["line","worked_out","point"])(iL:Has P w K mg base "operation_value" ["kind","first","second"] 44 (kP K A))(iJ:Has P w K mg base "lowest" ["top","bottom"] 42 (qA K A))(dw:Has P w K mg base "negative" ["fraction"] 41 (jz K A)):Has P w K mg base "line_value" ["line","worked_out","point"] 45 (qP K A):=by
 refine D.has zh (fun vs H Q E h=>?_) (fun f cdv Ar outer s H vs Q E hr h=>?_)
 . obtain ⟨_,_,_,_,_,_,rfl,_⟩:=h;rfl
 . skip
   obtain ⟨u,v,x,t,ws,pt,rfl,⟨b,rfl,hb⟩,⟨c,vs,rfl,hc,tR⟩,⟨d,xs,rfl,hx,yX⟩,hl,hu,hw,k⟩:=h;refine ⟨_,(ah (aM (aC cU (aD (az (K:=K) rfl) (pv 0) ay (fun _ _=>rfl)) (aX T.BB) (aE _)) (au (aA (aD (az (K:=K) rfl) (pv 2) (aD (az (K:=K) rfl) (pv 0) ay (fun _ _=>rfl)) (fun _ _=>rfl))))
    aF)
    (ah (aM (aC cU (aD (az (K:=K) rfl) (pv 0) ay (fun _ _=>rfl)) (aX T.nR) (aE _)) (au (aA (aG iJ (hr.mono (by decide)) rfl (af (aD (az (K:=K) rfl) (pv 0) ay (fun _ _=>rfl)) (af (aD (az (K:=K) rfl) (pv 0) ay (fun _ _=>rfl)) ai)))))
    aF)
    (ah (aM (aC cU (aD (az (K:=K) rfl) (pv 0) ay (fun _ _=>rfl)) (aX T.yh) (aE _)) (au (aA (aG dw (hr.mono (by decide)) rfl (af (aD (az (K:=K) rfl) (pv 1) (aD (az (K:=K) rfl) (pv 0) ay (fun _ _=>rfl)) (fun _ _=>rfl)) ai))))
    aF)
    (au (aA (aG iL (hr.mono (by decide)) rfl (af (aD (az (K:=K) rfl) (pv 0) ay (fun _ _=>rfl)) (af (aD (az (K:=K) rfl) (pv 1) (aD (az (K:=K) rfl) (pv 0) ay (fun _ _=>rfl)) (fun _ _=>rfl)) (af (aD (az (K:=K) rfl) (pv 1) (aD (az (K:=K) rfl) (pv 0) ay (fun _ _=>rfl)) (fun _ _=>rfl)) ai))))))))),?_⟩
   have cc:∀ {z c:Int},decide (V.int z=V.int c)=decide (z=c):=fun {z c}=>decide_eq_decide.mpr ⟨fun e=>by injection e,fun e=>by rw [e]⟩;cases hl with
   |
    @input z h0=>
    have hu:decide (z<(pt.length:Int))=true:=hu;rw [decide_eq_true_eq] at hu;obtain ⟨y,h1,h2⟩:=Fl.at_ hx yX (i:=z.toNat) (by omega);refine ⟨_,rfl,.inr ⟨_,_,_,_,rfl,rfl,hb,rfl,rfl,_,rfl,?_⟩⟩;refine aW ?_;exact ⟨_,rfl,_,rfl,.inr ⟨_,_,_,_,rfl,rfl,hb,rfl,.inl ⟨_,_,_,_,rfl,rfl,aP.of hx,at_of (j:=z.toNat) (by omega) h1,k _ _ (aH.refl _) h2⟩⟩⟩
   |
    @num n d' h0=>
    refine ⟨_,rfl,.inr ⟨_,_,_,_,rfl,rfl,hb,rfl,rfl,_,rfl,aQ ?_⟩⟩;refine ⟨_,rfl,.inr ⟨_,_,_,_,rfl,rfl,hb,rfl,rfl,_,rfl,aW ?_⟩⟩;refine ⟨_,rfl,.inr ⟨_,_,_,_,rfl,rfl,hb,rfl,_,rfl,.inr ⟨_,_,_,_,rfl,rfl,hb,rfl,_,_,rfl,(by omega),fun v H' s hv=>k v H' s ?_⟩⟩⟩;rw [Ex.ko n h0] at hv;exact hv
   |
    @neg i h0=>
    have hu:decide (i<(ws.length:Int))=true:=hu;rw [decide_eq_true_eq] at hu;obtain ⟨y,h1,h2⟩:=Fl.at_ hc tR (i:=i.toNat) (by omega);refine ⟨_,rfl,.inr ⟨_,_,_,_,rfl,rfl,hb,rfl,rfl,_,rfl,aQ ?_⟩⟩;refine ⟨_,rfl,.inr ⟨_,_,_,_,rfl,rfl,hb,rfl,rfl,_,rfl,aQ ?_⟩⟩;refine ⟨_,rfl,.inr ⟨_,_,_,_,rfl,rfl,hb,rfl,rfl,_,rfl,aW ?_⟩⟩;exact ⟨_,rfl,_,rfl,.inr ⟨_,_,_,_,rfl,rfl,hb,rfl,.inl ⟨_,_,_,_,rfl,rfl,aP.of hc,at_of (j:=i.toNat) (by omega) h1,_,_,rfl,h2,fun v H' s hv=>k v H' s hv⟩⟩⟩
   |
    @add i j h0 h0'=>
    have hu:=Bool.and_eq_true_iff.mp hu;have u1:=of_decide_eq_true hu.1;have u2:=of_decide_eq_true hu.2;obtain ⟨y,h1,h2⟩:=Fl.at_ hc tR (i:=i.toNat) (by omega);obtain ⟨y',GZ,h2'⟩:=Fl.at_ hc tR (i:=j.toNat) (by omega);refine ⟨_,rfl,.inr ⟨_,_,_,_,rfl,rfl,hb,rfl,rfl,_,rfl,aQ ?_⟩⟩;refine ⟨_,rfl,.inr ⟨_,_,_,_,rfl,rfl,hb,rfl,rfl,_,rfl,aQ ?_⟩⟩;refine ⟨_,rfl,.inr ⟨_,_,_,_,rfl,rfl,hb,rfl,rfl,_,rfl,aQ ?_⟩⟩;exact ⟨_,rfl,.inr ⟨_,_,_,_,rfl,rfl,hb,rfl,_,rfl,_,rfl,.inr ⟨_,_,_,_,rfl,rfl,hb,rfl,.inl ⟨_,_,_,_,rfl,rfl,aP.of hc,at_of (j:=i.toNat) (by omega) h1,
     _,rfl,_,rfl,.inr ⟨_,_,_,_,rfl,rfl,hb,rfl,.inl ⟨_,_,_,_,rfl,rfl,aP.of hc,at_of (j:=j.toNat) (by omega) GZ,_,_,_,_,_,rfl,h2,h2',Ij (iK hw _) (by decide),Ij (iK hw _) (by decide),fun v H' s hv=>k v H' s hv⟩⟩⟩⟩⟩⟩
   |
    @sub i j h0 h0'=>
    have hu:=Bool.and_eq_true_iff.mp hu;have u1:=of_decide_eq_true hu.1;have u2:=of_decide_eq_true hu.2;obtain ⟨y,h1,h2⟩:=Fl.at_ hc tR (i:=i.toNat) (by omega);obtain ⟨y',GZ,h2'⟩:=Fl.at_ hc tR (i:=j.toNat) (by omega);refine ⟨_,rfl,.inr ⟨_,_,_,_,rfl,rfl,hb,rfl,rfl,_,rfl,aQ ?_⟩⟩;refine ⟨_,rfl,.inr ⟨_,_,_,_,rfl,rfl,hb,rfl,rfl,_,rfl,aQ ?_⟩⟩;refine ⟨_,rfl,.inr ⟨_,_,_,_,rfl,rfl,hb,rfl,rfl,_,rfl,aQ ?_⟩⟩;exact ⟨_,rfl,.inr ⟨_,_,_,_,rfl,rfl,hb,rfl,_,rfl,_,rfl,.inr ⟨_,_,_,_,rfl,rfl,hb,rfl,.inl ⟨_,_,_,_,rfl,rfl,aP.of hc,at_of (j:=i.toNat) (by omega) h1,
     _,rfl,_,rfl,.inr ⟨_,_,_,_,rfl,rfl,hb,rfl,.inl ⟨_,_,_,_,rfl,rfl,aP.of hc,at_of (j:=j.toNat) (by omega) GZ,_,_,_,_,_,rfl,h2,h2',Ij (iK hw _) (by decide),Ij (iK hw _) (by decide),fun v H' s hv=>k v H' s hv⟩⟩⟩⟩⟩⟩
   |
    @mul i j h0 h0'=>
    have hu:=Bool.and_eq_true_iff.mp hu;have u1:=of_decide_eq_true hu.1;have u2:=of_decide_eq_true hu.2;obtain ⟨y,h1,h2⟩:=Fl.at_ hc tR (i:=i.toNat) (by omega);obtain ⟨y',GZ,h2'⟩:=Fl.at_ hc tR (i:=j.toNat) (by omega);refine ⟨_,rfl,.inr ⟨_,_,_,_,rfl,rfl,hb,rfl,rfl,_,rfl,aQ ?_⟩⟩;refine ⟨_,rfl,.inr ⟨_,_,_,_,rfl,rfl,hb,rfl,rfl,_,rfl,aQ ?_⟩⟩;refine ⟨_,rfl,.inr ⟨_,_,_,_,rfl,rfl,hb,rfl,rfl,_,rfl,aQ ?_⟩⟩;exact ⟨_,rfl,.inr ⟨_,_,_,_,rfl,rfl,hb,rfl,_,rfl,_,rfl,.inr ⟨_,_,_,_,rfl,rfl,hb,rfl,.inl ⟨_,_,_,_,rfl,rfl,aP.of hc,at_of (j:=i.toNat) (by omega) h1,
     _,rfl,_,rfl,.inr ⟨_,_,_,_,rfl,rfl,hb,rfl,.inl ⟨_,_,_,_,rfl,rfl,aP.of hc,at_of (j:=j.toNat) (by omega) GZ,_,_,_,_,_,rfl,h2,h2',Ij (iK hw _) (by decide),Ij (iK hw _) (by decide),fun v H' s hv=>k v H' s hv⟩⟩⟩⟩⟩⟩
   |
    @div i j h0 h0'=>
    have hu:=Bool.and_eq_true_iff.mp hu;have u1:=of_decide_eq_true hu.1;have u2:=of_decide_eq_true hu.2;obtain ⟨y,h1,h2⟩:=Fl.at_ hc tR (i:=i.toNat) (by omega);obtain ⟨y',GZ,h2'⟩:=Fl.at_ hc tR (i:=j.toNat) (by omega);refine ⟨_,rfl,.inr ⟨_,_,_,_,rfl,rfl,hb,rfl,rfl,_,rfl,aQ ?_⟩⟩;refine ⟨_,rfl,.inr ⟨_,_,_,_,rfl,rfl,hb,rfl,rfl,_,rfl,aQ ?_⟩⟩;refine ⟨_,rfl,.inr ⟨_,_,_,_,rfl,rfl,hb,rfl,rfl,_,rfl,aQ ?_⟩⟩;refine ⟨_,rfl,.inr ⟨_,_,_,_,rfl,rfl,hb,rfl,_,rfl,_,rfl,.inr ⟨_,_,_,_,rfl,rfl,hb,rfl,.inl ⟨_,_,_,_,rfl,rfl,aP.of hc,at_of (j:=i.toNat) (by omega) h1,
     _,rfl,_,rfl,.inr ⟨_,_,_,_,rfl,rfl,hb,rfl,.inl ⟨_,_,_,_,rfl,rfl,aP.of hc,at_of (j:=j.toNat) (by omega) GZ,_,_,_,_,_,rfl,h2,h2',Ij (iK hw _) (by decide),Ij (iK hw _) (by decide),fun v H' s hv=>k v H' s ?_⟩⟩⟩⟩⟩⟩
    have e:QO 5 (ws.getD i.toNat 0) (ws.getD j.toNat 0)=Ex.oN pt ws [5,i,j]:=by
     show (if (5:Int)=5/\¬ (ws.getD j.toNat 0).num=0 then some (ws.getD i.toNat 0 / ws.getD j.toNat 0) else none)=if ws.getD j.toNat 0=0 then none else some (ws.getD i.toNat 0 / ws.getD j.toNat 0);by_cases z:ws.getD j.toNat 0=0
     . rw [if_pos z,if_neg (by rintro ⟨_,h⟩;exact h (by rw [z];rfl))]
     . rw [if_neg z,if_pos ⟨rfl,fun h=>z (Rat.num_eq_zero.mp h)⟩]
    rw [<-e];exact hv
noncomputable def Vl(K:PySem.W.Frag)(H:Hp)(r:V)(x:List Rat × Option Nat):Prop:=∃ p u v,r=.ref p/\fG K H p [u,v]/\FL K H u x.1/\Cg (qE K) H v (x.2.map fun k=>[(x.1.length:Int),(k:Int)])
noncomputable def E5(K:PySem.W.Frag)(A:dP):Sp:=fun vs H Q _=>∃ (u v:V) (ts:List Ex.Raw) (pt:List Rat),vs=[u,v]/\LL K H u ts/\FL K H v pt/\(∀ t,t∈ts->Ex.cE t)/\Ex.bK pt.length 0 ts=true/\ts.length<=60/\
 ∀ r H',aH H H'->Vl K H' r (Ex.aO pt [] ts)->Q r H'
theorem NN(T:Txt K mg A)(D:Def K mg "run" JF ["lines","point"])(nV:Has P w K mg base "line_value" ["line","worked_out","point"] 45 (qP K A))(fC:Has P w K mg base "weight" ["fraction"] 41 (nh K A)):Has P w K mg base "run" ["lines","point"] 46 (E5 K A):=by
 refine D.has yb (fun vs H Q E h=>?_) (fun f cdv Ar outer s H vs Q E hr h=>?_)
 . obtain ⟨_,_,_,_,rfl,_⟩:=h;rfl
 . skip
   obtain ⟨u,v,ts,pt,rfl,⟨b,us,rfl,hb,Ci⟩,oU,hl,Su,hn,k⟩:=h;have Sv:=oU;obtain ⟨c,xs,rfl,hc,yX⟩:=Sv;refine ⟨_,(ah (aI (i:=2) yb.nd rfl (Or.inl rfl) (aR ai))
    (ah (eX PassesOwn.never rfl (sE rfl T.jy (af (pv 0) ai)) (fq (K:=K) 2 rfl rfl (bG (aN (i:=3) yb.nd rfl (Or.inl rfl)) (bG (aN (i:=4) yb.nd rfl (Or.inl rfl)) ff)))
    (ah (aI (i:=5) yb.nd rfl (Or.inl rfl) (aG nV (hr.mono (by decide)) rfl (af (pv 4) (af (pv 2) (af (pv 1) ai)))))
    (ah (aM (aC dW (pv 5) bF (aE _)) (au (aA (gq (af (pv 2) (af (gq (af (pv 3) (af (aX T.rQ) ai))) ai)))))
    aF)
    (ah (aM (aC oY (aG fC (hr.mono (by decide)) rfl (af (pv 5) ai)) (aX T.kK) (aE _)) (au (aA (gq (af (pv 2) (af (gq (af (pv 3) (af (aX T.tE) ai))) ai)))))
    aF)
    (au (dD (lB PySem.F.plainAttrs_list PySem.F.slot_list_append PySem.F.type_list_append dX (pv 2) (af (pv 5) ai))))))))
    (au (aA (gq (af (pv 2) (af bF ai))))))),?_⟩
   refine ⟨Nat.zero_le _,fun l T9=>?_⟩;refine ⟨_,rfl,_,_,rfl,aP.of ((aS T9).lst hb),tK (K:=K) (a:=b) (xs:=us) (i:=3) (j:=4)
    (fun i σ H'=>∃ o1 o2 o3 B vs ws,σ=[some (.ref b),some (.ref c),some (.ref l),o1,o2,o3]/\H'=upd B l (.lst vs)/\B l=none/\aH H B/\Al (Fr K B) vs ws/\ws.length=i/\(∀ q,q∈ws->Ex.wt q<=2000)/\Ex.aO pt [] ts=Ex.aO pt ws (ts.drop i))
    ⟨none,none,none,H,[],[],rfl,rfl,T9,aH.refl _,.nil,rfl,fun _ z=>(nomatch z),rfl⟩ (fun i σ H' _ ⟨_,_,_,B,vs,_,_,e,hB,s,_⟩=>by rw [e];exact aP.of ((kp (s.trans (ak hB))).lst hb)) ?_ ?_⟩
   . rintro i x σ H' T1 hi ⟨o1,o2,o3,B,vs,ws,rfl,rfl,hB,s,al,hws,Nk,e⟩ hT1;obtain ⟨t,ht,rt⟩:=Ci.get hi;have JX:=hl t (List.mem_of_getElem? ht);have QS:Ex.cz pt.length i t=true:=by
      have:=Ex.pK pt.length (i:=i) Su ht;rw [Nat.zero_add] at this;exact this
     have hlt:i<ts.length:=(List.getElem?_eq_some_iff.mp ht).1;have s0:aH (upd B l (.lst vs)) (upd (upd B l (.lst vs)) T1 (.tup [.int (i:Nat),x])):=ak hT1;have s1:aH H (upd (upd B l (.lst vs)) T1 (.tup [.int (i:Nat),x])):=(s.trans (ak hB)).trans s0;have hfl:FL K (upd (upd B l (.lst vs)) T1 (.tup [.int (i:Nat),x])) (.ref l) ws:=⟨l,vs,rfl,s0 _ _ ao,aL.al (kp ((ak hB).trans s0)) al⟩
     have ed:Ex.aO pt ws (ts.drop i)=match Ex.oN pt ws t with
      |none=>(ws,some 1)
      |some q=>if 2000<Ex.wt q then (ws,some 2) else Ex.aO pt (ws++[q]) (ts.drop (i+1)):=by
      obtain ⟨l1,e1⟩:=List.getElem?_eq_some_iff.mp ht;rw [List.drop_eq_getElem_cons l1,e1];rfl
     rw [ed] at e;refine ⟨_,rfl,_,rfl,_,rfl,_,_,_,t,ws,pt,rfl,fH (kp s1) rt,hfl,aL.ls (kp s1) oU,JX,(by rw [hws];exact QS),Nk,fun r H2 s2 hr2=>?_⟩;have Sw:=s0.trans s2;refine ⟨_,rfl,rfl,_,rfl,?_⟩;have fault:∀ (kk:Nat) (H3:Hp),aH (upd B l (.lst vs)) H3->Ex.aO pt [] ts=(ws,some kk)->∀ p1,H3 p1=none->∀ p2,upd H3 p1 (.tup [.int (i:Nat),.int (kk:Nat)]) p2=none->
      Q (.ref p2) (upd (upd H3 p1 (.tup [.int (i:Nat),.int (kk:Nat)])) p2 (.tup [.ref l,.ref p1])):=fun kk H3 s3 e3 p1 h1 p2 h2=>by
      have s4:=(s3.trans (ak (o:=.tup [.int (i:Nat),.int (kk:Nat)]) h1)).trans (ak (o:=.tup [.ref l,.ref p1]) h2);refine k _ _ ((s.trans (ak hB)).trans s4) ?_;rw [e3];refine ⟨p2,_,_,rfl,fG.of ao,⟨l,vs,rfl,s4 _ _ ao,aL.al (kp ((ak hB).trans s4)) al⟩,⟨p1,rfl,fG.of ?_⟩⟩;rw [hws];exact ak h2 _ _ ao
     cases ev:Ex.oN pt ws t with
     |
      none=>
      rw [ev] at hr2 e;have hr2:r=.non:=hr2;subst hr2;exact aW ⟨_,rfl,_,rfl,(by show 2<=sizeLine;decide),fun p1 h1=>⟨(by show 2<=sizeLine;decide),fun p2 h2=>fault 1 H2 Sw e p1 h1 p2 h2⟩⟩
     |
      some q=>
      rw [ev] at hr2 e;have hr2:Fr K H2 r q:=hr2;have Vm:¬ r=.non:=by obtain ⟨z,rfl,_⟩:=hr2;intro z;cases z
      rw [decide_eq_false Vm];refine aQ ⟨_,rfl,_,_,rfl,hr2,_,_,rfl,rfl,_,rfl,?_⟩;dsimp only at e;by_cases hw:2000<Ex.wt q
      . rw [if_pos hw] at e;rw [decide_eq_true (show (2000:Int)<((Ex.wt q:Nat):Int) by omega)];exact aW ⟨_,rfl,_,rfl,(by show 2<=sizeLine;decide),fun p1 h1=>⟨(by show 2<=sizeLine;decide),fun p2 h2=>fault 2 H2 Sw e p1 h1 p2 h2⟩⟩
      . rw [if_neg hw] at e;rw [decide_eq_false (show ¬ (2000:Int)<((Ex.wt q:Nat):Int) by omega)];refine aQ ?_;obtain ⟨B',rfl,jQ,s',hq⟩:=kN kM hB Sw hr2;refine ⟨_,rfl,.inl ⟨rfl,_,aP.of ao⟩,_,rfl,_,_,_,rfl,rfl,ao,?_,?_⟩
        . rw [al.length];exact Nat.lt_of_le_of_lt (by omega:ws.length<=60) (by decide)
        . refine ⟨_,_,_,B',vs++[r],ws++[q],rfl,c6,jQ,s.trans s',(aL.al (kp s') al).snoc hq,?_,fun y hy=>?_,e⟩
          . rw [List.length_append,hws];rfl
          . rcases List.mem_append.mp hy with hy|hy
            . exact Nk y hy
            . rw [List.mem_singleton.mp hy];omega
   . rintro σ H' ⟨o1,o2,o3,B,vs,ws,rfl,rfl,hB,s,al,hws,Nk,e⟩;refine ⟨_,rfl,(by show 2<=sizeLine;decide),fun p2 h2=>?_⟩;have s4:=ak (o:=.tup [.ref l,.non]) h2;refine k _ _ ((s.trans (ak hB)).trans s4) ?_;rw [e,List.drop_eq_nil_of_le (by rw [<-Ci.length];exact Nat.le_refl _)];exact ⟨p2,_,_,rfl,fG.of ao,⟨l,vs,rfl,s4 _ _ ao,aL.al (kp ((ak hB).trans s4)) al⟩,rfl⟩
end
end Pg
namespace Pg
open PySem PySem.Spec PyProof.Rows L2
section
variable {P:Program}{w:World}{K:PySem.W.Frag}{mg:Str->Option Value}{base:Heap}{A:dP}
noncomputable abbrev Ik(K:PySem.W.Frag):Hp->V->List (List Rat)->Prop:=Ii (FL K)
noncomputable def zH(S:List (List Rat))(c:Nat):List Rat:=S.map fun r=>r.getD c 0
theorem u9(S:List (List Rat))(c i:Nat):(zH S c).getD i 0=(S.getD i []).getD c 0:=by
 unfold zH;rw [List.getD_eq_getElem?_getD,List.getElem?_map,List.getD_eq_getElem?_getD (l:=S)];cases S[i]? with
 |none=>rfl
 |some r=>rfl
theorem cc{z c:Int}:decide (V.int z=V.int c)=decide (z=c):=decide_eq_decide.mpr ⟨fun e=>by injection e,fun e=>by rw [e]⟩
theorem LC.at_{K:PySem.W.Frag}{H:Hp}{vs:List V}{S:List (List Rat)}(al:Al (FL K H) vs S){n i c:Nat}(hi:i<S.length)(hw:∀ r,r∈S->r.length=n)(hc:c<n) :
 ∃ r rs v,vs[i]?=some (.ref r)/\H r=some (.lst rs)/\rs[c]?=some v/\Fr K H v ((zH S c).getD i 0):=by
 obtain ⟨u,h1,r,rs,rfl,h2,h3⟩:=al.at_ (i:=i) (x:=S[i]) (List.getElem?_eq_getElem hi);have hl:=hw _ (List.getElem_mem hi);obtain ⟨v,h4,h5⟩:=Fl.at_ h2 h3 (i:=c) (by omega);refine ⟨r,rs,v,h1,h2,h4,?_⟩;rw [u9,List.getD_eq_getElem?_getD (l:=S),List.getElem?_eq_getElem hi];exact h5
noncomputable def qQ(K:PySem.W.Frag)(A:dP):Sp:=fun vs H Q _=>∃ (lv sv wv:V) (t:Ex.Raw) (p c n:Nat) (S:List (List Rat)) (ws:List Rat),vs=[lv,.int p,.int c,sv,wv]/\qE K H lv t/\Ik K H sv S/\FL K H wv ws/\Ex.cE t/\Ex.cz n p t=true/\
 p<=S.length/\p<ws.length/\(∀ r,r∈S->r.length=n)/\c<n/\(∀ i,Ex.Sz 480061 ((zH S c).getD i 0))/\(∀ q,q∈ws->Ex.wt q<=2000)/\(∀ i j,t=[5,i,j]->ws.getD j.toNat 0≠0)/\
 ∀ v H',aH H H'->Fr K H' v (Ex.cT c ws (zH S c) (ws.getD p 0) t)->Q v H'
theorem zI(T:Txt K mg A)(D:Def K mg "line_slope" nJ ["line","place","by","slopes","line_values"])(u7:Has P w K mg base "over" ["first","second"] 43 (BS K A))(dw:Has P w K mg base "negative" ["fraction"] 41 (jz K A))(dm:Has P w K mg base "plus" ["first","second"] 42 (jY K A))(gh:Has P w K mg base "minus" ["first","second"] 43 (p6 K A))(cR:Has P w K mg base "times" ["first","second"] 42 (iI K A)):Has P w K mg base "line_slope" ["line","place","by","slopes","line_values"] 44 (qQ K A):=by
 refine D.has jq (fun vs H Q E h=>?_) (fun f cdv Ar outer s H vs Q E hr h=>?_)
 . obtain ⟨_,_,_,_,_,_,_,_,_,rfl,_⟩:=h;rfl
 . skip
   obtain ⟨lv,sv,wv,t,p,c,n,S,ws,rfl,⟨b,rfl,hb⟩,⟨sa,ss,rfl,hs,DX⟩,⟨wa,WC,rfl,hw,QT⟩,hl,hu,WD,E6,eL,hc,hsz,Nk,hdiv,k⟩:=h;refine ⟨_,(ah (aM (aC cU (aD (az (K:=K) rfl) (pv 0) ay (fun _ _=>rfl)) (aX T.BB) (aE _)) (au (aA (Cn (aC cU (aD (az (K:=K) rfl) (pv 0) ay (fun _ _=>rfl)) (pv 2) (aE _)) (oz T.JK) (oz T.ye))))
    aF)
    (ah (aM (aC cU (aD (az (K:=K) rfl) (pv 0) ay (fun _ _=>rfl)) (aX T.nR) (aE _)) (au (aA (oz T.ye)))
    aF)
    (ah (aI (i:=5) jq.nd rfl (Or.inl rfl) (aD (az (K:=K) rfl) (aD (az (K:=K) rfl) (pv 3) (aD (az (K:=K) rfl) (pv 0) ay (fun _ _=>rfl)) (fun _ _=>rfl)) (pv 2) (fun _ _=>rfl)))
    (ah (aM (aC cU (aD (az (K:=K) rfl) (pv 0) ay (fun _ _=>rfl)) (aX T.yh) (aE _)) (au (aA (aG dw (hr.mono (by decide)) rfl (af (pv 5) ai))))
    aF)
    (ah (aI (i:=6) jq.nd rfl (Or.inl rfl) (aD (az (K:=K) rfl) (aD (az (K:=K) rfl) (pv 3) (aD (az (K:=K) rfl) (pv 0) ay (fun _ _=>rfl)) (fun _ _=>rfl)) (pv 2) (fun _ _=>rfl)))
    (ah (aM (aC cU (aD (az (K:=K) rfl) (pv 0) ay (fun _ _=>rfl)) (aX T.JM) (aE _)) (au (aA (aG dm (hr.mono (by decide)) rfl (af (pv 5) (af (pv 6) ai)))))
    aF)
    (ah (aM (aC cU (aD (az (K:=K) rfl) (pv 0) ay (fun _ _=>rfl)) (aX T.Gi) (aE _)) (au (aA (aG gh (hr.mono (by decide)) rfl (af (pv 5) (af (pv 6) ai)))))
    aF)
    (ah (aI (i:=7) jq.nd rfl (Or.inl rfl) (aD (az (K:=K) rfl) (pv 4) (aD (az (K:=K) rfl) (pv 0) ay (fun _ _=>rfl)) (fun _ _=>rfl)))
    (ah (aM (aC cU (aD (az (K:=K) rfl) (pv 0) ay (fun _ _=>rfl)) (aX T.Gj) (aE _)) (au (aA (aG dm (hr.mono (by decide)) rfl (af (aG cR (hr.mono (by decide)) rfl (af (pv 5) (af (pv 7) ai))) (af (aG cR (hr.mono (by decide)) rfl (af (aD (az (K:=K) rfl) (pv 4) (aD (az (K:=K) rfl) (pv 0) ay (fun _ _=>rfl)) (fun _ _=>rfl)) (af (pv 6) ai))) ai)))))
    aF)
    (au (aA (aG u7 (hr.mono (by decide)) rfl (af (aG gh (hr.mono (by decide)) rfl (af (pv 5) (af (aG cR (hr.mono (by decide)) rfl (af (aD (az (K:=K) rfl) (pv 4) (pv 1) (fun _ _=>rfl)) (af (pv 6) ai))) ai))) (af (pv 7) ai)))))))))))))),?_⟩
   have NO:∀ i,Ex.Sz 2000 (ws.getD i 0):=fun i=>Ex.Sz.xJ (iK Nk i);have vM:∀ i,Ex.Sz M (ws.getD i 0):=fun i=>(NO i).mono (gu (by decide));have sM:∀ i,Ex.Sz M ((zH S c).getD i 0):=fun i=>(hsz i).mono (gu (by decide));cases hl with
   |
    @input z h0=>
    refine ⟨_,rfl,.inr ⟨_,_,_,_,rfl,rfl,hb,rfl,rfl,_,rfl,aW ?_⟩⟩;refine ⟨_,rfl,.inr ⟨_,_,_,_,rfl,rfl,hb,rfl,_,rfl,rfl,_,rfl,?_⟩⟩;rw [cc];have e:Ex.cT c ws (zH S c) (ws.getD p 0) [0,z]=if z.toNat=c then 1 else 0:=rfl;rw [e] at k;by_cases hz:z=(c:Int)
    . rw [decide_eq_true hz];rw [if_pos (by omega)] at k;exact aW (k _ _ (aH.refl _) ⟨A.Sj,rfl,T.JL H⟩)
    . rw [decide_eq_false hz];rw [if_neg (by omega)] at k;exact aQ (k _ _ (aH.refl _) ⟨A.JG,rfl,T.yg H⟩)
   |
    @num n' d' h0=>
    refine ⟨_,rfl,.inr ⟨_,_,_,_,rfl,rfl,hb,rfl,rfl,_,rfl,aQ ?_⟩⟩;refine ⟨_,rfl,.inr ⟨_,_,_,_,rfl,rfl,hb,rfl,rfl,_,rfl,aW ?_⟩⟩;exact k _ _ (aH.refl _) ⟨A.JG,rfl,T.yg H⟩
   |
    @neg i h0=>
    have hu:decide (i<(p:Int))=true:=hu;rw [decide_eq_true_eq] at hu;obtain ⟨r,rs,v,g1,g2,g3,g4⟩:=LC.at_ DX (i:=i.toNat) (by omega) eL hc;refine ⟨_,rfl,.inr ⟨_,_,_,_,rfl,rfl,hb,rfl,rfl,_,rfl,aQ ?_⟩⟩;refine ⟨_,rfl,.inr ⟨_,_,_,_,rfl,rfl,hb,rfl,rfl,_,rfl,aQ ?_⟩⟩;refine ⟨_,rfl,_,rfl,.inr ⟨_,_,_,_,rfl,rfl,hb,rfl,.inl ⟨_,_,_,_,rfl,rfl,aP.of hs,at_of (j:=i.toNat) (by omega) g1,_,rfl,.inl ⟨_,_,_,_,rfl,rfl,aP.of g2,at_of (j:=c) rfl g3,?_⟩⟩⟩⟩;refine ⟨_,rfl,.inr ⟨_,_,_,_,rfl,rfl,hb,rfl,rfl,_,rfl,aW ?_⟩⟩;exact ⟨_,rfl,_,_,rfl,g4,fun v H' s hv=>k v H' s hv⟩
   |
    @add i j h0 h0'=>
    have hu:=Bool.and_eq_true_iff.mp hu;have u1:=of_decide_eq_true hu.1;have u2:=of_decide_eq_true hu.2;obtain ⟨r,rs,v,g1,g2,g3,g4⟩:=LC.at_ DX (i:=i.toNat) (by omega) eL hc;obtain ⟨r',rs',v',LD,JY,LF,NP⟩:=LC.at_ DX (i:=j.toNat) (by omega) eL hc;refine ⟨_,rfl,.inr ⟨_,_,_,_,rfl,rfl,hb,rfl,rfl,_,rfl,aQ ?_⟩⟩;refine ⟨_,rfl,.inr ⟨_,_,_,_,rfl,rfl,hb,rfl,rfl,_,rfl,aQ ?_⟩⟩;refine ⟨_,rfl,_,rfl,.inr ⟨_,_,_,_,rfl,rfl,hb,rfl,.inl ⟨_,_,_,_,rfl,rfl,aP.of hs,at_of (j:=i.toNat) (by omega) g1,_,rfl,.inl ⟨_,_,_,_,rfl,rfl,aP.of g2,at_of (j:=c) rfl g3,?_⟩⟩⟩⟩;refine ⟨_,rfl,.inr ⟨_,_,_,_,rfl,rfl,hb,rfl,rfl,_,rfl,aQ ?_⟩⟩;refine ⟨_,rfl,_,rfl,.inr ⟨_,_,_,_,rfl,rfl,hb,rfl,.inl ⟨_,_,_,_,rfl,rfl,aP.of hs,at_of (j:=j.toNat) (by omega) LD,_,rfl,.inl ⟨_,_,_,_,rfl,rfl,aP.of JY,at_of (j:=c) rfl LF,?_⟩⟩⟩⟩;refine ⟨_,rfl,.inr ⟨_,_,_,_,rfl,rfl,hb,rfl,rfl,_,rfl,aW ?_⟩⟩;exact ⟨_,rfl,_,rfl,_,_,_,_,rfl,g4,NP,sM _,sM _,fun v H' s hv=>k v H' s hv⟩
   |
    @sub i j h0 h0'=>
    have hu:=Bool.and_eq_true_iff.mp hu;have u1:=of_decide_eq_true hu.1;have u2:=of_decide_eq_true hu.2;obtain ⟨r,rs,v,g1,g2,g3,g4⟩:=LC.at_ DX (i:=i.toNat) (by omega) eL hc;obtain ⟨r',rs',v',LD,JY,LF,NP⟩:=LC.at_ DX (i:=j.toNat) (by omega) eL hc;refine ⟨_,rfl,.inr ⟨_,_,_,_,rfl,rfl,hb,rfl,rfl,_,rfl,aQ ?_⟩⟩;refine ⟨_,rfl,.inr ⟨_,_,_,_,rfl,rfl,hb,rfl,rfl,_,rfl,aQ ?_⟩⟩;refine ⟨_,rfl,_,rfl,.inr ⟨_,_,_,_,rfl,rfl,hb,rfl,.inl ⟨_,_,_,_,rfl,rfl,aP.of hs,at_of (j:=i.toNat) (by omega) g1,_,rfl,.inl ⟨_,_,_,_,rfl,rfl,aP.of g2,at_of (j:=c) rfl g3,?_⟩⟩⟩⟩;refine ⟨_,rfl,.inr ⟨_,_,_,_,rfl,rfl,hb,rfl,rfl,_,rfl,aQ ?_⟩⟩;refine ⟨_,rfl,_,rfl,.inr ⟨_,_,_,_,rfl,rfl,hb,rfl,.inl ⟨_,_,_,_,rfl,rfl,aP.of hs,at_of (j:=j.toNat) (by omega) LD,_,rfl,.inl ⟨_,_,_,_,rfl,rfl,aP.of JY,at_of (j:=c) rfl LF,?_⟩⟩⟩⟩;refine ⟨_,rfl,.inr ⟨_,_,_,_,rfl,rfl,hb,rfl,rfl,_,rfl,aQ ?_⟩⟩;refine ⟨_,rfl,.inr ⟨_,_,_,_,rfl,rfl,hb,rfl,rfl,_,rfl,aW ?_⟩⟩;exact ⟨_,rfl,_,rfl,_,_,_,_,rfl,g4,NP,sM _,sM _,fun v H' s hv=>k v H' s hv⟩
   |
    @mul i j h0 h0'=>
    have hu:=Bool.and_eq_true_iff.mp hu;have u1:=of_decide_eq_true hu.1;have u2:=of_decide_eq_true hu.2;obtain ⟨r,rs,v,g1,g2,g3,g4⟩:=LC.at_ DX (i:=i.toNat) (by omega) eL hc;obtain ⟨r',rs',v',LD,JY,LF,NP⟩:=LC.at_ DX (i:=j.toNat) (by omega) eL hc;refine ⟨_,rfl,.inr ⟨_,_,_,_,rfl,rfl,hb,rfl,rfl,_,rfl,aQ ?_⟩⟩;refine ⟨_,rfl,.inr ⟨_,_,_,_,rfl,rfl,hb,rfl,rfl,_,rfl,aQ ?_⟩⟩;refine ⟨_,rfl,_,rfl,.inr ⟨_,_,_,_,rfl,rfl,hb,rfl,.inl ⟨_,_,_,_,rfl,rfl,aP.of hs,at_of (j:=i.toNat) (by omega) g1,_,rfl,.inl ⟨_,_,_,_,rfl,rfl,aP.of g2,at_of (j:=c) rfl g3,?_⟩⟩⟩⟩;refine ⟨_,rfl,.inr ⟨_,_,_,_,rfl,rfl,hb,rfl,rfl,_,rfl,aQ ?_⟩⟩;refine ⟨_,rfl,_,rfl,.inr ⟨_,_,_,_,rfl,rfl,hb,rfl,.inl ⟨_,_,_,_,rfl,rfl,aP.of hs,at_of (j:=j.toNat) (by omega) LD,_,rfl,.inl ⟨_,_,_,_,rfl,rfl,aP.of JY,at_of (j:=c) rfl LF,?_⟩⟩⟩⟩;refine ⟨_,rfl,.inr ⟨_,_,_,_,rfl,rfl,hb,rfl,rfl,_,rfl,aQ ?_⟩⟩;refine ⟨_,rfl,.inr ⟨_,_,_,_,rfl,rfl,hb,rfl,rfl,_,rfl,aQ ?_⟩⟩;obtain ⟨y,q1,q2⟩:=Fl.at_ hw QT (i:=i.toNat) (by omega);obtain ⟨y',Sx,Sy⟩:=Fl.at_ hw QT (i:=j.toNat) (by omega);refine ⟨_,rfl,_,rfl,.inr ⟨_,_,_,_,rfl,rfl,hb,rfl,.inl ⟨_,_,_,_,rfl,rfl,aP.of hw,at_of (j:=j.toNat) (by omega) Sx,?_⟩⟩⟩;refine ⟨_,rfl,.inr ⟨_,_,_,_,rfl,rfl,hb,rfl,rfl,_,rfl,aW ?_⟩⟩;refine ⟨_,rfl,_,rfl,_,_,_,_,rfl,g4,Sy,sM _,vM _,fun v1 H1 s1 hv1=>?_⟩;refine ⟨_,rfl,_,rfl,.inr ⟨_,_,_,_,rfl,rfl,(kp s1).JS hb,rfl,.inl ⟨_,_,_,_,rfl,rfl,aP.of ((kp s1).lst hw),at_of (j:=i.toNat) (by omega) q1,?_⟩⟩⟩;refine ⟨_,rfl,_,_,_,_,rfl,aL (kp s1) q2,aL (kp s1) NP,vM _,sM _,fun v2 H2 s2 hv2=>?_⟩;exact ⟨_,_,_,_,rfl,aL (kp s2) hv1,hv2,((hsz _).mul (NO _)).mono (gu (by decide)),((NO _).mul (hsz _)).mono (gu (by decide)),fun v3 H3 s3 zK=>k v3 H3 ((s1.trans s2).trans s3) zK⟩
   |
    @div i j h0 h0'=>
    have hu:=Bool.and_eq_true_iff.mp hu;have u1:=of_decide_eq_true hu.1;have u2:=of_decide_eq_true hu.2;obtain ⟨r,rs,v,g1,g2,g3,g4⟩:=LC.at_ DX (i:=i.toNat) (by omega) eL hc;obtain ⟨r',rs',v',LD,JY,LF,NP⟩:=LC.at_ DX (i:=j.toNat) (by omega) eL hc;refine ⟨_,rfl,.inr ⟨_,_,_,_,rfl,rfl,hb,rfl,rfl,_,rfl,aQ ?_⟩⟩;refine ⟨_,rfl,.inr ⟨_,_,_,_,rfl,rfl,hb,rfl,rfl,_,rfl,aQ ?_⟩⟩;refine ⟨_,rfl,_,rfl,.inr ⟨_,_,_,_,rfl,rfl,hb,rfl,.inl ⟨_,_,_,_,rfl,rfl,aP.of hs,at_of (j:=i.toNat) (by omega) g1,_,rfl,.inl ⟨_,_,_,_,rfl,rfl,aP.of g2,at_of (j:=c) rfl g3,?_⟩⟩⟩⟩;refine ⟨_,rfl,.inr ⟨_,_,_,_,rfl,rfl,hb,rfl,rfl,_,rfl,aQ ?_⟩⟩;refine ⟨_,rfl,_,rfl,.inr ⟨_,_,_,_,rfl,rfl,hb,rfl,.inl ⟨_,_,_,_,rfl,rfl,aP.of hs,at_of (j:=j.toNat) (by omega) LD,_,rfl,.inl ⟨_,_,_,_,rfl,rfl,aP.of JY,at_of (j:=c) rfl LF,?_⟩⟩⟩⟩;refine ⟨_,rfl,.inr ⟨_,_,_,_,rfl,rfl,hb,rfl,rfl,_,rfl,aQ ?_⟩⟩;refine ⟨_,rfl,.inr ⟨_,_,_,_,rfl,rfl,hb,rfl,rfl,_,rfl,aQ ?_⟩⟩;obtain ⟨y',Sx,Sy⟩:=Fl.at_ hw QT (i:=j.toNat) (by omega);obtain ⟨y,q1,q2⟩:=Fl.at_ hw QT (i:=p) E6;refine ⟨_,rfl,_,rfl,.inr ⟨_,_,_,_,rfl,rfl,hb,rfl,.inl ⟨_,_,_,_,rfl,rfl,aP.of hw,at_of (j:=j.toNat) (by omega) Sx,?_⟩⟩⟩;refine ⟨_,rfl,.inr ⟨_,_,_,_,rfl,rfl,hb,rfl,rfl,_,rfl,aQ ?_⟩⟩;refine ⟨_,rfl,_,rfl,_,rfl,.inl ⟨_,_,_,_,rfl,rfl,aP.of hw,at_of (j:=p) rfl q1,_,rfl,_,_,_,_,rfl,q2,NP,vM _,sM _,fun v1 H1 s1 hv1=>?_⟩⟩;refine ⟨_,_,_,_,rfl,aL (kp s1) g4,hv1,sM _,((NO _).mul (hsz _)).mono (gu (by decide)),fun v2 H2 s2 hv2=>?_⟩;exact ⟨_,rfl,_,_,_,_,rfl,hv2,aL (kp (s1.trans s2)) Sy,((hsz _).sub ((NO _).mul (hsz _))).mono (gu (by decide)),vM _,hdiv i j rfl,fun v3 H3 s3 zK=>k v3 H3 ((s1.trans s2).trans s3) zK⟩
theorem JZ{α:Type}{R:Hp->V->α->Prop}{zs:List α}{te:TE}{σ:L2.St}{H1:Hp}{D:Addr}{Qd:Hp->Prop}(mo:Mo R){n j:Nat}(hD:H1 D=none)(hz:zs.length<sizeLine)(hl:n=zs.length)
 (hs:∀ (i:Nat) z B ys,zs[i]?=some z->B D=none->aH H1 B->∀ Q:VK,(∀ y B',B' D=none->aH B B'->R B' y z->Q y (upd B' D (.lst ys)))->te (σ.set j (some (.int (i:Int)))) (upd B D (.lst ys)) Q)
 (hd:∀ B ys,aH H1 B->B D=none->Al (R B) ys zs->Qd (upd B D (.lst ys))):NJ (Ie 0 n) (e9 j) A5 te [j] σ H1 D Qd:=
 Sm mo hD hz hl (fun i z B ys h1 h2 h3 Q k=>by rw [Int.zero_add];exact hs i z B ys h1 h2 h3 Q k) hd
theorem kQ{n:Nat}{j:Nat}{tb:TS}{D:Ends}{σ:L2.St}{H:Hp}(Pv:Nat->L2.St->Hp->Prop)(h0:Pv 0 σ H)
 (hs:∀ (i:Nat) σ H,i<n->Pv i σ H->tb {D with nx:=Pv (i+1),ct:=Pv (i+1),bk:=D.nx} (σ.set j (some (.int (i:Int)))) H) (hd:∀ σ H,Pv n σ H->D.nx σ H) :
 ∃ W:Nat->Nat->L2.St->Hp->Prop,(∃ m,W 0 m σ H)/\∀ i m σ H,W i m σ H->
  ((Ie 0 n).stop i H/\D.nx σ H)\/((Ie 0 n).go i H/\∃ N:L2.St->Hp->Prop,(∀ σ' H',N σ' H'->∃ m',m'<m/\W (i+1) m' σ' H')/\∀ x H',(Ie 0 n).Ku i H x H'->e9 j x σ H' fun σ2 H2=>tb {D with nx:=N,ct:=N,bk:=D.nx} σ2 H2):=
 um Pv h0 (fun i σ H hi hp=>by rw [Int.zero_add];exact hs i σ H hi hp) hd
noncomputable def DE(n:Nat)(ws:List Rat)(ts:List Ex.Raw)(i:Nat):List Rat:=(List.range n).map fun c=>(Ex.bW c ws [] ts).getD i 0
noncomputable def gV(n:Nat)(ws:List Rat)(ts:List Ex.Raw)(i:Nat):List (List Rat):=(List.range i).map (DE n ws ts)
theorem tS(n:Nat)(ws:List Rat)(ts:List Ex.Raw)(i:Nat):(DE n ws ts i).length=n:=by unfold DE;rw [List.length_map,List.length_range]
theorem tT{n c:Nat}(ws:List Rat)(ts:List Ex.Raw)(i:Nat)(hc:c<n):(DE n ws ts i).getD c 0=(Ex.bW c ws [] ts).getD i 0:=by
 unfold DE;rw [List.getD_eq_getElem?_getD,List.getElem?_map,List.getElem?_range hc];rfl
theorem AI{n c i r:Nat}(ws:List Rat)(ts:List Ex.Raw)(hc:c<n)(hr:r<i):(zH (gV n ws ts i) c).getD r 0=(Ex.bW c ws [] ts).getD r 0:=by
 rw [u9];unfold gV;rw [List.getD_eq_getElem?_getD (l:=List.map _ _),List.getElem?_map,List.getElem?_range hr];exact tT ws ts r hc
theorem LG{n c i r:Nat}(ws:List Rat)(ts:List Ex.Raw)(hr:¬ r<i):(zH (gV n ws ts i) c).getD r 0=0:=by
 rw [u9];unfold gV;rw [List.getD_eq_getElem?_getD (l:=List.map _ _),List.getElem?_eq_none (by rw [List.length_map,List.length_range];omega)];rfl
noncomputable def fy(outs:List Nat):List Int:=outs.map fun (o:Nat)=>(o:Int)
noncomputable def J0(ws:List Rat)(ts:List Ex.Raw):Prop:=∀ i j,[5,i,j]∈ts->ws.getD j.toNat 0≠0
structure J1(n:Nat)(ts:List Ex.Raw)(outs:List Nat):Prop where
 lines:∀ t,t∈ts->Ex.cE t
 uses:Ex.bK n 0 ts=true
 few:ts.length<=60
 ins:n<=4
 NQ:outs.length<=6
 Aq:∀ o,o∈outs->o<ts.length
structure rW(ws:List Rat)(ts:List Ex.Raw):Prop where
 len:ws.length=ts.length
 wt:∀ q,q∈ws->Ex.wt q<=2000
 div:J0 ws ts
noncomputable def QU(K:PySem.W.Frag)(H0:Hp):Hp->V->List Rat->Prop:=fun H v x=>FL K H v x/\∃ r,v=.ref r/\H0 r=none
theorem E7{K:PySem.W.Frag}{H0:Hp}:Mo (QU K H0):=⟨fun k h=>⟨aL.ls k h.1,h.2⟩⟩
noncomputable def Mq(H0 H:Hp)(v:V):Prop:=∃ a vs,v=.ref a/\H0 a=none/\H a=some (.lst vs)/\∀ u,u∈vs->∃ r,u=.ref r/\H0 r=none
theorem J2{K:PySem.W.Frag}{H0 H:Hp}:∀ {vs:List V} {xs:List (List Rat)},Al (QU K H0 H) vs xs->∀ u,u∈vs->∃ r,u=.ref r/\H0 r=none
 |_,_,.nil,u,h=>(nomatch h)
 |
  _,_,.cons r t,u,h=>by
  rcases List.mem_cons.mp h with rfl|h
  . exact r.2
  . exact J2 t u h
noncomputable def vV(K:PySem.W.Frag)(A:dP):Sp:=fun vs H Q _=>∃ (u v x:V) (ts:List Ex.Raw) (outs:List Nat) (n:Nat) (ws:List Rat),vs=[u,v,.int n,x]/\LL K H u ts/\IL H v (fy outs)/\FL K H x ws/\J1 n ts outs/\rW ws ts/\
 ∀ v H',aH H H'->Ik K H' v (outs.map (DE n ws ts))->Mq H H' v->Q v H'
theorem DF(T:Txt K mg A)(D:Def K mg "table_at" rK ["lines","outs","inputs","line_values"])(nW:Has P w K mg base "line_slope" ["line","place","by","slopes","line_values"] 44 (qQ K A)):Has P w K mg base "table_at" ["lines","outs","inputs","line_values"] 45 (vV K A):=by
 refine D.has e_ (fun vs H Q E h=>?_) (fun f cdv Ar outer s H vs Q E hr h=>?_)
 . obtain ⟨_,_,_,_,_,_,_,rfl,_⟩:=h;rfl
 . skip
   obtain ⟨u,v,x,ts,outs,n,ws,rfl,⟨ua,us,rfl,hu,Ci⟩,hv,hx,C,W,k⟩:=h;obtain ⟨va,rfl,hv1⟩:=hv.at_;have hws:∀ i,Ex.Sz 2000 (ws.getD i 0):=fun i=>Ex.Sz.xJ (iK W.wt i);have few:=C.few;have ins:=C.ins;have hx':=hx;obtain ⟨xa,xs,rfl,WE,yX⟩:=hx';refine ⟨_,(ah (aI (i:=4) e_.nd rfl (Or.inr rfl) (aR ai))
    (ah (eX PassesOwn.never rfl (sE rfl T.jy (af (pv 0) ai)) (fq (K:=K) 2 rfl rfl (bG (aN (i:=5) e_.nd rfl (Or.inr rfl)) (bG (aN (i:=6) e_.nd rfl (Or.inr rfl)) ff)))
    (au (dD (lB PySem.F.plainAttrs_list PySem.F.slot_list_append PySem.F.type_list_append dX (pv 4) (af (mX rfl e_.nd (f_ rfl T.jr (af (pv 2) ai)) (cH (own:=[("by",7)]) (by kernel_rfl)) (fun _ _ _ _ _=>(aN (i:=7) e_.nd rfl (Or.inl rfl))) (fun _ _ _ _ _=>dg) (fun _ _ _ _ _=>(aG nW (hr.mono (by decide)) rfl (af (pv 6) (af (pv 5) (af (pv 7) (af (pv 4) (af (pv 3) ai)))))))) ai)))))
    (au (aA (mX rfl e_.nd (eW (pv 1)) (cH (own:=[("out",8)]) (by kernel_rfl)) (fun _ _ _ _ _=>(aN (i:=8) e_.nd rfl (Or.inl rfl))) (fun _ _ _ _ _=>dg) (fun _ _ _ _ _=>(aD (az (K:=K) rfl) (pv 4) (pv 8) (fun _ _=>rfl)))))))),?_⟩
   refine ⟨Nat.zero_le _,fun l hl=>?_⟩;refine ⟨_,rfl,_,_,rfl,aP.of ((aS hl).lst hu),tK (K:=K) (a:=ua) (xs:=us) (i:=5) (j:=6)
    (fun i σ H'=>∃ o1 o2 B vs,σ=[some (.ref ua),some (.ref va),some (.int n),some (.ref xa),some (.ref l),o1,o2,none,none]/\H'=upd B l (.lst vs)/\B l=none/\aH H B/\Al (QU K H B) vs (gV n ws ts i))
    ⟨none,none,H,[],rfl,rfl,hl,aH.refl _,.nil⟩ (fun i σ H' _ ⟨_,_,B,vs,_,e,hB,s,_⟩=>by rw [e];exact aP.of ((kp (s.trans (ak hB))).lst hu)) ?_ ?_⟩
   . rintro i y σ H' T1 hi ⟨o1,o2,B,vs,rfl,rfl,hB,s,al⟩ hT1;obtain ⟨t,ht,rt⟩:=Ci.get hi;have JX:=C.lines t (List.mem_of_getElem? ht);have QS:Ex.cz n i t=true:=by
      have:=Ex.pK n (i:=i) C.uses ht;rw [Nat.zero_add] at this;exact this
     have hlt:i<ts.length:=(List.getElem?_eq_some_iff.mp ht).1;have s0:aH (upd B l (.lst vs)) (upd (upd B l (.lst vs)) T1 (.tup [.int (i:Nat),y])):=ak hT1;have s1:aH H (upd (upd B l (.lst vs)) T1 (.tup [.int (i:Nat),y])):=(s.trans (ak hB)).trans s0;have hS:Ik K (upd (upd B l (.lst vs)) T1 (.tup [.int (i:Nat),y])) (.ref l) (gV n ws ts i):=⟨l,vs,rfl,s0 _ _ ao,aL.ls.al (kp ((ak hB).trans s0)) (al.imp fun _ _ r=>r.1)⟩
     have eS:∀ c,c<n->Ex.cT c ws (zH (gV n ws ts i) c) (ws.getD i 0) t=(Ex.bW c ws [] ts).getD i 0:=fun c hc=>by
      rw [Ex.Ez C.lines C.uses ht];exact Ex.sU JX QS fun r hr=>AI ws ts hc hr
     generalize T_:upd (upd B l (.lst vs)) T1 (.tup [.int (i:Nat),y])=H1 at *;refine ⟨_,rfl,.inl ⟨rfl,_,aP.of (s0 _ _ ao)⟩,_,rfl,_,rfl,(by omega),(by omega),fun D hD=>JZ (R:=Fr K) aL (zs:=DE n ws ts i) (j:=7) hD ?_ ?_ (fun c z B2 ys hz hB2 s2 Q2 k2=>?_) (fun B2 ys s2 hB2 oV=>?_)⟩
     . rw [tS];exact Nat.lt_of_le_of_lt ins (by decide)
     . rw [tS];omega
     . have hc:c<n:=by
        have:=(List.getElem?_eq_some_iff.mp hz).1;rw [tS] at this;exact this
       have ez:z=(Ex.bW c ws [] ts).getD i 0:=by
        rw [<-tT ws ts i hc,List.getD_eq_getElem?_getD,hz];rfl
       have s3:aH H1 (upd B2 D (.lst ys)):=s2.trans (ak hB2);refine ⟨_,rfl,_,rfl,_,rfl,_,rfl,_,rfl,_,_,_,t,i,c,n,gV n ws ts i,ws,rfl,fH (kp (s1.trans s3)) rt,aL.ls.ls (kp s3) hS,aL.ls (kp (s1.trans s3)) hx,JX,QS,?_,?_,?_,hc,?_,W.wt,?_,fun v4 H4 s4 Gs=>?_⟩
       . unfold gV;rw [List.length_map,List.length_range];exact Nat.le_refl _
       . rw [W.len];exact hlt
       . intro r hr;unfold gV at hr;obtain ⟨j,_,rfl⟩:=List.mem_map.mp hr;exact tS n ws ts j
       . intro j;by_cases hj:j<i
         . rw [AI ws ts hc hj];exact (Ex.CY hws C.few j).2.2
         . rw [LG ws ts hj];exact Ex.Sz.zero _ (by decide)
       . rintro i' j' rfl;exact W.div i' j' (List.mem_of_getElem? ht)
       . obtain ⟨B',rfl,jQ,s',hq⟩:=kN kM hB2 s4 Gs;refine k2 v4 B' jQ s' ?_;rw [ez,<-eS c hc];exact hq
     . have s3:aH H1 (upd B2 D (.lst ys)):=s2.trans (ak hB2);have s4:aH (upd B l (.lst vs)) (upd B2 D (.lst ys)):=s0.trans s3;have Ol:D≠l:=(bg (s0 _ _ ao) hD).symm;refine ⟨_,_,_,rfl,rfl,s4 _ _ ao,?_,?_⟩
       . rw [al.length];unfold gV;rw [List.length_map,List.length_range];exact Nat.lt_of_le_of_lt (by omega:i<=60) (by decide)
       . have fr:FL K (upd B2 D (.lst ys)) (.ref D) (DE n ws ts i):=⟨D,ys,rfl,ao,aL.al (aS hB2) oV⟩
         obtain ⟨B',e',jQ,s'⟩:=cut hB s4;rw [e'] at fr;refine ⟨_,_,B',vs++[.ref D],rfl,by rw [e'];exact c6,jQ,s.trans s',?_⟩;have e2:gV n ws ts (i+1)=gV n ws ts i++[DE n ws ts i]:=by
          unfold gV;rw [List.range_succ,List.map_append];rfl
         rw [e2];exact (E7.al (kp s') al).snoc ⟨kM.ls jQ (fun z=>Ol (by injection z)) fr,D,rfl,s1.free hD⟩
   . rintro σ H' ⟨o1,o2,B,vs,rfl,rfl,hB,s,al⟩;have s1:=s.trans (ak (o:=.lst vs) hB);have hlen:us.length=ts.length:=Ci.length;refine ⟨_,rfl,_,rfl,⟨_,aP.of ((kp s1).lst hv1)⟩,fun D hD=>BR (R:=QU K H) E7 (zs:=outs.map (DE n ws ts)) (j:=8) hD ?_ (aP.of ((kp s1).lst hv1)) ?_ (fun i x z B2 ys hx hz hB2 s2 Q2 k2=>?_) (fun B2 ys s2 hB2 oV=>?_)⟩
     . rw [List.length_map];exact Nat.lt_of_le_of_lt C.NQ (by decide)
     . unfold fy;simp
     . obtain ⟨o,ho,rfl⟩:∃ o,outs[i]?=some o/\x=.int (o:Int):=by
        unfold fy at hx;rw [List.map_map,List.getElem?_map] at hx;cases e:outs[i]? with
        |none=>rw [e] at hx;cases hx
        |some o=>rw [e] at hx;exact ⟨o,rfl,(Option.some.inj hx).symm⟩
       have ez:z=DE n ws ts o:=by
        rw [List.getElem?_map,ho] at hz;exact (Option.some.inj hz).symm
       have Om:o<us.length:=by rw [hlen];exact C.Aq o (List.mem_of_getElem? ho)
       obtain ⟨y,hy,ry⟩:=al.at_ (i:=o) (x:=DE n ws ts o) (by unfold gV;rw [List.getElem?_map,List.getElem?_range Om];rfl);refine ⟨_,rfl,_,rfl,.inl ⟨_,_,_,_,rfl,rfl,aP.of ((kp (s2.trans (ak hB2))).lst ao),at_of (j:=o) rfl hy,k2 _ B2 hB2 (aH.refl _) ?_⟩⟩;rw [ez];exact E7 (kp ((ak hB).trans s2)) ry
     . exact k _ _ (s1.trans (s2.trans (ak hB2))) ⟨D,ys,rfl,ao,aL.ls.al (aS hB2) (oV.imp fun _ _ r=>r.1)⟩ ⟨D,ys,rfl,s1.free hD,ao,J2 oV⟩
noncomputable def kR(J:List (List Rat))(fs d:List Rat):List Rat:=List.zipWith (fun row f=>(List.zipWith (fun x y=>x*y) row d).foldl (fun x y=>x+y) f) J fs
noncomputable def gv(K:PySem.W.Frag)(A:dP):Sp:=fun vs H Q _=>∃ (u v x:V) (J:List (List Rat)) (fs d:List Rat) (a b c:Nat),vs=[u,v,x]/\Ik K H u J/\FL K H v fs/\FL K H x d/\J.length=fs.length/\J.length<=6/\(∀ row,row∈J->row.length=d.length)/\
 (∀ row,row∈J->∀ q,q∈row->Ex.Sz a q)/\(∀ q,q∈fs->Ex.Sz b q)/\(∀ q,q∈d->Ex.Sz c q)/\a+c+1+b+(a+c+1)*d.length<=67108864/\
 ∀ v H',aH H H'->FL K H' v (kR J fs d)->Q v H'
theorem qF(T:Txt K mg A)(D:Def K mg "straight_picture" gT ["table","results","step"])(dm:Has P w K mg base "plus" ["first","second"] 42 (jY K A))(cR:Has P w K mg base "times" ["first","second"] 42 (iI K A)):Has P w K mg base "straight_picture" ["table","results","step"] 43 (gv K A):=by
 refine D.has bV (fun vs H Q E h=>?_) (fun f cdv Ar outer s H vs Q E hr h=>?_)
 . obtain ⟨_,_,_,_,_,_,_,_,_,rfl,_⟩:=h;rfl
 . skip
   obtain ⟨u,v,x,J,fs,d,a,b,c,rfl,⟨ua,us,rfl,hu,Ci⟩,⟨va,vs,rfl,hv,tR⟩,⟨xa,xs,rfl,hx,yX⟩,NR,WG,eL,zJ,zf,zd,hb,k⟩:=h;refine ⟨_,(ah (aI (i:=3) bV.nd rfl (Or.inl rfl) (aR ai))
    (ah (eX PassesOwn.never rfl (nv rfl T.tD (af (pv 0) (af (pv 1) ai))) (fq (K:=K) 2 rfl rfl (bG (aN (i:=4) bV.nd rfl (Or.inl rfl)) (bG (aN (i:=5) bV.nd rfl (Or.inl rfl)) ff)))
    (ah (aI (i:=6) bV.nd rfl (Or.inl rfl) (pv 5))
    (ah (eX PassesOwn.never rfl (nv rfl T.tD (af (pv 4) (af (pv 2) ai))) (fq (K:=K) 2 rfl rfl (bG (aN (i:=7) bV.nd rfl (Or.inl rfl)) (bG (aN (i:=8) bV.nd rfl (Or.inl rfl)) ff)))
    (au (aI (i:=6) bV.nd rfl (Or.inl rfl) (aG dm (hr.mono (by decide)) rfl (af (pv 6) (af (aG cR (hr.mono (by decide)) rfl (af (pv 7) (af (pv 8) ai))) ai))))))
    (au (dD (lB PySem.F.plainAttrs_list PySem.F.slot_list_append PySem.F.type_list_append dX (pv 3) (af (pv 6) ai)))))))
    (au (aA (pv 3))))),?_⟩
   have l1:=Ci.length;have l2:=tR.length;have l3:=yX.length;have lp:(kR J fs d).length=us.length:=by unfold kR;rw [List.length_zipWith];omega
   refine ⟨Nat.zero_le _,fun l hl=>?_⟩;refine ⟨_,rfl,_,rfl,_,_,_,_,rfl,aP.of ((aS hl).lst hu),aP.of ((aS hl).lst hv),BQ (K:=K) (a:=ua) (b:=va) (xs:=us) (ys:=vs) (i:=4) (j:=5) (by omega)
    (fun i σ H'=>∃ o4 o5 o6 o7 o8 B ps,σ=[some (.ref ua),some (.ref va),some (.ref xa),some (.ref l),o4,o5,o6,o7,o8]/\H'=upd B l (.lst ps)/\B l=none/\aH H B/\Al (Fr K B) ps ((kR J fs d).take i))
    ⟨none,none,none,none,none,H,[],rfl,rfl,hl,aH.refl _,.nil⟩ (fun i σ H' _ ⟨_,_,_,_,_,B,ps,_,e,hB,s,_⟩=>by rw [e];exact ⟨aP.of ((kp (s.trans (ak hB))).lst hu),aP.of ((kp (s.trans (ak hB))).lst hv)⟩) ?_ ?_⟩
   . rintro i y z σ H' T1 hi hi2 ⟨o4,o5,o6,o7,o8,B,ps,rfl,rfl,hB,s,al⟩ hT1;obtain ⟨row,hr1,rr⟩:=Ci.get hi;obtain ⟨f0,hf1,rf⟩:=tR.get hi2;have s0:aH (upd B l (.lst ps)) (upd (upd B l (.lst ps)) T1 (.tup [y,z])):=ak hT1;have s1:aH H (upd (upd B l (.lst ps)) T1 (.tup [y,z])):=(s.trans (ak hB)).trans s0;have hrl:=eL row (List.mem_of_getElem? hr1);have SA:=zJ row (List.mem_of_getElem? hr1);have Vn:=zf f0 (List.mem_of_getElem? hf1);obtain ⟨ra,rs,rfl,J3,Gu⟩:=rr;have l4:=Gu.length;generalize T_:upd (upd B l (.lst ps)) T1 (.tup [.ref ra,z])=H1 at *;have PN:=(kp s1).lst J3;have Ml:=(kp s1).lst hx;refine ⟨_,rfl,?_⟩;refine ⟨_,rfl,_,rfl,_,_,_,_,rfl,aP.of PN,aP.of Ml,BQ (K:=K) (a:=ra) (b:=xa) (xs:=rs) (ys:=xs) (i:=7) (j:=8) (by omega)
      (fun j σ H'=>∃ t o7 o8,σ=[some (.ref ua),some (.ref va),some (.ref xa),some (.ref l),some (.ref ra),some z,some t,o7,o8]/\aH H1 H'/\Fr K H' t (((List.zipWith (fun x y=>x*y) row d).take j).foldl (fun x y=>x+y) f0)/\Ex.Sz (b+(a+c+1)*j) (((List.zipWith (fun x y=>x*y) row d).take j).foldl (fun x y=>x+y) f0))
      ⟨z,o7,o8,rfl,aH.refl _,aL (kp s1) rf,Vn⟩ (fun j σ H' _ ⟨_,_,_,_,s,_⟩=>⟨aP.of ((kp s).lst PN),aP.of ((kp s).lst Ml)⟩) ?_ ?_⟩
     . rintro j y1 y2 σ H' T2 hj hj2 ⟨t,o7,o8,rfl,s2,ht,zt⟩ hT2;obtain ⟨q1,hq1,HV⟩:=Gu.get hj;obtain ⟨q2,hq2,LH⟩:=yX.get hj2;have s3:=s2.trans (ak (o:=.tup [y1,y2]) hT2);have z1:=SA q1 (List.mem_of_getElem? hq1);have z2:=zd q2 (List.mem_of_getElem? hq2);have hjl:j<d.length:=(List.getElem?_eq_some_iff.mp hq2).1;have hm:(a+c+1)*j<=(a+c+1)*d.length:=Nat.mul_le_mul_left _ (by omega);have e:((List.zipWith (fun x y=>x*y) row d).take (j+1)).foldl (fun x y=>x+y) f0=((List.zipWith (fun x y=>x*y) row d).take j).foldl (fun x y=>x+y) f0+q1*q2:=by
        rw [take_snoc (x:=q1*q2) (by rw [List.getElem?_zipWith,hq1,hq2]),List.foldl_append];rfl
       refine ⟨_,rfl,_,rfl,_,rfl,_,_,q1,q2,rfl,aL (kp (s1.trans s3)) HV,aL (kp (s1.trans s3)) LH,z1.mono (gu (by omega)),z2.mono (gu (by omega)),fun v4 H4 s4 Gs=>?_⟩;refine ⟨_,_,_,_,rfl,aL (kp ((ak hT2).trans s4)) ht,Gs,zt.mono (gu (by omega)),(z1.mul z2).mono (gu (by omega)),fun v5 H5 s5 NS=>?_⟩;refine ⟨_,_,_,rfl,(s3.trans s4).trans s5,by rw [e];exact NS,?_⟩;rw [e];exact (zt.add (z1.mul z2)).mono (by rw [Nat.mul_add];omega)
     . rintro σ H' ⟨t,o7,o8,rfl,s2,ht,zt⟩;rw [l4,List.take_of_length_le (by rw [List.length_zipWith];omega)] at ht;have s4:=s0.trans s2;obtain ⟨B',rfl,jQ,s',hq⟩:=kN kM hB s4 ht;refine ⟨_,rfl,.inl ⟨rfl,_,aP.of ao⟩,_,rfl,_,_,_,rfl,rfl,ao,?_,?_⟩
       . rw [al.length,List.length_take];exact Nat.lt_of_le_of_lt (by omega:_<=6) (by decide)
       . refine ⟨_,_,_,_,_,B',ps++[t],rfl,c6,jQ,s.trans s',?_⟩;rw [take_snoc (x:=(List.zipWith (fun x y=>x*y) row d).foldl (fun x y=>x+y) f0) (by unfold kR;rw [List.getElem?_zipWith,hr1,hf1])];exact (aL.al (kp s') al).snoc hq
   . rintro σ H' ⟨o4,o5,o6,o7,o8,B,ps,rfl,rfl,hB,s,al⟩;rw [List.take_of_length_le (by omega)] at al;exact ⟨_,rfl,k _ _ (s.trans (ak hB)) ⟨l,ps,rfl,ao,aL.al (aS hB) al⟩⟩
end
end Pg
namespace Pg
open PySem PySem.Spec PyProof.Rows L2
section
variable {P:Program}{w:World}{K:PySem.W.Frag}{mg:Str->Option Value}{base:Heap}{A:dP}
noncomputable abbrev RL:Hp->V->List (List Int)->Prop:=Ii IL
theorem g_:Mo IL:=jJ.ls
theorem Mr:Mo RL:=jJ.ls.ls
theorem lt_size{n:Nat}(h:n<=1000):n<sizeLine:=Nat.lt_of_le_of_lt h (by decide)
theorem le_size{n:Nat}(h:n<=1000):n<=sizeLine:=Nat.le_of_lt (lt_size h)
noncomputable def nX(K:PySem.W.Frag)(A:dP):Sp:=fun vs H Q _=>∃ z:Int,vs=[.int z]/\Q (.bl (decide (z=0\/z=1))) H
theorem E8(T:Txt K mg A)(D:Def K mg "is_kind" uL ["kind"]) :Has P w K mg base "is_kind" ["kind"] 41 (nX K A):=by
 refine D.has EM (fun vs H Q E h=>?_) (fun f cdv Ar outer s H vs Q E hr h=>?_)
 . obtain ⟨_,rfl,_⟩:=h;rfl
 . skip
   obtain ⟨z,rfl,k⟩:=h;refine ⟨_,(au (aA (OG (gJ cU (pv 0) (aX T.Dm) (aE _)) (Iw (gJ cU (pv 0) (aX T.wB) (aE _)))))),?_⟩;refine ⟨_,rfl,rfl,_,rfl,?_⟩;rw [cc];by_cases h0:z=0
   . rw [decide_eq_true h0];rw [decide_eq_true (Or.inl h0)] at k;exact aW k
   . rw [decide_eq_false h0];refine aQ ⟨_,rfl,rfl,?_⟩;rw [cc];have e:decide (z=0\/z=1)=decide (z=1):=decide_eq_decide.mpr ⟨fun h=>h.resolve_left h0,Or.inr⟩;rw [e] at k;exact k
noncomputable def tU(K:PySem.W.Frag)(A:dP):Sp:=fun vs H Q _=>∃ (v:V) (row:List Rat) (b:Nat),vs=[v,.int b]/\FL K H v row/\(∀ q,q∈row->Ex.Sz M q)/\m9 (b:Int)/\row.length<=5/\
 ∀ a H',H a=none->aH H H'->IL H' (.ref a) (Ex.uF b row)->Q (.ref a) H'
theorem BV(T:Txt K mg A)(D:Def K mg "whole_row" pT ["row","bottom"]) :Has P w K mg base "whole_row" ["row","bottom"] 41 (tU K A):=by
 refine D.has nM (fun vs H Q E h=>?_) (fun f cdv Ar outer s H vs Q E hr h=>?_)
 . obtain ⟨_,_,_,rfl,_⟩:=h;rfl
 . skip
   obtain ⟨v,row,b,rfl,⟨a,vs,rfl,ha,al⟩,hz,hb,hl,k⟩:=h;refine ⟨_,(au (aA (mX rfl nM.nd (eW (pv 0)) (cH (own:=[("fraction",2)]) (by kernel_rfl)) (fun _ _ _ _ _=>(aN (i:=2) nM.nd rfl (Or.inl rfl))) (fun _ _ _ _ _=>dg) (fun _ _ _ _ _=>(bC cu (aD (az (K:=K) rfl) (pv 2) ay (fun _ _=>rfl)) (bC (dB (dp hr (by decide))) (pv 1) (aD (az (K:=K) rfl) (pv 2) ay (fun _ _=>rfl)))))))),?_⟩;have l1:=al.length;have lw:(Ex.uF b row).length=row.length:=by unfold Ex.uF;rw [List.length_map]
   refine ⟨_,rfl,_,rfl,⟨_,aP.of ha⟩,fun D hD=>BR (R:=zE) jJ (zs:=Ex.uF b row) (j:=2) hD (lt_size (by omega)) (aP.of ha) (by omega) (fun i x z B ys hx NT hB s Q2 k2=>?_) (fun B ys s hB oV=>?_)⟩
   . obtain ⟨q,hq,rq⟩:=al.get hx;have zq:=hz q (List.mem_of_getElem? hq);obtain ⟨c,rfl,hc⟩:=aL (kp (s.trans (ak (o:=.lst ys) hB))) rq;have ez:z=q.num*((b:Int).fdiv (q.den:Int)):=by
      unfold Ex.uF at NT;rw [List.getElem?_map,hq] at NT;exact (Option.some.inj NT).symm
     refine ⟨_,rfl,.inr ⟨_,_,_,_,rfl,rfl,hc,rfl,_,rfl,_,rfl,.inr ⟨_,_,_,_,rfl,rfl,hc,rfl,_,_,rfl,rfl,Ex.kj q,_,_,rfl,rfl,⟨nT zq,hb.fdiv⟩,k2 _ B hB (aH.refl _) ?_⟩⟩⟩;rw [ez];rfl
   . exact k D _ hD (s.trans (ak hB)) ⟨D,ys,rfl,ao,jJ.al (aS hB) oV⟩
noncomputable def iR(K:PySem.W.Frag)(A:dP):Sp:=fun vs H Q _=>∃ (v:V) (rows:List (List Rat)) (L:Nat),vs=[v]/\Ik K H v rows/\0<L/\m9 (L:Int)/\(∀ r,r∈rows->∀ q,q∈r->q.den∣L)/\Q (.int (Ex.jC rows:Nat)) H
theorem E9{x L:Nat}(hL:0<L)(h:m9 (L:Int))(hx:x∣L):m9 (x:Int):=Nat.lt_of_le_of_lt (Nat.le_of_dvd hL hx) h
theorem oQ(T:Txt K mg A)(D:Def K mg "common_denominator" fX ["rows"])(bh:Has P w K mg base "common_divisor" ["first","second"] 41 (d_ K A)):Has P w K mg base "common_denominator" ["rows"] 42 (iR K A):=by
 refine D.has cW (fun vs H Q E h=>?_) (fun f cdv Ar outer s H vs Q E hr h=>?_)
 . obtain ⟨_,_,_,rfl,_⟩:=h;rfl
 . skip
   obtain ⟨v,rows,L,rfl,⟨a,vs,rfl,ha,al⟩,hL,bL,hd,k⟩:=h;refine ⟨_,(ah (aI (i:=1) cW.nd rfl (Or.inl rfl) ay)
    (ah (eX PassesOwn.never rfl (eW (pv 0)) (aN (i:=2) cW.nd rfl (Or.inl rfl))
    (au (eX PassesOwn.never rfl (eW (pv 2)) (aN (i:=3) cW.nd rfl (Or.inl rfl))
    (au (aI (i:=1) cW.nd rfl (Or.inl rfl) (bC cu (bC (dB (dp hr (by decide))) (pv 1) (aG bh (hr.mono (by decide)) rfl (af (pv 1) (af (aD (az (K:=K) rfl) (pv 3) ay (fun _ _=>rfl)) ai)))) (aD (az (K:=K) rfl) (pv 3) ay (fun _ _=>rfl))))))))
    (au (aA (pv 1))))),?_⟩
   refine ⟨_,rfl,a,rfl,⟨_,aP.of ha⟩,mT (K:=K) (a:=a) (xs:=vs) (fun i σ H'=>H'=H/\∃ o2 o3,σ=[some (.ref a),some (.int ((rows.take i).foldl Ex.cP 1:Nat)),o2,o3])
    ⟨rfl,none,none,rfl⟩ (fun i σ H' _ ⟨e,_⟩=>by rw [e];exact aP.of ha) ?_ ?_⟩
   . rintro i x σ H' hi ⟨rfl,o2,o3,rfl⟩;obtain ⟨row,eL,ra,rs,rfl,J3,Gu⟩:=al.get hi;have hdr:=hd row (List.mem_of_getElem? eL);have hb0:0<(rows.take i).foldl Ex.cP 1:=Ex.pN _ 1 (by decide);have hb1:(rows.take i).foldl Ex.cP 1∣L:=Ex.jo _ 1 L (Nat.one_dvd _) fun r hr=>hd r (List.mem_of_mem_take hr);have e:(rows.take (i+1)).foldl Ex.cP 1=Ex.cP ((rows.take i).foldl Ex.cP 1) row:=by rw [take_snoc eL,List.foldl_append];rfl
     refine ⟨_,rfl,ra,rfl,⟨_,aP.of J3⟩,mT (K:=K) (a:=ra) (xs:=rs) (fun j σ QV=>QV=H'/\∃ o3,σ=[some (.ref a),some (.int (Ex.cP ((rows.take i).foldl Ex.cP 1) (row.take j):Nat)),some (.ref ra),o3])
      ⟨rfl,o3,rfl⟩ (fun j σ QV _ ⟨e,_⟩=>by rw [e];exact aP.of J3) ?_ ?_⟩
     . rintro j x2 σ QV hj ⟨rfl,o3,rfl⟩;obtain ⟨q,hq,c,rfl,hc⟩:=Gu.get hj;have hp:0<Ex.cP ((rows.take i).foldl Ex.cP 1) (row.take j):=Ex.rD _ _ hb0;have Vo:Ex.cP ((rows.take i).foldl Ex.cP 1) (row.take j)∣L:=Ex.nB _ _ L hb1 fun y hy=>hdr y (List.mem_of_mem_take hy);have e2:Ex.cP ((rows.take i).foldl Ex.cP 1) (row.take (j+1))=Nat.lcm (Ex.cP ((rows.take i).foldl Ex.cP 1) (row.take j)) q.den:=by
        unfold Ex.cP;rw [take_snoc hq,List.foldl_append];rfl
       have hcd:=Ex.fj (x:=((Ex.cP ((rows.take i).foldl Ex.cP 1) (row.take j):Nat):Int)) (Ex.kj q);refine ⟨_,rfl,_,rfl,_,rfl,.inr ⟨_,_,_,_,rfl,rfl,hc,rfl,_,_,rfl,_,_,rfl,rfl,(by omega),_,rfl,.inr ⟨_,_,_,_,rfl,rfl,hc,rfl,_,_,rfl,rfl,⟨(E9 hL bL Vo).fdiv,E9 hL bL (hdr q (List.mem_of_getElem? hq))⟩,rfl,some (.ref c),?_⟩⟩⟩;rw [e2,<-Ex.Jx _ _ hp];rfl
     . rintro σ QV ⟨rfl,o3,rfl⟩;rw [Gu.length,List.take_length];exact ⟨rfl,_,_,by rw [e]⟩
   . rintro σ H' ⟨rfl,o2,o3,rfl⟩;rw [al.length,List.take_length];exact ⟨_,rfl,k⟩
theorem aH.none{H H':Hp}(s:aH H H'){a:Addr}(h:H' a=none):H a=none:=s.free h
noncomputable def qR(K:PySem.W.Frag)(A:dP):Sp:=fun vs H Q _=>∃ (u v:V) (J:List (List Rat)) (fs:List Rat) (n L:Nat),vs=[u,v]/\Ik K H u J/\FL K H v fs/\J.length=fs.length/\fs.length<=6/\n<=4/\(∀ r,r∈J->r.length=n)/\
 0<L/\m9 (L:Int)/\(∀ r,r∈Ex.cF J fs->∀ q,q∈r->q.den∣L/\Ex.Sz M q)/\∀ x H',aH H H'->RL H' x (Ex.bM J fs)->Q x H'
theorem zL(T:Txt K mg A)(D:Def K mg "whole_rows" nL ["table","results"])(f6:Has P w K mg base "common_denominator" ["rows"] 42 (iR K A))(p9:Has P w K mg base "whole_row" ["row","bottom"] 41 (tU K A))(dw:Has P w K mg base "negative" ["fraction"] 41 (jz K A)):Has P w K mg base "whole_rows" ["table","results"] 43 (qR K A):=by
 refine D.has eN (fun vs H Q E h=>?_) (fun f cdv Ar outer s H vs Q E hr h=>?_)
 . obtain ⟨_,_,_,_,_,_,rfl,_⟩:=h;rfl
 . skip
   obtain ⟨u,v,J,fs,n,L,rfl,⟨ua,us,rfl,hu,Ci⟩,⟨va,vs,rfl,hv,tR⟩,NR,h6,hn,hw,hL,bL,hq,k⟩:=h;refine ⟨_,(ah (j6 (i:=2) rfl eN.nd rfl rfl (nu rfl rfl rfl rfl) (nv rfl T.tD (af (pv 0) (af (pv 1) ai))) (cH (own:=[("slopes",4),("result",5)]) (by kernel_rfl)) (fun _ _ _ _ _=>(fq (K:=K) 2 rfl rfl (bG (aN (i:=4) eN.nd rfl (Or.inl rfl)) (bG (aN (i:=5) eN.nd rfl (Or.inl rfl)) ff)))) (fun _ _ _ _ _=>dg) (fun _ _ _ _ _=>(bC xx (pv 4) (aR (af (aG dw (hr.mono (by decide)) rfl (af (pv 5) ai)) ai)))))
    (ah (aI (i:=3) eN.nd rfl (Or.inr rfl) (aG f6 (hr.mono (by decide)) rfl (af (pv 2) ai)))
    (au (aA (mX rfl eN.nd (eW (pv 2)) (cH (own:=[("row",6)]) (by kernel_rfl)) (fun _ _ _ _ _=>(aN (i:=6) eN.nd rfl (Or.inl rfl))) (fun _ _ _ _ _=>dg) (fun _ _ _ _ _=>(aG p9 (hr.mono (by decide)) rfl (af (pv 6) (af (pv 3) ai))))))))),?_⟩
   have l1:=Ci.length;have l2:=tR.length;have le:=Ex.nD NR;refine ⟨_,rfl,_,rfl,_,_,_,_,rfl,aP.of hu,aP.of hv,fun D hD=>HQ (R:=FL K) aL.ls (zs:=Ex.cF J fs) (i:=4) (j:=5) (by decide) hD (lt_size (by omega)) (aP.of hu) (aP.of hv) (by omega) (by omega) (fun i x y z B ys T1 hx hy hz hB s hT1 Q2 k2=>?_) (fun B ys s hB oV=>?_)⟩
   . obtain ⟨row,eL,rr⟩:=Ci.get hx;obtain ⟨f0,Vp,rf⟩:=tR.get hy;have ez:z=row++[-f0]:=by
      unfold Ex.cF at hz;rw [List.getElem?_zipWith,eL,Vp] at hz;exact (Option.some.inj hz).symm
     have hrl:=hw row (List.mem_of_getElem? eL);have s1:aH (upd B D (.lst ys)) (upd (upd B D (.lst ys)) T1 (.tup [x,y])):=ak hT1;have s2:aH H (upd (upd B D (.lst ys)) T1 (.tup [x,y])):=(s.trans (ak hB)).trans s1;obtain ⟨ra,rs,rfl,J3,Gu⟩:=rr;refine ⟨_,rfl,_,rfl,_,_,rfl,aL (kp s2) rf,fun v1 H3 s3 hv1=>⟨(by show 1<=sizeLine;decide),fun p hp=>⟨ra,p,rs,[v1],rfl,rfl,?_,ao,?_,fun q hq=>?_⟩⟩⟩
     . exact (kp ((s2.trans s3).trans (ak hp))).lst J3
     . rw [Gu.length];show row.length+1<=sizeLine;exact le_size (by omega)
     . have s4:=(s3.trans (ak (o:=.lst [v1]) hp)).trans (ak (o:=.lst (rs++[v1])) hq);have fl:FL K (upd (upd H3 p (.lst [v1])) q (.lst (rs++[v1]))) (.ref q) z:=by
        rw [ez];exact ⟨q,_,rfl,ao,(aL.al (kp (s2.trans s4)) Gu).app (.cons (aL (kp ((ak hp).trans (ak hq))) hv1) .nil)⟩
       obtain ⟨B',e',jQ,s',Vq⟩:=JU kM hB (fun a ea=>by
        have ea:q=a:=by injection ea
        rw [<-ea];exact (s1.trans s3).free ((ak hp).free hq)) (s1.trans s4) fl
       rw [e'];exact k2 _ B' jQ s' Vq
   . have s1:aH H (upd B D (.lst ys)):=s.trans (ak hB);have yY:=aL.ls.al (aS (o:=.lst ys) hB) oV;have l3:=yY.length;refine ⟨_,rfl,_,_,L,rfl,⟨D,ys,rfl,ao,yY⟩,hL,bL,fun r hr q hq'=>(hq r hr q hq').1,?_⟩;have bb:m9 ((Ex.jC (Ex.cF J fs):Nat):Int):=E9 hL bL (Ex.jo _ 1 L (Nat.one_dvd _) fun r hr q hq'=>(hq r hr q hq').1);refine ⟨_,rfl,_,rfl,⟨_,aP.of ao⟩,fun D2 NU=>BR (R:=IL) g_ (zs:=Ex.bM J fs) (j:=6) NU (lt_size ?_) (aP.of ao) ?_ (fun i x z B2 vW hx hz hB2 s2 Q2 k2=>?_) (fun B2 vW s2 hB2 LI=>?_)⟩
     . rw [Ex.iZ NR];omega
     . rw [Ex.iZ NR];omega
     . obtain ⟨row,eL,rr⟩:=yY.get hx;have ez:z=Ex.uF (Ex.jC (Ex.cF J fs)) row:=by
        unfold Ex.bM at hz;rw [List.getElem?_map,eL] at hz;exact (Option.some.inj hz).symm
       have hm:=List.mem_of_getElem? eL;have s3:aH (upd B D (.lst ys)) (upd B2 D2 (.lst vW)):=s2.trans (ak hB2);refine ⟨_,rfl,_,rfl,_,row,_,rfl,aL.ls (kp s3) rr,fun q hq'=>(hq row hm q hq').2,bb,?_,fun a H4 ha s4 hil=>?_⟩
       . obtain ⟨b1,f1,hb1,_,e1⟩:=Ex.nF hm;rw [e1,List.length_append,hw b1 hb1];show n+1<=5;omega
       . rw [<-ez] at hil;obtain ⟨B',e',jQ,s',SD⟩:=JU EZ hB2 (fun a' ea=>by
          have ea:a=a':=by injection ea
          rw [<-ea];exact ha) s4 hil
         rw [e'];exact k2 _ B' jQ s' SD
     . exact k _ _ (s1.trans (s2.trans (ak hB2))) ⟨D2,vW,rfl,ao,g_.al (aS hB2) LI⟩
theorem Il.at_{H:Hp}{v:V}{r:List Int}(h:IL H v r){j:Nat}(hj:j<r.length):∃ a vs,v=.ref a/\H a=some (.lst vs)/\vs[j]?=some (.int (r.getD j 0)):=by
 obtain ⟨a,e,h⟩:=h.at_;refine ⟨a,_,e,h,?_⟩;rw [List.getElem?_map,List.getElem?_eq_getElem hj,List.getD_eq_getElem?_getD,List.getElem?_eq_getElem hj];rfl
noncomputable def lN(K:PySem.W.Frag)(A:dP):Sp:=fun vs H Q _=>∃ (v:V) (rows:List (List Int)) (i j n:Nat),vs=[v,.int i,.int j]/\RL H v rows/\Ex.Wide n rows/\i<n/\j<n/\rows.length<=6/\Ex.fM M rows/\∀ H',aH H H'->Q (.int (Ex.wu rows i j)) H'
theorem tV(T:Txt K mg A)(D:Def K mg "column_product" i_ ["rows","first","second"]) :Has P w K mg base "column_product" ["rows","first","second"] 41 (lN K A):=by
 refine D.has iD (fun vs H Q E h=>?_) (fun f cdv Ar outer s H vs Q E hr h=>?_)
 . obtain ⟨_,_,_,_,_,rfl,_⟩:=h;rfl
 . skip
   obtain ⟨v,rows,i,j,n,rfl,⟨a,vs,rfl,ha,al⟩,hw,hi,hj,h6,hb,k⟩:=h;refine ⟨_,(au (aA (bu (M7 rfl) (by rfl) T.Po HM (af (mX rfl iD.nd (eW (pv 0)) (cH (own:=[("row",3)]) (by kernel_rfl)) (fun _ _ _ _ _=>(aN (i:=3) iD.nd rfl (Or.inl rfl))) (fun _ _ _ _ _=>dg) (fun _ _ _ _ _=>(bC cu (aD (az (K:=K) rfl) (pv 3) (pv 1) (fun _ _=>rfl)) (aD (az (K:=K) rfl) (pv 3) (pv 2) (fun _ _=>rfl))))) ai)))),?_⟩;have l1:=al.length;refine ⟨_,rfl,_,rfl,⟨_,aP.of ha⟩,fun D hD=>BR (R:=zE) jJ (zs:=rows.map fun r=>r.getD i 0*r.getD j 0) (j:=3) hD (lt_size (by rw [List.length_map];omega)) (aP.of ha) (by rw [List.length_map];omega) (fun r x z B ys hx hz hB s Q2 k2=>?_) (fun B ys s hB oV=>?_)⟩
   . obtain ⟨row,eL,rr⟩:=al.get hx;have hm:=List.mem_of_getElem? eL;have rr:=g_ (kp (s.trans (ak (o:=.lst ys) hB))) rr;obtain ⟨b,bs,rfl,h1,h2⟩:=Il.at_ rr (j:=i) (by rw [hw row hm];exact hi);obtain ⟨b',bs',e,GZ,h2'⟩:=Il.at_ rr (j:=j) (by rw [hw row hm];exact hj);have e:b=b':=by injection e
     subst e;have ez:z=row.getD i 0*row.getD j 0:=by
      rw [List.getElem?_map,eL] at hz;exact (Option.some.inj hz).symm
     refine ⟨_,rfl,_,rfl,.inl ⟨_,_,_,_,rfl,rfl,aP.of h1,at_of (j:=i) rfl h2,_,rfl,_,rfl,.inl ⟨_,_,_,_,rfl,rfl,aP.of GZ,at_of (j:=j) rfl h2',_,_,rfl,rfl,⟨Ex.jW (hb row hm) i,Ex.jW (hb row hm) j⟩,k2 _ B hB (aH.refl _) ?_⟩⟩⟩;rw [ez];rfl
   . have kk:=k _ (s.trans (ak (o:=.lst ys) hB));refine ⟨_,rows.map fun r:List Int=>r.getD i 0*r.getD j 0,rfl,aP.of ?_,kk⟩;rw [<-BP oV];exact ao
noncomputable def oA(K:PySem.W.Frag)(A:dP):Sp:=fun vs H Q _=>∃ (v:V) (rows:List (List Int)) (n:Nat),vs=[v,.int n]/\RL H v rows/\Ex.Wide (n+1) rows/\n<=4/\rows.length<=6/\Ex.fM M rows/\∀ x H',aH H H'->RL H' x (Ex.g7 rows n)->Q x H'
theorem wK(T:Txt K mg A)(D:Def K mg "turned_times" kr ["rows","inputs"])(je:Has P w K mg base "column_product" ["rows","first","second"] 41 (lN K A)):Has P w K mg base "turned_times" ["rows","inputs"] 42 (oA K A):=by
 refine D.has fB (fun vs H Q E h=>?_) (fun f cdv Ar outer s H vs Q E hr h=>?_)
 . obtain ⟨_,_,_,rfl,_⟩:=h;rfl
 . skip
   obtain ⟨v,rows,n,rfl,hv,hw,hn,h6,hb,k⟩:=h;have hv':=hv;obtain ⟨a,vs,rfl,ha,al⟩:=hv';refine ⟨_,(ah (aI (i:=2) fB.nd rfl (Or.inl rfl) (aR ai))
    (ah (eX PassesOwn.never rfl (f_ rfl T.jr (af (pv 1) ai)) (aN (i:=3) fB.nd rfl (Or.inr rfl))
    (au (dD (lB PySem.F.plainAttrs_list PySem.F.slot_list_append PySem.F.type_list_append dX (pv 2) (af (mX rfl fB.nd (f_ rfl T.jr (af (bC iU (pv 1) ay) ai)) (cH (own:=[("column",4)]) (by kernel_rfl)) (fun _ _ _ _ _=>(aN (i:=4) fB.nd rfl (Or.inl rfl))) (fun _ _ _ _ _=>dg) (fun _ _ _ _ _=>(aG je (hr.mono (by decide)) rfl (af (pv 0) (af (pv 3) (af (pv 4) ai)))))) ai)))))
    (au (aA (pv 2))))),?_⟩
   refine ⟨Nat.zero_le _,fun l hl=>?_⟩;refine ⟨_,rfl,_,rfl,(by omega),(by omega),kQ (n:=(n:Int).toNat) (j:=3) (fun i σ H'=>∃ o3 B ps,σ=[some (.ref a),some (.int n),some (.ref l),o3,none]/\H'=upd B l (.lst ps)/\B l=none/\aH H B/\Al (IL B) ps ((List.range i).map fun i=>(List.range (n+1)).map fun j=>Ex.wu rows i j))
    ⟨none,H,[],rfl,rfl,hl,aH.refl _,.nil⟩ ?_ ?_⟩
   . rintro i σ H' hi ⟨o3,B,ps,rfl,rfl,hB,s,oV⟩;have hi:i<n:=by omega
     have s1:aH H (upd B l (.lst ps)):=s.trans (ak hB);refine ⟨_,rfl,.inl ⟨rfl,_,aP.of ao⟩,_,rfl,_,_,rfl,rfl,_,rfl,(by omega),(by omega),fun D hD=>JZ (R:=zE) jJ (zs:=(List.range (n+1)).map fun j=>Ex.wu rows i j) (j:=4) hD (lt_size (by rw [List.length_map,List.length_range];omega)) (by rw [List.length_map,List.length_range];omega) (fun c z B2 ys hz hB2 s2 Q2 k2=>?_) (fun B2 ys s2 hB2 yY=>?_)⟩
     . have hc:c<n+1:=by
        have:=(List.getElem?_eq_some_iff.mp hz).1;rw [List.length_map,List.length_range] at this;exact this
       have ez:z=Ex.wu rows i c:=by
        rw [List.getElem?_map,List.getElem?_range hc] at hz;exact (Option.some.inj hz).symm
       have s3:aH (upd B l (.lst ps)) (upd B2 D (.lst ys)):=s2.trans (ak hB2);refine ⟨_,rfl,_,rfl,_,rfl,_,rows,i,c,n+1,rfl,Mr (kp (s1.trans s3)) hv,hw,(by omega),hc,h6,hb,fun H4 s4=>?_⟩;obtain ⟨B',e',jQ,s'⟩:=cut hB2 s4;rw [e'];exact k2 _ B' jQ s' (by rw [ez];rfl)
     . have s3:aH (upd B l (.lst ps)) (upd B2 D (.lst ys)):=s2.trans (ak hB2);have Ol:D≠l:=(bg ao hD).symm;refine ⟨_,_,_,rfl,rfl,s3 _ _ ao,?_,?_⟩
       . rw [oV.length,List.length_map,List.length_range];exact lt_size (by omega)
       . have fr:IL (upd B2 D (.lst ys)) (.ref D) ((List.range (n+1)).map fun j=>Ex.wu rows i j):=⟨D,ys,rfl,ao,jJ.al (aS hB2) yY⟩
         obtain ⟨B',e',jQ,s'⟩:=cut hB s3;rw [e'] at fr;refine ⟨_,B',ps++[.ref D],rfl,by rw [e'];exact c6,jQ,s.trans s',?_⟩;rw [List.range_succ (n:=i),List.map_append];exact (g_.al (kp s') oV).snoc (EZ.ls jQ (fun z=>Ol (by injection z)) fr)
   . rintro σ H' ⟨o3,B,ps,rfl,rfl,hB,s,oV⟩;rw [Int.toNat_natCast] at oV;exact ⟨_,rfl,k _ _ (s.trans (ak hB)) ⟨l,ps,rfl,ao,g_.al (aS hB) oV⟩⟩
end
end Pg
namespace Pg
open PySem PySem.Spec PyProof.Rows L2
section
variable {P:Program}{w:World}{K:PySem.W.Frag}{mg:Str->Option Value}{base:Heap}{A:dP}
theorem zM{rows:List (List Int)}{c st i:Nat}(h0:∀ k,k<i->Ex.cell rows (st+k) c=0)(h1:¬ Ex.cell rows (st+i) c=0)(hl:st+i<rows.length):Ex.dN rows c st=some (st+i):=by
 unfold Ex.dN;rw [List.find?_eq_some_iff_append];refine ⟨by simp [h1],List.range (st+i),(List.range' (st+i+1) (rows.length-(st+i+1))),?_,?_⟩
 . rw [List.range_eq_range',List.range_eq_range'];have e:(st+i)::List.range' (st+i+1) (rows.length-(st+i+1))=List.range' (st+i) (rows.length-(st+i)):=by
    rw [show rows.length-(st+i)=(rows.length-(st+i+1))+1 by omega,List.range'_succ]
   have e3:=List.range'_append_1 (s:=0) (m:=st+i) (n:=rows.length-(st+i));rw [Nat.zero_add] at e3;rw [e,e3];congr 1;omega
 . intro a ha;have ha:=List.mem_range.mp ha;by_cases h:st<=a
   . have:=h0 (a-st) (by omega);rw [show st+(a-st)=a by omega] at this;simp [this]
   . simp [h]
theorem zN{rows:List (List Int)}{c st:Nat}(h0:∀ k,st+k<rows.length->Ex.cell rows (st+k) c=0):Ex.dN rows c st=none:=by
 unfold Ex.dN;rw [List.find?_eq_none];intro a ha;have ha:=List.mem_range.mp ha;by_cases h:st<=a
 . have:=h0 (a-st) (by omega);rw [show st+(a-st)=a by omega] at this;simp [this]
 . simp [h]
theorem Rl.at_{H:Hp}{vs:List V}{rows:List (List Int)}(al:Al (IL H) vs rows){n i c:Nat}(hi:i<rows.length)(hw:Ex.Wide n rows)(hc:c<n) :
 ∃ r rs,vs[i]?=some (.ref r)/\H r=some (.lst rs)/\rs[c]?=some (.int (Ex.cell rows i c)):=by
 obtain ⟨u,h1,h2⟩:=al.at_ (i:=i) (x:=rows[i]) (List.getElem?_eq_getElem hi);obtain ⟨r,rs,rfl,h3,h4⟩:=Il.at_ h2 (j:=c) (by rw [hw _ (List.getElem_mem hi)];exact hc);refine ⟨r,rs,h1,h3,?_⟩;rw [h4];unfold Ex.cell;rw [List.getD_eq_getElem?_getD (l:=rows),List.getElem?_eq_getElem hi];rfl
noncomputable def SE(o:Option Nat):V:=match o with
 |none=>.non
 |some p=>.int (p:Nat)
noncomputable def lO(K:PySem.W.Frag)(A:dP):Sp:=fun vs H Q _=>∃ (v:V) (rows:List (List Int)) (c st n:Nat),vs=[v,.int c,.int st]/\RL H v rows/\Ex.Wide n rows/\c<n/\rows.length<=6/\st<=6/\Q (SE (Ex.dN rows c st)) H
theorem tW(T:Txt K mg A)(D:Def K mg "first_row_with" ja ["rows","column","start"]) :Has P w K mg base "first_row_with" ["rows","column","start"] 41 (lO K A):=by
 refine D.has lM (fun vs H Q E h=>?_) (fun f cdv Ar outer s H vs Q E hr h=>?_)
 . obtain ⟨_,_,_,_,_,rfl,_⟩:=h;rfl
 . skip
   obtain ⟨v,rows,c,st,n,rfl,⟨a,vs,rfl,ha,al⟩,hw,hc,h6,hst,k⟩:=h;refine ⟨_,(ah (eX PassesOwn.never rfl (GN rfl T.jr (af (pv 2) (af (bu (aY) (by rfl) T.gF bU (af (pv 0) ai)) ai))) (aN (i:=3) lM.nd rfl (Or.inl rfl))
    (au (aM (aC lA (aD (az (K:=K) rfl) (aD (az (K:=K) rfl) (pv 0) (pv 3) (fun _ _=>rfl)) (pv 1) (fun _ _=>rfl)) ay (aE _)) (au (aA (pv 3)))
    aF)))
    (au (aA bF))),?_⟩
   have l1:=al.length;refine ⟨_,rfl,_,rfl,_,_,rfl,.inl (aP.of ha),_,_,rfl,⟨by omega,by omega,by omega,by omega⟩,um (lo:=(st:Int)) (n:=((vs.length:Int)-(st:Int)).toNat) (fun i σ H'=>H'=H/\(∃ o,σ=[some (.ref a),some (.int c),some (.int st),o])/\∀ k,k<i->Ex.cell rows (st+k) c=0)
    ⟨rfl,⟨none,rfl⟩,fun k hk=>absurd hk (Nat.not_lt_zero k)⟩ ?_ ?_⟩
   . rintro i σ H' hi ⟨rfl,⟨o,rfl⟩,h0⟩;have hlt:st+i<rows.length:=by omega
     obtain ⟨r,rs,g1,g2,g3⟩:=Rl.at_ al hlt hw hc;refine ⟨_,rfl,_,rfl,.inl ⟨_,_,_,_,rfl,rfl,aP.of ha,at_of (j:=st+i) (by omega) g1,_,rfl,.inl ⟨_,_,_,_,rfl,rfl,aP.of g2,at_of (j:=c) rfl g3,rfl,_,rfl,?_⟩⟩⟩;rw [cc];by_cases hz:Ex.cell rows (st+i) c=0
     . rw [decide_eq_true hz];refine aQ ⟨rfl,⟨_,rfl⟩,fun k hk=>?_⟩;by_cases hki:k=i
       . rw [hki];exact hz
       . exact h0 k (by omega)
     . rw [decide_eq_false hz];rw [zM h0 hz hlt] at k;refine aW ⟨_,rfl,?_⟩;have e:(st:Int)+(i:Int)=((st+i:Nat):Int):=by omega
       rw [e];exact k
   . rintro σ H' ⟨rfl,⟨o,rfl⟩,h0⟩;rw [zN fun k hk=>h0 k (by omega)] at k;exact k
noncomputable def yG(K:PySem.W.Frag)(A:dP):Sp:=fun vs H Q _=>∃ (u v:V) (row lead:List Int) (c n:Nat) (d:Int),vs=[u,v,.int c,.int d]/\IL H u row/\IL H v lead/\row.length=n/\lead.length=n/\c<n/\n<=5/\d≠0/\(∀ x,x∈row->m9 x)/\(∀ x,x∈lead->m9 x)/\
 ∀ a H',H a=none->aH H H'->IL H' (.ref a) (Ex.d7 row lead c d)->Q (.ref a) H'
theorem E_(T:Txt K mg A)(D:Def K mg "cleared" uM ["row","lead_row","column","lead_before"]) :Has P w K mg base "cleared" ["row","lead_row","column","lead_before"] 41 (yG K A):=by
 refine D.has jb (fun vs H Q E h=>?_) (fun f cdv Ar outer s H vs Q E hr h=>?_)
 . obtain ⟨_,_,_,_,_,_,_,rfl,_⟩:=h;rfl
 . skip
   obtain ⟨u,v,row,lead,c,n,d,rfl,hu,hv,l1,l2,hc,hn,hd,br,bl,k⟩:=h;obtain ⟨ua,us,rfl,hu1,R4⟩:=Il.at_ hu (j:=c) (by omega);obtain ⟨va,vs,rfl,hv1,hv2⟩:=Il.at_ hv (j:=c) (by omega);obtain ⟨Vr,e1,QW⟩:=hu.at_;obtain ⟨Vs,e2,zK⟩:=hv.at_;have e1:ua=Vr:=by injection e1
   have e2:va=Vs:=by injection e2
   subst e1 e2;refine ⟨_,(ah (aI (i:=4) jb.nd rfl (Or.inr rfl) (aD (az (K:=K) rfl) (pv 1) (pv 2) (fun _ _=>rfl)))
    (ah (aI (i:=5) jb.nd rfl (Or.inr rfl) (aD (az (K:=K) rfl) (pv 0) (pv 2) (fun _ _=>rfl)))
    (au (aA (mX rfl jb.nd (nv rfl T.tD (af (pv 0) (af (pv 1) ai))) (cH (own:=[("left",6),("right",7)]) (by kernel_rfl)) (fun _ _ _ _ _=>(fq (K:=K) 2 rfl rfl (bG (aN (i:=6) jb.nd rfl (Or.inl rfl)) (bG (aN (i:=7) jb.nd rfl (Or.inl rfl)) ff)))) (fun _ _ _ _ _=>dg) (fun _ _ _ _ _=>(bC (dB (dp hr (by decide))) (bC MT (bC cu (pv 4) (pv 6)) (bC cu (pv 5) (pv 7))) (pv 3)))))))),?_⟩
   have lz:(Ex.d7 row lead c d).length=n:=by unfold Ex.d7;rw [List.length_zipWith];omega
   refine ⟨_,rfl,_,rfl,.inl ⟨_,_,_,_,rfl,rfl,aP.of hv1,at_of (j:=c) rfl hv2,?_⟩⟩;refine ⟨_,rfl,_,rfl,.inl ⟨_,_,_,_,rfl,rfl,aP.of hu1,at_of (j:=c) rfl R4,?_⟩⟩;refine ⟨_,rfl,_,rfl,_,_,_,_,rfl,aP.of QW,aP.of zK,fun D hD=>HQ (R:=zE) jJ (zs:=Ex.d7 row lead c d) (i:=6) (j:=7) (by decide) hD (lt_size (by omega)) (aP.of QW) (aP.of zK) (by rw [List.length_map];omega) (by rw [List.length_map];omega) (fun i x y z B ys T1 hx hy hz hB s hT1 Q2 k2=>?_) (fun B ys s hB oV=>?_)⟩
   . obtain ⟨x',hx',rfl⟩:∃ x',row[i]?=some x'/\x=.int x':=by
      rw [List.getElem?_map] at hx;cases e:row[i]? with
      |none=>rw [e] at hx;cases hx
      |some x'=>rw [e] at hx;exact ⟨x',rfl,(Option.some.inj hx).symm⟩
     obtain ⟨y',hy',rfl⟩:∃ y',lead[i]?=some y'/\y=.int y':=by
      rw [List.getElem?_map] at hy;cases e:lead[i]? with
      |none=>rw [e] at hy;cases hy
      |some y'=>rw [e] at hy;exact ⟨y',rfl,(Option.some.inj hy).symm⟩
     have ez:z=(lead.getD c 0*x'-row.getD c 0*y').fdiv d:=by
      unfold Ex.d7 at hz;rw [List.getElem?_zipWith,hx',hy'] at hz;exact (Option.some.inj hz).symm
     have s1:aH (upd B D (.lst ys)) (upd (upd B D (.lst ys)) T1 (.tup [.int x',.int y'])):=ak hT1;obtain ⟨B',e',jQ,s'⟩:=cut hB s1;refine ⟨_,rfl,_,rfl,_,_,rfl,rfl,⟨Ex.jW bl c,br x' (List.mem_of_getElem? hx')⟩,_,rfl,_,rfl,_,_,rfl,rfl,⟨Ex.jW br c,bl y' (List.mem_of_getElem? hy')⟩,_,_,rfl,rfl,_,rfl,_,_,rfl,rfl,hd,?_⟩;rw [e'];exact k2 _ B' jQ s' (by rw [ez];rfl)
   . exact k D _ hD (s.trans (ak hB)) ⟨D,ys,rfl,ao,jJ.al (aS hB) oV⟩
noncomputable def Vt(K:PySem.W.Frag)(H:Hp)(r:V)(X:Ex.gx):Prop:=∃ p u v,r=.ref p/\fG K H p [u,v]/\RL H u X.rows/\IL H v (fy X.ps)
noncomputable def J4(la:Addr):Hp->V->List Int->Prop:=fun H v x=>IL H v x/\v≠.ref la
theorem BW{la:Addr}:Mo (J4 la):=⟨fun k h=>⟨g_ k h.1,h.2⟩⟩
theorem LJ{la:Addr}{B:Hp}{vs:List V}{rows:List (List Int)}(h:B la=none):Al (IL B) vs rows->Al (J4 la B) vs rows:=fun al=>al.imp fun v x r=>⟨r,by
 obtain ⟨a,ws,rfl,ha,_⟩:=r;intro z;have z:a=la:=by injection z
 rw [z,h] at ha;cases ha⟩
theorem NV{la:Addr}{B:Hp}{v:V}{x:List Int}(h:J4 la B v x):IL (fun b=>if b=la then none else B b) v x:=by
 obtain ⟨⟨a,ws,rfl,ha,al⟩,hn⟩:=h;have hne:¬ a=la:=fun z=>hn (by rw [z]);exact ⟨a,ws,rfl,by show (if a=la then none else B a)=_;rw [if_neg hne];exact ha,al⟩
theorem LK{R:V->List Int->Prop}{vs:List V}{rows:List (List Int)}{k p:Nat}{x y:V}(al:Al R vs rows)(hx:vs[p]?=some x)(hy:vs[k]?=some y):Al R ((vs.set p y).set k x) (Ex.gZ rows k p):=by
 obtain ⟨rx,h1,h2⟩:=al.get hx;obtain ⟨ry,h3,h4⟩:=al.get hy;unfold Ex.gZ;have e1:rows.getD k []=ry:=by rw [List.getD_eq_getElem?_getD,h3];rfl
 have e2:rows.getD p []=rx:=by rw [List.getD_eq_getElem?_getD,h1];rfl
 rw [e1,e2];exact (al.set h4 p).set h2 k
noncomputable def fJ(K:PySem.W.Frag)(A:dP):Sp:=fun vs H Q _=>∃ (v:V) (rows:List (List Int)) (n e:Nat),vs=[v,.int n]/\RL H v rows/\Ex.Wide (n+1) rows/\n<=4/\rows.length<=6/\Ex.fM e rows/\Ex.gs n e<=67108864/\
 ∀ r H',aH H H'->Vt K H' r (Ex.dU rows n)->Q r H'
theorem BX{n:Nat}{z:Int}{j:Nat}(e:z=(j:Int))(h:j<n):KU n z=some j:=by
 subst e;unfold KU;rw [if_pos (by omega),if_pos (by omega)];simp
theorem oR(T:Txt K mg A)(D:Def K mg "brought_into_steps" fY ["rows","inputs"])(jf:Has P w K mg base "first_row_with" ["rows","column","start"] 41 (lO K A))(u_:Has P w K mg base "cleared" ["row","lead_row","column","lead_before"] 41 (yG K A)):Has P w K mg base "brought_into_steps" ["rows","inputs"] 42 (fJ K A):=by
 refine D.has aU (fun vs H Q E h=>?_) (fun f cdv Ar outer s H vs Q E hr h=>?_)
 . obtain ⟨_,_,_,_,rfl,_⟩:=h;rfl
 . skip
   obtain ⟨v,rows0,n,e0,rfl,⟨a,NO,rfl,ha,Vu⟩,hw0,hn,Mj,hb0,Vv,k⟩:=h;refine ⟨_,(ah (aI (i:=2) aU.nd rfl (Or.inl rfl) (uq sy (by rfl) T.JJ yx (af (pv 0) ai)))
    (ah (aI (i:=3) aU.nd rfl (Or.inl rfl) (aR ai))
    (ah (aI (i:=4) aU.nd rfl (Or.inr rfl) ay)
    (ah (eX PassesOwn.never rfl (f_ rfl T.jr (af (pv 1) ai)) (aN (i:=5) aU.nd rfl (Or.inr rfl))
    (ah (aI (i:=6) aU.nd rfl (Or.inr rfl) (bu (aY) (by rfl) T.gF bU (af (pv 3) ai)))
    (ah (aI (i:=7) aU.nd rfl (Or.inl rfl) (aG jf (hr.mono (by decide)) rfl (af (pv 2) (af (pv 5) (af (pv 6) ai)))))
    (au (aM (aC wX (pv 7) bF (aE _)) (ah (aI (i:=8) aU.nd rfl (Or.inr rfl) (aD (az (K:=K) rfl) (pv 2) (pv 7) (fun _ _=>rfl)))
    (ah (D3 (aD (az (K:=K) rfl) (pv 2) (pv 6) (fun _ _=>rfl)) (DZ (pv 2) (pv 7) set_list))
    (ah (D3 (pv 8) (DZ (pv 2) (pv 6) set_list))
    (ah (j6 (i:=2) rfl aU.nd rfl rfl (nu rfl rfl rfl rfl) (sE rfl T.jy (af (pv 2) ai)) (cH (own:=[("place",9),("row",10)]) (by kernel_rfl)) (fun _ _ _ _ _=>(fq (K:=K) 2 rfl rfl (bG (aN (i:=9) aU.nd rfl (Or.inl rfl)) (bG (aN (i:=10) aU.nd rfl (Or.inl rfl)) ff)))) (fun _ _ _ _ _=>dg) (fun _ _ _ _ _=>(Cn (aC cU (pv 9) (pv 6) (aE _)) (pv 10) (aG u_ (hr.mono (by decide)) rfl (af (pv 10) (af (pv 8) (af (pv 5) (af (pv 4) ai))))))))
    (ah (dD (lB PySem.F.plainAttrs_list PySem.F.slot_list_append PySem.F.type_list_append dX (pv 3) (af (pv 5) ai)))
    (au (aI (i:=4) aU.nd rfl (Or.inr rfl) (aD (az (K:=K) rfl) (pv 8) (pv 5) (fun _ _=>rfl)))))))))
    aF)))))
    (au (aA (gq (af (pv 2) (af (pv 3) ai))))))))),?_⟩
   refine ⟨_,rfl,_,_,rfl,.inl (aP.of ha),fun QX PR=>?_⟩;refine ⟨Nat.zero_le _,fun la hla=>?_⟩;have SG:H la=none:=(ak PR).free hla;have SH:QX≠la:=by
    rintro rfl;rw [ao] at hla;cases hla
   refine ⟨_,rfl,_,rfl,(by omega),(by omega),kQ (n:=(n:Int).toNat) (j:=5)
    (fun i σ H'=>∃ o5 o6 o7 o8 B sa rv X e,σ=[some (.ref a),some (.int n),some (.ref sa),some (.ref la),some (.int X.d),o5,o6,o7,o8,none,none]/\H'=upd (upd B sa (.lst rv)) la (.lst ((fy X.ps).map V.int))/\B sa=none/\B la=none/\sa≠la/\aH H B/\Al (IL B) rv X.rows/\
     Ex.dU rows0 n=Ex.gy (n-i) i X/\Ex.Wide (n+1) X.rows/\X.rows.length<=6/\X.ps.length<=i/\X.d≠0/\Ex.fM e X.rows/\Ex.gs (n-i) e<=67108864)
    ⟨none,none,none,none,H,QX,NO,⟨rows0,[],1⟩,e0,rfl,rfl,PR,SG,SH,aH.refl _,Vu,rfl,hw0,Mj,Nat.le_refl _,Int.one_ne_zero,hb0,Vv⟩ ?_ ?_⟩
   . rintro i σ H' hi ⟨o5,o6,o7,o8,B,sa,rv,X,e,rfl,rfl,HW,hla,hsl,s,al,eb,hw,h6,hps,hd,hb,hg⟩;have hi:i<n:=by omega
     have l1:=al.length;have SI:(upd B sa (.lst rv)) la=none:=by rw [aJ hsl.symm];exact hla
     have s1:aH B (upd B sa (.lst rv)):=ak HW;have s2:aH B (upd (upd B sa (.lst rv)) la (.lst ((fy X.ps).map V.int))):=s1.trans (ak SI);have Oo:(upd (upd B sa (.lst rv)) la (.lst ((fy X.ps).map V.int))) sa=some (.lst rv):=by rw [aJ hsl,ao]
     have Im:(fy X.ps).length=X.ps.length:=by unfold fy;rw [List.length_map]
     have Vw:Ex.gy (n-i) i X=match Ex.dN X.rows i X.ps.length with
      |none=>Ex.gy (n-(i+1)) (i+1) X
      |some p=>Ex.gy (n-(i+1)) (i+1) ⟨Ex.fz X.rows X.ps.length p i X.d,X.ps++[i],Ex.cell X.rows p i⟩:=by
      rw [show n-i=(n-(i+1))+1 by omega];rfl
     have QY:Ex.gs (n-(i+1)) (2*e+1)<=67108864:=by
      rw [show n-i=(n-(i+1))+1 by omega] at hg;exact hg
     rw [Vw] at eb;refine ⟨_,rfl,_,_,rfl,.inl (aP.of ao),?_⟩;rw [List.length_map,Im];refine ⟨_,rfl,_,rfl,_,rfl,_,X.rows,i,X.ps.length,n+1,rfl,⟨sa,rv,rfl,Oo,g_.al (kp s2) al⟩,hw,(by omega),h6,(by omega),?_⟩;refine ⟨_,rfl,rfl,_,rfl,?_⟩;cases ef:Ex.dN X.rows i X.ps.length with
     |
      none=>
      rw [ef] at eb;refine aQ ?_;refine ⟨_,_,_,_,B,sa,rv,X,e,rfl,rfl,HW,hla,hsl,s,al,eb,hw,h6,(by omega),hd,hb,Nat.le_trans (Ex.Hr e (by omega:n-(i+1)<=n-i)) hg⟩
     |
      some p=>
      rw [ef] at eb;have hp1:=List.mem_range.mp (List.mem_of_find?_eq_some ef);have hp2:=List.find?_some ef;simp only [Bool.and_eq_true,decide_eq_true_eq] at hp2;have hkp:=hp2.1;have Vx:¬ Ex.cell X.rows p i=0:=fun z=>by rw [z] at hp2;simp at hp2
      refine aW ?_;obtain ⟨x,hx⟩:∃ x,rv[p]?=some x:=⟨_,List.getElem?_eq_getElem (by omega)⟩
      obtain ⟨y,hy⟩:∃ y,rv[X.ps.length]?=some y:=⟨_,List.getElem?_eq_getElem (by omega)⟩
      refine ⟨_,rfl,_,rfl,.inl ⟨_,_,_,_,rfl,rfl,aP.of Oo,at_of (j:=p) rfl hx,?_⟩⟩;refine ⟨_,rfl,_,rfl,.inl ⟨_,_,_,_,rfl,rfl,aP.of Oo,at_of (j:=X.ps.length) rfl hy,_,rfl,_,rfl,_,_,_,p,rfl,rfl,Oo,BX rfl (by omega),?_⟩⟩;refine ⟨_,rfl,_,rfl,_,rfl,_,_,_,X.ps.length,rfl,rfl,ao,BX rfl (by rw [List.length_set];omega),?_⟩;rw [c6];have eH:upd (upd (upd B sa (.lst rv)) la (.lst ((fy X.ps).map V.int))) sa (.lst ((rv.set p y).set X.ps.length x))=upd (upd B sa (.lst ((rv.set p y).set X.ps.length x))) la (.lst ((fy X.ps).map V.int)):=by
       funext b;unfold upd;by_cases h1:b=sa
       . subst h1;rw [if_pos rfl,if_neg hsl,if_pos rfl]
       . rw [if_neg h1];by_cases h2:b=la
         . rw [if_pos h2,if_pos h2]
         . rw [if_neg h2,if_neg h2,if_neg h1,if_neg h1]
      rw [eH];have yY:Al (IL B) ((rv.set p y).set X.ps.length x) (Ex.gZ X.rows X.ps.length p):=LK al hx hy;generalize WH:(rv.set p y).set X.ps.length x=Ms at *;have hB2:(upd B sa (.lst Ms)) la=none:=by rw [aJ hsl.symm];exact hla
      have s3:aH B (upd (upd B sa (.lst Ms)) la (.lst ((fy X.ps).map V.int))):=(ak HW).trans (ak hB2);have PU:(upd (upd B sa (.lst Ms)) la (.lst ((fy X.ps).map V.int))) sa=some (.lst Ms):=by rw [aJ hsl,ao]
      have HX:(upd (upd B sa (.lst Ms)) la (.lst ((fy X.ps).map V.int))) la=some (.lst ((fy X.ps).map V.int)):=ao;generalize TY:upd (upd B sa (.lst Ms)) la (.lst ((fy X.ps).map V.int))=H3 at *;obtain ⟨lead,J5,rl⟩:=al.get hx;have Mt:X.rows.getD p []=lead:=by rw [List.getD_eq_getElem?_getD,J5];rfl
      have PV:lead.length=n+1:=hw lead (List.mem_of_getElem? J5);have PX:Ex.cell X.rows p i=lead.getD i 0:=by unfold Ex.cell;rw [Mt]
      have LI:Al (J4 la H3) Ms (Ex.gZ X.rows X.ps.length p):=BW.al (kp s3) (LJ hla yY);have lrv:Ms.length=(Ex.gZ X.rows X.ps.length p).length:=yY.length;have WI:(Ex.gZ X.rows X.ps.length p).length=X.rows.length:=Ex.iu _ _ _;have lst:(Ex.fz X.rows X.ps.length p i X.d).length=X.rows.length:=Ex.jV _ _ _ _ _;refine ⟨_,rfl,_,_,rfl,aP.of PU,fun D hD=>Sn (R:=J4 la) BW (zs:=Ex.fz X.rows X.ps.length p i X.d) (i:=9) (j:=10) (by decide) hD (lt_size (by omega)) (aP.of PU) (by omega) (fun r x' z B4 ys T1 hx' hz Oq s4 hT1 Q2 k2=>?_) (fun B4 ys s4 Oq SJ=>?_)⟩
      . obtain ⟨row,eL,PY⟩:=LI.get hx';have s5:aH (upd B4 D (.lst ys)) (upd (upd B4 D (.lst ys)) T1 (.tup [.int (r:Nat),x'])):=ak hT1;have s6:aH H3 (upd (upd B4 D (.lst ys)) T1 (.tup [.int (r:Nat),x'])):=(s4.trans (ak Oq)).trans s5;have hrl:row.length=n+1/\∀ x,x∈row->Ex.Bd e x:=by
         have hm:=List.mem_of_getElem? eL;unfold Ex.gZ at hm;rcases List.mem_or_eq_of_mem_set hm with hm|rfl
         . rcases List.mem_or_eq_of_mem_set hm with hm|rfl
           . exact ⟨hw _ hm,hb _ hm⟩
           . have:=Ex.getD_mem (l:=X.rows) (i:=X.ps.length) (d:=[]) (by omega);exact ⟨hw _ this,hb _ this⟩
         . have:=Ex.getD_mem (l:=X.rows) (i:=p) (d:=[]) (by omega);exact ⟨hw _ this,hb _ this⟩
        have ez:z=if r=X.ps.length then row else Ex.d7 row lead i X.d:=by
         unfold Ex.fz at hz;rw [List.getElem?_mapIdx,eL,Mt] at hz;exact (Option.some.inj hz).symm
        refine ⟨_,rfl,_,rfl,rfl,_,rfl,?_⟩;rw [cc];by_cases hrk:r=X.ps.length
        . rw [decide_eq_true (by omega:(r:Int)=(X.ps.length:Int))];rw [if_pos hrk] at ez;obtain ⟨B',e',jQ,s'⟩:=cut Oq s5;refine aW ⟨_,rfl,?_⟩;rw [e'];refine k2 _ B' jQ s' ?_;rw [ez];exact BW (kp (s4.trans s')) PY
        . rw [decide_eq_false (by omega:¬ (r:Int)=(X.ps.length:Int))];rw [if_neg hrk] at ez;have Ua:e<=67108864:=Nat.le_trans (Ex.Ge (n-i) e) hg;refine aQ ⟨_,rfl,_,rfl,_,rfl,_,rfl,_,_,row,lead,i,n+1,X.d,rfl,g_ (kp s6) PY.1,g_ (kp (s3.trans s6)) rl,hrl.1,PV,(by omega),(by omega),hd,fun x hx=>(hrl.2 x hx).mono (gu Ua),fun x hx=>(hb lead (List.mem_of_getElem? J5) x hx).mono (gu Ua),fun q H5 hq s7 hil=>?_⟩;rw [<-ez] at hil;obtain ⟨B',e',jQ,s',SD⟩:=JU EZ Oq (fun a' ea=>by
           have ea:q=a':=by injection ea
           rw [<-ea];exact s5.free hq) (s5.trans s7) hil
          rw [e'];refine k2 _ B' jQ s' ⟨SD,fun ea=>?_⟩;have ea:q=la:=by injection ea
          have:=s6 _ _ HX;rw [<-ea,hq] at this;cases this
      ·
       have s5:aH H3 (upd B4 D (.lst ys)):=s4.trans (ak Oq);have Vy:B4 la=some (.lst ((fy X.ps).map V.int)):=s4 _ _ HX;have Ol:D≠la:=by
        rintro rfl;rw [hD] at HX;cases HX
       refine ⟨_,rfl,.inl ⟨rfl,_,aP.of (s5 _ _ HX)⟩,_,rfl,_,_,_,rfl,rfl,s5 _ _ HX,?_,?_⟩
       . rw [List.length_map,Im];exact lt_size (by omega)
       ·
        have s6:aH B (upd (upd B4 D (.lst ys)) la (.lst ((fy X.ps).map V.int++[.int (i:Int)]))):=fun b o ho=>by
         rw [aJ (bg ho hla)];exact s5 b o (s3 b o ho)
        obtain ⟨q,qs,rfl,hq1,hq2⟩:=Il.at_ (g_ (kp s6) rl) (j:=i) (by omega);refine ⟨_,rfl,_,rfl,.inl ⟨_,_,_,_,rfl,rfl,aP.of hq1,at_of (j:=i) rfl hq2,?_⟩⟩;refine ⟨some (.int (i:Int)),some (.int (X.ps.length:Nat)),some (.int (p:Nat)),some (.ref q),(fun b=>if b=la then none else B4 b),D,ys,⟨Ex.fz X.rows X.ps.length p i X.d,X.ps++[i],Ex.cell X.rows p i⟩,2*e+1,?_,?_,?_,if_pos rfl,Ol,?_,?_,eb,Ex.j_ hw (by omega) hp1,(by rw [lst];exact h6),?_,Vx,Ex.C_ hb (by omega) hp1,QY⟩
        . rw [PX];rfl
        . funext b;unfold upd;by_cases h1:b=la
          . rw [if_pos h1,if_pos h1];unfold fy;rw [List.map_append,List.map_append];rfl
          . rw [if_neg h1,if_neg h1];by_cases h2:b=D
            . rw [if_pos h2,if_pos h2]
            . rw [if_neg h2,if_neg h2];show B4 b=if b=la then none else B4 b;rw [if_neg h1]
        . show (if D=la then none else B4 D)=none;rw [if_neg Ol];exact Oq
        . intro b o ho;have hb':=s b o ho;have:¬ b=la:=fun z=>by rw [z,hla] at hb';cases hb'
          show (if b=la then none else B4 b)=some o;rw [if_neg this];exact s4 b o (s3 b o hb')
        . exact SJ.imp fun v x r=>NV r
        . rw [List.length_append];show X.ps.length+1<=i+1;omega
   . rintro σ H' ⟨o5,o6,o7,o8,B,sa,rv,X,e,rfl,rfl,HW,hla,hsl,s,al,eb,hw,h6,hps,hd,hb,hg⟩;rw [Int.toNat_natCast,Nat.sub_self] at eb;have eb:Ex.dU rows0 n=X:=eb;have SI:(upd B sa (.lst rv)) la=none:=by rw [aJ hsl.symm];exact hla
     have s2:aH B (upd (upd B sa (.lst rv)) la (.lst ((fy X.ps).map V.int))):=(ak HW).trans (ak SI);have Oo:(upd (upd B sa (.lst rv)) la (.lst ((fy X.ps).map V.int))) sa=some (.lst rv):=by rw [aJ hsl,ao]
     refine ⟨_,rfl,_,rfl,(by show 2<=sizeLine;decide),fun r hr=>?_⟩;have s3:=ak (o:=.tup [.ref sa,.ref la]) hr;refine k _ _ ((s.trans s2).trans s3) ?_;rw [eb];exact ⟨r,_,_,rfl,fG.of ao,⟨sa,rv,rfl,s3 _ _ Oo,g_.al (kp (s2.trans s3)) al⟩,IL.of (s3 _ _ ao)⟩
end
end Pg
namespace Pg
open PySem PySem.Spec PyProof.Rows L2
section
variable {P:Program}{w:World}{K:PySem.W.Frag}{mg:Str->Option Value}{base:Heap}{A:dP}
noncomputable abbrev PL(K:PySem.W.Frag):Hp->V->List (Int × Int)->Prop:=Ii (Pr K)
noncomputable def mH(X:Ex.gx)(n i:Nat):List (Int × Int):=(List.range n).map fun c=>Ex.pairAt ⟨Ex.cell X.rows,X.ps.take i,X.d⟩ n c
theorem rX(X:Ex.gx)(n i:Nat):(mH X n i).length=n:=by unfold mH;rw [List.length_map,List.length_range]
theorem DG(X:Ex.gx)(n:Nat):mH X n 0=(List.range n).map fun _=>((0:Int),(1:Int)):=rfl
theorem Fb(X:Ex.gx)(n:Nat):mH X n X.ps.length=Ex.gS X n:=by
 unfold mH Ex.gS;rw [List.take_length];rfl
theorem DH{X:Ex.gx}{n i c:Nat}(hi:X.ps[i]?=some c)(hp:X.ps.Pairwise (·<·))(hc:c<n):mH X n (i+1)=(mH X n i).set c (Ex.cell X.rows i n,Ex.cell X.rows i c):=by
 apply List.ext_getElem?;intro j;have hlt:i<X.ps.length:=(List.getElem?_eq_some_iff.mp hi).1;have hn:¬ c∈X.ps.take i:=by
  intro hm;obtain ⟨k,hk,e⟩:=List.getElem_of_mem hm;rw [List.length_take] at hk;rw [List.getElem_take] at e;have e2:X.ps[i]=c:=(List.getElem?_eq_some_iff.mp hi).2;have:=List.pairwise_iff_getElem.mp hp k i (by omega) hlt (by omega);omega
 unfold mH;rw [List.getElem?_map,List.getElem?_set];by_cases hj:j<n
 . rw [List.getElem?_range hj];by_cases PZ:c=j
   . subst PZ;rw [if_pos rfl,if_pos (by rw [List.length_map,List.length_range];exact hc)];have e:(X.ps.take i).findIdx? (fun x=>decide (x=c))=none:=by
      rw [List.findIdx?_eq_none_iff];intro x hx;exact decide_eq_false fun z=>hn (by rw [<-z];exact hx)
     show some (Ex.pairAt ⟨Ex.cell X.rows,X.ps.take (i+1),X.d⟩ n c)=_;unfold Ex.pairAt;dsimp only;rw [take_snoc hi,Ex.Ax,e];dsimp only;rw [if_pos rfl,List.length_take,Nat.min_eq_left (by omega)]
   . rw [if_neg PZ,List.getElem?_map,List.getElem?_range hj];show some (Ex.pairAt ⟨Ex.cell X.rows,X.ps.take (i+1),X.d⟩ n j)=some (Ex.pairAt ⟨Ex.cell X.rows,X.ps.take i,X.d⟩ n j);unfold Ex.pairAt;dsimp only;rw [take_snoc hi,Ex.Ax];cases (X.ps.take i).findIdx? fun x=>decide (x=j) with
     |some l=>rfl
     |none=>dsimp only;rw [if_neg PZ]
 . rw [List.getElem?_eq_none (by rw [List.length_range];omega)];by_cases PZ:c=j
   . omega
   . rw [if_neg PZ,List.getElem?_map,List.getElem?_eq_none (by rw [List.length_range];omega)];rfl
noncomputable def nY(K:PySem.W.Frag)(A:dP):Sp:=fun vs H Q _=>∃ (u v:V) (X:Ex.gx) (n:Nat),vs=[u,v,.int n]/\RL H u X.rows/\IL H v (fy X.ps)/\Ex.Wide (n+1) X.rows/\X.ps.length<=X.rows.length/\X.ps.Pairwise (·<·)/\(∀ c,c∈X.ps->c<n)/\n<=4/\
 ∀ x H',aH H H'->PL K H' x (Ex.gS X n)->Q x H'
theorem BY(T:Txt K mg A)(D:Def K mg "read_step" pU ["stepped","leads","inputs"]) :Has P w K mg base "read_step" ["stepped","leads","inputs"] 41 (nY K A):=by
 refine D.has iE (fun vs H Q E h=>?_) (fun f cdv Ar outer s H vs Q E hr h=>?_)
 . obtain ⟨_,_,_,_,rfl,_⟩:=h;rfl
 . skip
   obtain ⟨u,v,X,n,rfl,⟨ua,us,rfl,hu,Ci⟩,hv,hw,hpl,E6,Ot,hn,k⟩:=h;obtain ⟨va,rfl,hv1⟩:=hv.at_;refine ⟨_,(ah (j6 (i:=3) rfl iE.nd rfl rfl (nu rfl rfl rfl rfl) (f_ rfl T.jr (af (pv 2) ai)) (cH (own:=[("column",5)]) (by kernel_rfl)) (fun _ _ _ _ _=>(aN (i:=5) iE.nd rfl (Or.inl rfl))) (fun _ _ _ _ _=>dg) (fun _ _ _ _ _=>(gq (af ay (af ay ai)))))
    (ah (eX PassesOwn.never rfl (sE rfl T.jy (af (pv 1) ai)) (fq (K:=K) 2 rfl rfl (bG (aN (i:=4) iE.nd rfl (Or.inl rfl)) (bG (aN (i:=5) iE.nd rfl (Or.inl rfl)) ff)))
    (au (D3 (gq (af (aD (az (K:=K) rfl) (aD (az (K:=K) rfl) (pv 0) (pv 4) (fun _ _=>rfl)) (pv 2) (fun _ _=>rfl)) (af (aD (az (K:=K) rfl) (aD (az (K:=K) rfl) (pv 0) (pv 4) (fun _ _=>rfl)) (pv 5) (fun _ _=>rfl)) ai))) (DZ (pv 3) (pv 5) set_list))))
    (au (aA (pv 3))))),?_⟩
   refine ⟨_,rfl,_,rfl,(by omega),(by omega),fun D hD=>JZ (R:=Pr K) tH (zs:=mH X n 0) (j:=5) hD (lt_size (by rw [rX];omega)) (by rw [rX];omega) (fun c z B ys hz hB s Q2 k2=>?_) (fun B ys s hB oV=>?_)⟩
   . have ez:z=(0,1):=by
      rw [DG,List.getElem?_map] at hz;cases e:(List.range n)[c]? with
      |none=>rw [e] at hz;cases hz
      |some y=>rw [e] at hz;exact (Option.some.inj hz).symm
     refine ⟨(by show 2<=sizeLine;decide),fun p hp=>?_⟩;have s1:=ak (o:=.tup [.int 0,.int 1]) hp;obtain ⟨B',e',jQ,s',r'⟩:=kN (Mp (K:=K)) hB s1 (v:=.ref p) (x:=(0,1)) ⟨p,rfl,fG.of ao⟩;rw [e'];exact k2 _ B' jQ s' (by rw [ez];exact r')
   . have s1:aH H (upd B D (.lst ys)):=s.trans (ak hB);refine ⟨_,rfl,_,_,rfl,aP.of ((kp s1).lst hv1),tK (K:=K) (a:=va) (xs:=(fy X.ps).map V.int) (i:=4) (j:=5)
      (fun i σ H'=>∃ o4 o5 B ys,σ=[some (.ref ua),some (.ref va),some (.int n),some (.ref D),o4,o5]/\H'=upd B D (.lst ys)/\B D=none/\aH H B/\Al (Pr K B) ys (mH X n i))
      ⟨none,none,B,ys,rfl,rfl,hB,s,oV⟩ (fun i σ H' _ ⟨_,_,B,ys,_,e,hB,s,_⟩=>by rw [e];exact aP.of ((kp (s.trans (ak hB))).lst hv1)) ?_ ?_⟩
     . rintro i x σ H' T1 hi ⟨o4,o5,B2,vW,rfl,rfl,hB2,s2,yY⟩ hT1;obtain ⟨c,hc,rfl⟩:∃ c,X.ps[i]?=some c/\x=.int (c:Int):=by
        unfold fy at hi;rw [List.map_map,List.getElem?_map] at hi;cases e:X.ps[i]? with
        |none=>rw [e] at hi;cases hi
        |some c=>rw [e] at hi;exact ⟨c,rfl,(Option.some.inj hi).symm⟩
       have hcn:=Ot c (List.mem_of_getElem? hc);have hlt:i<X.ps.length:=(List.getElem?_eq_some_iff.mp hc).1;have s3:aH (upd B2 D (.lst vW)) (upd (upd B2 D (.lst vW)) T1 (.tup [.int (i:Nat),.int (c:Int)])):=ak hT1;have s4:aH H (upd (upd B2 D (.lst vW)) T1 (.tup [.int (i:Nat),.int (c:Int)])):=(s2.trans (ak hB2)).trans s3;have LI:=g_.al (kp s4) Ci;obtain ⟨r,rs,g1,g2,g3⟩:=Rl.at_ LI (i:=i) (c:=n) (by omega) hw (by omega);obtain ⟨r',rs',LD,JY,LF⟩:=Rl.at_ LI (i:=i) (c:=c) (by omega) hw (by omega);have Vz:=yY.length;rw [rX] at Vz;refine ⟨_,rfl,_,rfl,.inl ⟨_,_,_,_,rfl,rfl,aP.of ((kp s4).lst hu),at_of (j:=i) rfl g1,_,rfl,.inl ⟨_,_,_,_,rfl,rfl,aP.of g2,at_of (j:=n) rfl g3,
        _,rfl,_,rfl,.inl ⟨_,_,_,_,rfl,rfl,aP.of ((kp s4).lst hu),at_of (j:=i) rfl LD,_,rfl,.inl ⟨_,_,_,_,rfl,rfl,aP.of JY,at_of (j:=c) rfl LF,(by show 2<=sizeLine;decide),fun p hp=>?_⟩⟩⟩⟩⟩
       have s5:=s3.trans (ak (o:=.tup [.int (Ex.cell X.rows i n),.int (Ex.cell X.rows i c)]) hp);obtain ⟨B',e',jQ,s',r'⟩:=kN (Mp (K:=K)) hB2 s5 (v:=.ref p) (x:=(Ex.cell X.rows i n,Ex.cell X.rows i c)) ⟨p,rfl,fG.of ao⟩;refine ⟨_,rfl,_,rfl,_,_,_,c,rfl,rfl,s5 _ _ ao,BX rfl (by omega),?_⟩;rw [e'];refine ⟨_,_,B',_,rfl,c6,jQ,s2.trans s',?_⟩;rw [DH hc E6 hcn];exact (tH.al (kp s') yY).set r' c
     . rintro σ H' ⟨o4,o5,B2,vW,rfl,rfl,hB2,s2,yY⟩;have e:((fy X.ps).map V.int).length=X.ps.length:=by unfold fy;rw [List.length_map,List.length_map]
       rw [e,Fb] at yY;exact ⟨_,rfl,k _ _ (s2.trans (ak hB2)) ⟨D,vW,rfl,ao,tH.al (aS hB2) yY⟩⟩
theorem AJ{rows:List (List Int)}{n:Nat}(hw:Ex.Wide (n+1) rows):(Ex.dU rows n).rows.length=rows.length/\Ex.Wide (n+1) (Ex.dU rows n).rows:=by
 obtain ⟨_,b2,b3⟩:=Ex.pF (m:=rows.length) n 0 ⟨rows,[],1⟩ rfl hw;exact ⟨b2,b3⟩
theorem vd{w:Nat}:∀ (f c:Nat) (X:Ex.gx),Ex.Wide w X.rows->X.ps.length<=X.rows.length->(Ex.gy f c X).ps.length<=(Ex.gy f c X).rows.length
 |0,_,_,_,h=>h
 |
  f+1,c,X,hw,h=>by
  unfold Ex.gy;cases e1:Ex.dN X.rows c X.ps.length with
  |none=>exact vd f (c+1) X hw h
  |
   some p=>
   have h1:=List.mem_range.mp (List.mem_of_find?_eq_some e1);have h2:=List.find?_some e1;simp only [Bool.and_eq_true,decide_eq_true_eq] at h2;refine vd f (c+1) ⟨Ex.fz X.rows X.ps.length p c X.d,X.ps++[c],Ex.cell X.rows p c⟩ (Ex.j_ hw (by omega) h1) ?_;show (X.ps++[c]).length<=(Ex.fz X.rows X.ps.length p c X.d).length;rw [List.length_append,Ex.jV];show X.ps.length+1<=_;omega
theorem AK{rows:List (List Int)}{n:Nat}(hw:Ex.Wide (n+1) rows):(Ex.dU rows n).ps.length<=(Ex.dU rows n).rows.length:=vd n 0 ⟨rows,[],1⟩ hw (Nat.zero_le _)
theorem J6{xs:List V}{n:Nat}:qC xs (some (n:Int)) none=xs.drop n:=by
 unfold qC;rw [HT.qo,HT.Ct];by_cases h:n<=xs.length
 . rw [Nat.min_eq_left h,List.take_of_length_le (by rw [List.length_drop];exact Nat.le_refl _)]
 . rw [Nat.min_eq_right (by omega),Nat.sub_self,List.take_zero,List.drop_eq_nil_of_le (by omega)]
noncomputable def p_(K:PySem.W.Frag)(A:dP):Sp:=fun vs H Q _=>∃ (v:V) (rows:List (List Int)) (n e:Nat),vs=[v,.int n]/\RL H v rows/\Ex.Wide (n+1) rows/\n<=4/\rows.length<=6/\Ex.fM e rows/\Ex.gs n e<=67108864/\
 ∀ r H',aH H H'->Cg (PL K) H' r (Ex.lJ rows n)->Q r H'
theorem yH(T:Txt K mg A)(D:Def K mg "newton_step" l_ ["rows","inputs"])(cJ:Has P w K mg base "brought_into_steps" ["rows","inputs"] 42 (fJ K A))(h_:Has P w K mg base "read_step" ["stepped","leads","inputs"] 41 (nY K A)):Has P w K mg base "newton_step" ["rows","inputs"] 43 (p_ K A):=by
 refine D.has iC (fun vs H Q E h=>?_) (fun f cdv Ar outer s H vs Q E hr h=>?_)
 . obtain ⟨_,_,_,_,rfl,_⟩:=h;rfl
 . skip
   obtain ⟨v,rows,n,e,rfl,hv,hw,hn,h6,hb,hg,k⟩:=h;obtain ⟨bl,bw⟩:=AJ hw;have bf:=AK hw;obtain ⟨bp,bn⟩:=Ex.C8 rows n;unfold Ex.lJ at k;refine ⟨_,(ah (aI (i:=2) iC.nd rfl (Or.inl rfl) (aG cJ (hr.mono (by decide)) rfl (af (pv 0) (af (pv 1) ai))))
    (ah (aI (i:=3) iC.nd rfl (Or.inl rfl) (aD (az (K:=K) rfl) (pv 2) ay (fun _ _=>rfl)))
    (ah (aM (aC gX (bu (aY) (by rfl) T.gF bU (af (pv 3) ai)) (pv 1) (aE _)) (au (aA bF))
    aF)
    (ah (eX PassesOwn.never rfl (eW (mV (u5 (K:=K) rfl) (aD (az (K:=K) rfl) (pv 2) ay (fun _ _=>rfl)) (jR (pv 1)) A2)) (aN (i:=4) iC.nd rfl (Or.inl rfl))
    (au (aM (aC lA (aD (az (K:=K) rfl) (pv 4) (pv 1) (fun _ _=>rfl)) ay (aE _)) (au (aA bF))
    aF)))
    (au (aA (aG h_ (hr.mono (by decide)) rfl (af (aD (az (K:=K) rfl) (pv 2) ay (fun _ _=>rfl)) (af (pv 3) (af (pv 1) ai)))))))))),?_⟩
   refine ⟨_,rfl,_,rfl,_,rows,n,e,rfl,hv,hw,hn,h6,hb,hg,fun r H1 s1 hr1=>?_⟩;obtain ⟨p,u,x,rfl,hp,hu,hx⟩:=hr1;generalize hX:Ex.dU rows n=X at *;refine ⟨_,rfl,.inr ⟨_,_,_,_,rfl,rfl,hp,rfl,?_⟩⟩;obtain ⟨xa,rfl,Ml⟩:=hx.at_;have Im:((fy X.ps).map V.int).length=X.ps.length:=by unfold fy;rw [List.length_map,List.length_map]
   refine ⟨_,rfl,_,_,rfl,.inl (aP.of Ml),_,rfl,_,_,rfl,rfl,_,rfl,?_⟩;rw [Im];by_cases hl:X.ps.length<n
   . rw [decide_eq_true (by omega:(X.ps.length:Int)<(n:Int))];rw [if_pos hl] at k;exact aW (k _ _ s1 rfl)
   . rw [decide_eq_false (by omega:¬ (X.ps.length:Int)<(n:Int))];rw [if_neg hl] at k;refine aQ ?_;have Gp:=hu;obtain ⟨ua,us,rfl,hu1,Ci⟩:=Gp;refine ⟨_,rfl,.inr ⟨_,_,_,_,rfl,rfl,hp,rfl,_,rfl,_,rfl,.inl ⟨_,_,rfl,aP.of hu1,fun q hq=>?_⟩⟩⟩;rw [J6];have s2:aH H1 (upd H1 q (.lst (us.drop n))):=ak hq;have Ub:Al (IL (upd H1 q (.lst (us.drop n)))) (us.drop n) (X.rows.drop n):=(g_.al (kp s2) Ci).drop n;refine ⟨q,rfl,⟨_,aP.of ao⟩,mT (K:=K) (a:=q) (xs:=us.drop n) (fun i σ H'=>H'=upd H1 q (.lst (us.drop n))/\(∃ o,σ=[some v,some (.int n),some (.ref p),some (.ref xa),o])/\((X.rows.drop n).take i).any (fun r=>!decide (r.getD n 0=0))=false)
      ⟨rfl,⟨none,rfl⟩,rfl⟩ (fun i σ H' _ ⟨e,_⟩=>by rw [e];exact aP.of ao) ?_ ?_⟩
     . rintro i y σ H' hi ⟨rfl,⟨o,rfl⟩,h0⟩;obtain ⟨row,eL,rr⟩:=Ub.get hi;have hm:=List.mem_of_getElem? eL;have hrl:row.length=n+1:=bw row (List.mem_of_mem_drop hm);obtain ⟨b,bs,rfl,g1,g2⟩:=Il.at_ rr (j:=n) (by omega);refine ⟨_,rfl,_,rfl,.inl ⟨_,_,_,_,rfl,rfl,aP.of g1,at_of (j:=n) rfl g2,rfl,_,rfl,?_⟩⟩;rw [cc];by_cases hz:row.getD n 0=0
       . rw [decide_eq_true hz];refine aQ ⟨rfl,⟨_,rfl⟩,?_⟩;rw [take_snoc eL,List.any_append,h0,List.any_cons,decide_eq_true hz];rfl
       . rw [decide_eq_false hz];have:(X.rows.drop n).any (fun r=>!decide (r.getD n 0=0))=true:=List.any_eq_true.mpr ⟨row,hm,by rw [decide_eq_false hz];rfl⟩;rw [if_pos this] at k;exact aW (k _ _ (s1.trans s2) rfl)
     . rintro σ H' ⟨rfl,⟨o,rfl⟩,h0⟩;rw [List.take_of_length_le (by rw [<-Ub.length];exact Nat.le_refl _)] at h0;rw [if_neg (by rw [h0];decide)] at k;exact ⟨_,rfl,.inr ⟨_,_,_,_,rfl,rfl,(kp s2).JS hp,rfl,_,rfl,_,rfl,_,_,X,n,rfl,Mr (kp s2) hu,g_ (kp s2) hx,bw,bf,bp,bn,hn,fun z H3 s3 hz=>k z H3 ((s1.trans s2).trans s3) hz⟩⟩
noncomputable def iS(K:PySem.W.Frag)(A:dP):Sp:=fun vs H Q _=>∃ (v:V) (rows:List (List Int)) (n e:Nat),vs=[v,.int n]/\RL H v rows/\Ex.Wide (n+1) rows/\n<=4/\rows.length<=6/\Ex.fM e rows/\Ex.gs n (2*e+6)<=67108864/\
 ∀ r H',aH H H'->PL K H' r (Ex.rC rows n)->Q r H'
theorem oS(T:Txt K mg A)(D:Def K mg "least_squares_step" fW ["rows","inputs"])(cJ:Has P w K mg base "brought_into_steps" ["rows","inputs"] 42 (fJ K A))(h_:Has P w K mg base "read_step" ["stepped","leads","inputs"] 41 (nY K A))(kT:Has P w K mg base "turned_times" ["rows","inputs"] 42 (oA K A)):Has P w K mg base "least_squares_step" ["rows","inputs"] 43 (iS K A):=by
 refine D.has iQ (fun vs H Q E h=>?_) (fun f cdv Ar outer s H vs Q E hr h=>?_)
 . obtain ⟨_,_,_,_,rfl,_⟩:=h;rfl
 . skip
   obtain ⟨v,rows,n,e,rfl,hv,hw,hn,h6,hb,hg,k⟩:=h;have SK:=Ex.nE rows n;obtain ⟨bl,bw⟩:=AJ SK;have bf:=AK SK;obtain ⟨bp,bn⟩:=Ex.C8 (Ex.g7 rows n) n;have he:e<=67108864:=by have:=Ex.Ge n (2*e+6);omega
   unfold Ex.rC at k;refine ⟨_,(ah (aI (i:=2) iQ.nd rfl (Or.inl rfl) (aG cJ (hr.mono (by decide)) rfl (af (aG kT (hr.mono (by decide)) rfl (af (pv 0) (af (pv 1) ai))) (af (pv 1) ai))))
    (au (aA (aG h_ (hr.mono (by decide)) rfl (af (aD (az (K:=K) rfl) (pv 2) ay (fun _ _=>rfl)) (af (aD (az (K:=K) rfl) (pv 2) ay (fun _ _=>rfl)) (af (pv 1) ai))))))),?_⟩
   refine ⟨_,rfl,_,rfl,_,rows,n,rfl,hv,hw,hn,h6,hb.mono (gu he),fun x H1 s1 hx=>?_⟩;refine ⟨_,rfl,_,_,n,2*e+6,rfl,hx,SK,hn,(by rw [Ex.uH];omega),Ex.Gg hb h6,hg,fun r H2 s2 hr2=>?_⟩;obtain ⟨p,u,y,rfl,hp,hu,hy⟩:=hr2;exact ⟨_,rfl,.inr ⟨_,_,_,_,rfl,rfl,hp,rfl,_,rfl,.inr ⟨_,_,_,_,rfl,rfl,hp,rfl,_,rfl,_,_,_,n,rfl,hu,hy,bw,bf,bp,bn,hn,fun z H3 s3 hz=>k z H3 ((s1.trans s2).trans s3) hz⟩⟩⟩
noncomputable def tX(K:PySem.W.Frag)(A:dP):Sp:=fun vs H Q _=>∃ (u v:V) (kind:Nat) (J:List (List Rat)) (fs:List Rat) (n L e:Nat),vs=[.int kind,u,v,.int n]/\Ik K H u J/\FL K H v fs/\J.length=fs.length/\fs.length<=6/\n<=4/\(∀ r,r∈J->r.length=n)/\
 0<L/\m9 (L:Int)/\(∀ r,r∈Ex.cF J fs->∀ q,q∈r->q.den∣L/\Ex.Sz M q)/\Ex.fM e (Ex.bM J fs)/\Ex.gs 4 (2*e+6)<=67108864/\∀ x H',aH H H'->Cg (PL K) H' x (Ex.gp kind J fs n)->Q x H'
theorem BZ(T:Txt K mg A)(D:Def K mg "find_step" pS ["kind","table","results","inputs"])(nZ:Has P w K mg base "whole_rows" ["table","results"] 43 (qR K A))(f7:Has P w K mg base "least_squares_step" ["rows","inputs"] 43 (iS K A))(mJ:Has P w K mg base "newton_step" ["rows","inputs"] 43 (p_ K A)):Has P w K mg base "find_step" ["kind","table","results","inputs"] 44 (tX K A):=by
 refine D.has sZ (fun vs H Q E h=>?_) (fun f cdv Ar outer s H vs Q E hr h=>?_)
 . obtain ⟨_,_,_,_,_,_,_,_,rfl,_⟩:=h;rfl
 . skip
   obtain ⟨u,v,kind,J,fs,n,L,e,rfl,hu,hv,NR,h6,hn,hw,hL,bL,hq,hb,hg,k⟩:=h;have ww:Ex.Wide (n+1) (Ex.bM J fs):=Ex.lK hw;have wl:=Ex.iZ NR;unfold Ex.gp at k;refine ⟨_,(ah (aI (i:=4) sZ.nd rfl (Or.inl rfl) (aG nZ (hr.mono (by decide)) rfl (af (pv 1) (af (pv 2) ai))))
    (ah (aM (aC cU (pv 0) (aX T.Dm) (aE _)) (au (aA (aG mJ (hr.mono (by decide)) rfl (af (pv 4) (af (pv 3) ai)))))
    aF)
    (au (aA (aG f7 (hr.mono (by decide)) rfl (af (pv 4) (af (pv 3) ai))))))),?_⟩
   refine ⟨_,rfl,_,rfl,_,_,J,fs,n,L,rfl,hu,hv,NR,h6,hn,hw,hL,bL,hq,fun x H1 s1 hx=>?_⟩;refine ⟨_,rfl,rfl,_,rfl,?_⟩;rw [cc];have QY:Ex.gs n (2*e+6)<=67108864:=Nat.le_trans (Ex.Hr _ hn) hg;by_cases hk:kind=0
   . rw [decide_eq_true (by omega:(kind:Int)=0)];rw [if_pos hk] at k;exact aW ⟨_,rfl,_,rfl,_,_,n,e,rfl,hx,ww,hn,(by omega),hb,Nat.le_trans (Ex.Gf n (by omega)) QY,fun r H2 s2 hr2=>k r H2 (s1.trans s2) hr2⟩
   . rw [decide_eq_false (by omega:¬ (kind:Int)=0)];rw [if_neg hk] at k;exact aQ ⟨_,rfl,_,rfl,_,_,n,e,rfl,hx,ww,hn,(by omega),hb,QY,fun r H2 s2 hr2=>k r H2 (s1.trans s2) hr2⟩
noncomputable def J7(K:PySem.W.Frag):Hp->V->Int × Int->Prop:=fun H v x=>(v=.non/\6100<Ex.wt (Ex.a_ x))\/Fr K H v (Ex.a_ x)
theorem J8:Mo (J7 K):=⟨fun k h=>h.imp id (aL k)⟩
noncomputable def kU(K:PySem.W.Frag)(A:dP):Sp:=fun vs H Q _=>∃ (v:V) (ps:List (Int × Int)),vs=[v]/\PL K H v ps/\(∀ x,x∈ps->x.2≠0)/\ps.length<=4/\(∀ x H',aH H H'->FL K H' x (ps.map Ex.a_)->Q x H')/\((∃ x,x∈ps/\6100<Ex.wt (Ex.a_ x))->∀ H',aH H H'->Q .non H')
theorem J9{H:Hp}:∀ {vs:List V} {ps:List (Int × Int)},Al (J7 K H) vs ps->(vs.any fun v=>decide (v=V.non))=false->Al (Fr K H) vs (ps.map Ex.a_)
 |_,_,.nil,_=>.nil
 |
  _,_,.cons r t,h=>by
  rw [List.any_cons,Bool.or_eq_false_iff] at h;refine .cons ?_ (J9 t h.2);rcases r with r|r
  . have:=of_decide_eq_false h.1;exact absurd r.1 this
  . exact r
theorem AL{H:Hp}:∀ {vs:List V} {ps:List (Int × Int)},Al (J7 K H) vs ps->(vs.any fun v=>decide (v=V.non))=true->∃ x,x∈ps/\6100<Ex.wt (Ex.a_ x)
 |_,_,.nil,h=>by cases h
 |
  _,_,.cons (x:=x) r t,h=>by
  rw [List.any_cons,Bool.or_eq_true] at h;rcases h with h|h
  . have h:=of_decide_eq_true h;rcases r with r|r
    . exact ⟨x,List.mem_cons_self,r.2⟩
    . obtain ⟨a,e,_⟩:=r;rw [h] at e;cases e
  . obtain ⟨y,hy,h2⟩:=AL t h;exact ⟨y,List.mem_cons_of_mem _ hy,h2⟩
theorem AM{H:Hp}:∀ {vs:List V} {ps:List (Int × Int)},Al (J7 K H) vs ps->∀ v,v∈vs->v=.non\/∃ a ys,v=.ref a/\fG K H a ys
 |_,_,.nil,v,h=>by cases h
 |
  _,_,.cons r t,v,h=>by
  rcases List.mem_cons.mp h with rfl|h
  . rcases r with r|⟨a,e,h2⟩
    . exact .inl r.1
    . exact .inr ⟨a,_,e,h2⟩
  . exact AM t v h
theorem u2{k:Nat}{A:Around}(hr:fT k A):A.units+2<cLine:=by have:=hr.units;omega
theorem P0{α:Type}{R:Hp->V->α->Prop}{zs:List α}{te:TE}{σ:L2.St}{H1:Hp}{D:Addr}{Qd:Hp->Prop}{K:PySem.W.Frag}(mo:Mo R){a:Addr}{xs:List V}{i j:Nat}(fu fw:α->V)(hij:i≠j)(hD:H1 D=none)(hz:zs.length<sizeLine)(ha:aP K H1 a xs)(hl:xs.length=zs.length)
 (hp:∀ (n:Nat) x z,xs[n]?=some x->zs[n]?=some z->∃ p,x=.ref p/\fG K H1 p [fu z,fw z])
 (hs:∀ (n:Nat) z B ys,zs[n]?=some z->B D=none->aH H1 B->∀ Q:VK,(∀ y B',B' D=none->aH B B'->R B' y z->Q y (upd B' D (.lst ys)))->te ((σ.set i (some (fu z))).set j (some (fw z))) (upd B D (.lst ys)) Q)
 (hd:∀ B ys,aH H1 B->B D=none->Al (R B) ys zs->Qd (upd B D (.lst ys))):NJ (MR K a) (AY K 2 (j5 (e9 i) (j5 (e9 j) Co))) A5 te [i,j] σ H1 D Qd:=by
 have up:∀ B ys,aH H1 B->B D=none->aP K (upd B D (.lst ys)) a xs:=fun B ys s hB=>(kp (s.trans (ak hB))).JT ha;refine tL mo hD hz (fun B ys s hB=>⟨xs,up B ys s hB,by omega⟩) (fun n z B ys hi hB s=>?_) rT hd;have hlt:n<xs.length:=by have:=(List.getElem?_eq_some_iff.mp hi).1;omega
 refine ⟨⟨xs,xs[n],up B ys s hB,by simp [hlt]⟩,fun x H' y=>?_⟩;obtain ⟨rfl,y⟩:=y;have hx:=y xs (up B ys s hB);obtain ⟨p,rfl,hq⟩:=hp n x z hx hi;refine ⟨p,_,rfl,(kp (s.trans (ak hB))).JS hq,rfl,_,_,rfl,_,_,rfl,rfl,?_⟩;show wipe (((wipe σ [i,j]).set i (some (fu z))).set j (some (fw z))) [i,j]=wipe σ [i,j]/\∀ Q:VK,_->te (((wipe σ [i,j]).set i (some (fu z))).set j (some (fw z))) _ Q;rw [(AH hij).1,(AH hij).2];exact ⟨rfl,hs n z B ys hi hB s⟩
theorem yI(T:Txt K mg A)(D:Def K mg "lowest_step" mh ["step"])(e8:Has P w K mg base "quick_lowest" ["top","bottom"] 42 (jK K A)):Has P w K mg base "lowest_step" ["step"] 43 (kU K A):=by
 refine D.has iF (fun vs H Q E h=>?_) (fun f cdv Ar outer s H vs Q E hr h=>?_)
 . obtain ⟨_,_,rfl,_⟩:=h;rfl
 . skip
   obtain ⟨v,ps,rfl,⟨a,vs,rfl,ha,al⟩,hz,h4,k,k2⟩:=h;refine ⟨_,(ah (j6 (i:=1) rfl iF.nd rfl rfl (nu rfl rfl rfl rfl) (eW (pv 0)) (cH (own:=[("top",2),("bottom",3)]) (by kernel_rfl)) (fun _ _ _ _ _=>(fq (K:=K) 2 rfl rfl (bG (aN (i:=2) iF.nd rfl (Or.inl rfl)) (bG (aN (i:=3) iF.nd rfl (Or.inl rfl)) ff)))) (fun _ _ _ _ _=>dg) (fun _ _ _ _ _=>(aG e8 (hr.mono (by decide)) rfl (af (pv 2) (af (pv 3) ai)))))
    (ah (aM (aC (EY (u2 hr)) bF (pv 1) (by with_unfolding_all rfl)) (au (aA bF))
    aF)
    (au (aA (pv 1))))),?_⟩
   have l1:=al.length;refine ⟨_,rfl,_,rfl,⟨_,aP.of ha⟩,fun D hD=>P0 (R:=J7 K) J8 (zs:=ps) (i:=2) (j:=3) (fun z=>.int z.1) (fun z=>.int z.2) (by decide) hD (lt_size (by omega)) (aP.of ha) (by omega) (fun i x z hx NT=>?_) (fun i z B ys NT hB s Q2 kk=>?_) (fun B ys s hB oV=>?_)⟩
   . obtain ⟨q,hq,p,rfl,hp⟩:=al.get hx;have eq:z=q:=Option.some.inj (NT.symm.trans hq);subst eq;exact ⟨p,rfl,hp⟩
   . have hq:=NT;refine ⟨_,rfl,_,rfl,_,_,rfl,hz z (List.mem_of_getElem? hq),fun v1 H1 s1 hv1=>?_,fun hh=>?_⟩
     . obtain ⟨B',e',jQ,s',r'⟩:=kN kM hB s1 hv1;rw [e'];exact kk _ B' jQ s' (.inr r')
     . exact kk _ B hB (aH.refl _) (.inl ⟨rfl,hh⟩)
   . have s1:aH H (upd B D (.lst ys)):=s.trans (ak hB);have yY:=J8.al (aS (o:=.lst ys) hB) oV;refine ⟨_,rfl,_,_,rfl,rfl,ao,AM yY,_,rfl,?_⟩;cases e:ys.any fun v=>decide (v=V.non) with
     |true=>exact aW (k2 (AL yY e) _ s1)
     |false=>exact aQ ⟨_,rfl,k _ _ s1 ⟨D,ys,rfl,ao,J9 yY e⟩⟩
end
end Pg
namespace Pg
open PySem PySem.Spec PyProof.Rows L2
theorem AO(pt:List Rat):∀ (ts:List Ex.Raw) (vs:List Rat) (i:Nat),i<vs.length->(Ex.aO pt vs ts).1.getD i 0=vs.getD i 0
 |[],vs,i,_=>rfl
 |
  t::r,vs,i,h=>by
  unfold Ex.aO;cases e:Ex.oN pt vs t with
  |none=>rfl
  |
   some q=>
   dsimp only;by_cases hw:2000<Ex.wt q
   . rw [if_pos hw]
   . rw [if_neg hw,AO pt r _ i (by rw [List.length_append];omega),List.getD_eq_getElem?_getD,List.getElem?_append,if_pos h,<-List.getD_eq_getElem?_getD]
theorem yJ{n:Nat}(pt:List Rat):∀ (ts:List Ex.Raw) (vs:List Rat),(∀ t,t∈ts->Ex.cE t)->Ex.bK n vs.length ts=true->(Ex.aO pt vs ts).2=none->J0 (Ex.aO pt vs ts).1 ts
 |[],vs,_,_,_=>fun i j h=>(nomatch h)
 |
  t::r,vs,hl,hu,h=>by
  have hu:(Ex.cz n vs.length t && Ex.bK n (vs.length+1) r)=true:=hu;rw [Bool.and_eq_true] at hu;intro i j hm;unfold Ex.aO at h ⊢;cases e:Ex.oN pt vs t with
  |none=>rw [e] at h;cases h
  |
   some q=>
   rw [e] at h;dsimp only at h ⊢;by_cases hw:2000<Ex.wt q
   . rw [if_pos hw] at h;cases h
   . rw [if_neg hw] at h;rw [if_neg hw];have ih:=yJ (n:=n) pt r (vs++[q]) (fun x hx=>hl x (List.mem_cons_of_mem _ hx)) (by rw [List.length_append];exact hu.2) h;rcases List.mem_cons.mp hm with e2|hm
     . subst e2;have VA:=hl _ List.mem_cons_self;have VB:=Bool.and_eq_true_iff.mp hu.1;have hj:=of_decide_eq_true VB.2;have h0:0<=j:=by cases VA;assumption
       have e3:(if vs.getD j.toNat 0=0 then none else some (vs.getD i.toNat 0 / vs.getD j.toNat 0))=some q:=e;rw [AO pt r _ j.toNat (by rw [List.length_append];omega),List.getD_eq_getElem?_getD,List.getElem?_append,if_pos (by omega),<-List.getD_eq_getElem?_getD];intro z;rw [if_pos z] at e3;cases e3
     . exact ih i j hm
theorem codeOk{s:Ex.SR}(ok:s.Ok):J1 s.inputs s.raws s.outs:=⟨ok.lines,ok.uses,ok.few,ok.ins,ok.outs,ok.Aq⟩
theorem valsOk{s:Ex.SR}(ok:s.Ok){pt:List Rat}(h:(Ex.aO pt [] s.raws).2=none):rW (Ex.aO pt [] s.raws).1 s.raws:=
 ⟨by rw [Ex.pL pt s.raws [] h];simp,Ex.xT pt s.raws [] (fun _ h=>(nomatch h)),yJ (n:=s.inputs) pt s.raws [] ok.lines ok.uses h⟩
noncomputable def dS(s:Ex.SR)(ws:List Rat):List (List Rat):=s.outs.map (DE s.inputs ws s.raws)
theorem eF(s:Ex.SR)(ws:List Rat):(dS s ws).length=(Ex.bP s ws).length:=by unfold dS;rw [Ex.bH,List.length_map]
theorem gG(s:Ex.SR)(ws:List Rat):∀ r,r∈dS s ws->r.length=s.inputs:=by
 intro r hr;unfold dS at hr;obtain ⟨o,_,rfl⟩:=List.mem_map.mp hr;exact tS _ _ _ _
theorem B0{ws:List Rat}{ts:List Ex.Raw}(W:rW ws ts)(i:Nat):Ex.Sz 2000 (ws.getD i 0):=Ex.Sz.xJ (iK W.wt i)
theorem B6{s:Ex.SR}(ok:s.Ok){ws:List Rat}(W:rW ws s.raws):∀ r,r∈dS s ws->∀ q,q∈r->Ex.Sz 480061 q:=by
 intro r hr q hq;unfold dS at hr;obtain ⟨o,_,rfl⟩:=List.mem_map.mp hr;unfold DE at hq;obtain ⟨c,_,rfl⟩:=List.mem_map.mp hq;exact (Ex.CY (B0 W) ok.few o).2.2
theorem qb{s:Ex.SR}{ws:List Rat}(W:rW ws s.raws):∀ q,q∈Ex.bP s ws->Ex.Sz 2000 q:=by
 intro q hq;unfold Ex.bP at hq;obtain ⟨o,_,rfl⟩:=List.mem_map.mp hq;exact B0 W o
theorem DI{s:Ex.SR}(ok:s.Ok){ws:List Rat}(W:rW ws s.raws):∃ L,0<L/\m9 ((L:Nat):Int)/\(∀ r,r∈Ex.cF (dS s ws) (Ex.bP s ws)->∀ q,q∈r->q.den∣L/\Ex.Sz M q)/\Ex.fM 492061 (Ex.bM (dS s ws) (Ex.bP s ws)):=by
 have gen:∀ V:Nat,V=2000->∃ L,0<L/\L<=2 ^ (126*V)/\Ex.Known (dS s ws) (Ex.bP s ws) L (2 ^ (120*V+60)):=fun V hV=>by
  subst hV;exact Ex.JB (n:=s.inputs) (V:=2000) (by decide) (B0 W) ok.few ok.outs
 obtain ⟨V,hV⟩:∃ V:Nat,V=2000:=⟨_,rfl⟩
 obtain ⟨L,h1,h2,h3⟩:=gen V hV;refine ⟨L,h1,?_,fun r hr q hq=>⟨(h3.all r hr q hq).1,?_⟩,?_⟩
 . have h4:126*V+1<=M:=gu (by omega);exact Nat.lt_of_lt_of_le (Nat.lt_of_le_of_lt h2 (Nat.pow_lt_pow_right (by decide) (Nat.lt_succ_self _))) (Ex.c9 h4)
 . obtain ⟨a,f,ha,hf,rfl⟩:=Ex.nF hr;rcases List.mem_append.mp hq with hq|hq
   . exact (B6 ok W a ha q hq).mono (gu (by decide))
   . rw [List.mem_singleton.mp hq];exact (qb W f hf).neg.mono (gu (by decide))
 . exact (h3.whole h1 (Nat.le_refl _) h2).mono (by omega)
theorem qc{f:Str}{v x:V}{r:List (Str × V)}:cK f v ((f,x)::r)=(f,v)::r:=by
 show (if f=f then (f,v)::r else _)=_;rw [if_pos rfl]
theorem bI{f g:Str}{v x:V}{r:List (Str × V)}(h:¬ g=f):cK f v ((g,x)::r)=(g,x)::cK f v r:=by
 show (if g=f then _ else (g,x)::cK f v r)=_;rw [if_neg h]
theorem gi{f:Str}{v:V}{r:List (Str × V)}:((f,v)::r).lookup f=some v:=by
 rw [List.lookup_cons,beq_self_eq_true]
theorem aT{f g:Str}{v:V}{r:List (Str × V)}(h:¬ f=g):((g,v)::r).lookup f=r.lookup f:=by
 rw [List.lookup_cons,beq_eq_false_iff_ne.mpr h]
noncomputable def hfs(n l o p:V):List (Str × V):=[("inputs",n),("lines",l),("outs",o),("place",p)]
noncomputable def DJ(p l f t s:V):List (Str × V):=[("point",p),("line_values",l),("fault",f),("table",t),("steps",s)]
section
variable {n l o p x:V}
theorem jA:(hfs n l o p).lookup ("inputs":Str)=some n:=gi
theorem B7:(hfs n l o p).lookup ("lines":Str)=some l:=(aT (by decide +kernel)).trans gi
theorem yK:(hfs n l o p).lookup ("outs":Str)=some o:=(aT (by decide +kernel)).trans ((aT (by decide +kernel)).trans gi)
theorem fR:(hfs n l o p).lookup ("place":Str)=some p:=(aT (by decide +kernel)).trans ((aT (by decide +kernel)).trans ((aT (by decide +kernel)).trans gi))
theorem yL{f:Str}(h1:¬ f="inputs")(h2:¬ f="lines")(h3:¬ f="outs")(h4:¬ f="place"):(hfs n l o p).lookup f=none:=
 (aT h1).trans ((aT h2).trans ((aT h3).trans ((aT h4).trans rfl)))
theorem J_:cK "inputs" x (hfs n l o p)=hfs x l o p:=qc
theorem LM:cK "lines" x (hfs n l o p)=hfs n x o p:=by
 unfold hfs;rw [bI (by decide +kernel),qc]
theorem NW:cK "outs" x (hfs n l o p)=hfs n l x p:=by
 unfold hfs;rw [bI (by decide +kernel),bI (by decide +kernel),qc]
theorem Gv:cK "place" x (hfs n l o p)=hfs n l o x:=by
 unfold hfs;rw [bI (by decide +kernel),bI (by decide +kernel),bI (by decide +kernel),qc]
theorem LN{n l o p:V}:cK "place" p (cK "outs" o (cK "lines" l (cK "inputs" n [])))=hfs n l o p:=by
 have e1:cK ("inputs":Str) n []=[(("inputs":Str),n)]:=rfl;have e2:cK ("lines":Str) l [(("inputs":Str),n)]=[(("inputs":Str),n),(("lines":Str),l)]:=by rw [bI (by decide +kernel)];rfl
 have e3:cK ("outs":Str) o [(("inputs":Str),n),(("lines":Str),l)]=[(("inputs":Str),n),(("lines":Str),l),(("outs":Str),o)]:=by rw [bI (by decide +kernel),bI (by decide +kernel)];rfl
 rw [e1,e2,e3,bI (by decide +kernel),bI (by decide +kernel),bI (by decide +kernel)];rfl
end
section
variable {p l f t s x:V}
theorem tY:(DJ p l f t s).lookup ("point":Str)=some p:=gi
theorem Ka:(DJ p l f t s).lookup ("line_values":Str)=some l:=(aT (by decide +kernel)).trans gi
theorem tZ:(DJ p l f t s).lookup ("fault":Str)=some f:=(aT (by decide +kernel)).trans ((aT (by decide +kernel)).trans gi)
theorem B8:(DJ p l f t s).lookup ("table":Str)=some t:=(aT (by decide +kernel)).trans ((aT (by decide +kernel)).trans ((aT (by decide +kernel)).trans gi))
theorem w9:(DJ p l f t s).lookup ("steps":Str)=some s:=(aT (by decide +kernel)).trans ((aT (by decide +kernel)).trans ((aT (by decide +kernel)).trans ((aT (by decide +kernel)).trans gi)))
theorem LO:cK "table" x (DJ p l f t s)=DJ p l f x s:=by
 unfold DJ;rw [bI (by decide +kernel),bI (by decide +kernel),bI (by decide +kernel),qc]
theorem LP:cK "steps" s (cK "table" t (cK "fault" f (cK "line_values" l (cK "point" p []))))=DJ p l f t s:=by
 have e1:cK ("point":Str) p []=[(("point":Str),p)]:=rfl;have e2:cK ("line_values":Str) l [(("point":Str),p)]=[(("point":Str),p),(("line_values":Str),l)]:=by rw [bI (by decide +kernel)];rfl
 have e3:cK ("fault":Str) f [(("point":Str),p),(("line_values":Str),l)]=[(("point":Str),p),(("line_values":Str),l),(("fault":Str),f)]:=by rw [bI (by decide +kernel),bI (by decide +kernel)];rfl
 have e4:cK ("table":Str) t [(("point":Str),p),(("line_values":Str),l),(("fault":Str),f)]=[(("point":Str),p),(("line_values":Str),l),(("fault":Str),f),(("table":Str),t)]:=by rw [bI (by decide +kernel),bI (by decide +kernel),bI (by decide +kernel)];rfl
 rw [e1,e2,e3,e4,bI (by decide +kernel),bI (by decide +kernel),bI (by decide +kernel),bI (by decide +kernel)];rfl
end
structure fD(K:PySem.W.Frag)(A:dP)(H:Hp)(h:Addr)(s:Ex.SR)(qv:V):Prop where
 ex:∃ dx l o,H h=some (.ins A.jI dx (hfs (.int (s.inputs:Nat)) l o qv))/\LL K H l s.raws/\IL H o (fy s.outs)
noncomputable def t6(ks:List Nat):Prop:=ks=[]\/ks=[0]\/ks=[1]\/ks=[0,1]\/ks=[1,0]
theorem t6.put{ks:List Nat}{k:Nat}(h:t6 ks)(hk:k<=1)(hn:¬ k∈ks):t6 (ks++[k])/\ks.length<=2:=by
 have hk:k=0\/k=1:=by omega
 rcases hk with rfl|rfl<;>rcases h with rfl|rfl|rfl|rfl|rfl<;>simp [t6] at hn ⊢
structure w_(K:PySem.W.Frag)(H:Hp)(d:Addr)(s:Ex.SR)(pt:List Rat):Prop where
 ex:∃ kvs ks,H d=some (.dK kvs)/\kvs.map (·.1)=ks.map (fun k:Nat=>(Sum.inl (k:Int):L2.Key))/\t6 ks/\
  ∀ (k:Nat) v,iV kvs (Sum.inl (k:Int))=some v->Cg (PL K) H v (Ex.gp k (dS s (Ex.aO pt [] s.raws).1) (Ex.bP s (Ex.aO pt [] s.raws).1) s.inputs)
noncomputable def yM(x:List Rat × Option Nat):Option (List Int):=x.2.map fun k=>[(x.1.length:Int),(k:Int)]
structure dG(K:PySem.W.Frag)(A:dP)(H:Hp)(p d:Addr)(s:Ex.SR)(pt:List Rat):Prop where
 ex:∃ dx vp vl vf vt,H p=some (.ins A.Place dx (DJ vp vl vf vt (.ref d)))/\FL K H vp pt/\FL K H vl (Ex.aO pt [] s.raws).1/\Cg (qE K) H vf (yM (Ex.aO pt [] s.raws))/\
  (vt=.non\/Ik K H vt (dS s (Ex.aO pt [] s.raws).1))
 steps:w_ K H d s pt
noncomputable def B9(p d:Addr)(H H':Hp):Prop:=∀ b o,H b=some o->b≠p->b≠d->H' b=some o
theorem B9.of_same{p d:Addr}{H H':Hp}(s:aH H H'):B9 p d H H':=fun b o h _ _=>s b o h
theorem B9.trans{p d:Addr}{H H1 H2:Hp}(a:B9 p d H H1)(b:B9 p d H1 H2):B9 p d H H2:=fun c o h h1 h2=>b c o (a c o h h1 h2) h1 h2
section
variable {P:Program}{w:World}{K:PySem.W.Frag}{mg:Str->Option Value}{base:Heap}{A:dP}{H H':Hp}{h p d:Addr}{s:Ex.SR}{qv:V}{pt:List Rat}
theorem fD.up(a:fD K A H h s qv)(k:c8 H H')(hh:∀ o,H h=some o->H' h=some o):fD K A H' h s qv:=by
 obtain ⟨dx,l,o,h1,h2,h3⟩:=a.ex;exact ⟨dx,l,o,hh _ h1,fH.ls k h2,g_ k h3⟩
theorem fD.same(a:fD K A H h s qv)(e:aH H H'):fD K A H' h s qv:=a.up (kp e) fun o ho=>e h o ho
theorem w_.up(a:w_ K H d s pt)(k:c8 H H')(hh:∀ o,H d=some o->H' d=some o):w_ K H' d s pt:=by
 obtain ⟨kvs,ks,h1,h2,h3,h4⟩:=a.ex;exact ⟨kvs,ks,hh _ h1,h2,h3,fun k' v e=>mF tH.ls k (h4 k' v e)⟩
theorem dG.up(a:dG K A H p d s pt)(k:c8 H H')(hp:∀ o,H p=some o->H' p=some o)(hd:∀ o,H d=some o->H' d=some o):dG K A H' p d s pt:=by
 obtain ⟨dx,vp,vl,vf,vt,h1,h2,h3,h4,h5⟩:=a.ex;exact ⟨⟨dx,vp,vl,vf,vt,hp _ h1,aL.ls k h2,aL.ls k h3,mF fH k h4,h5.imp id (aL.ls.ls k)⟩,a.steps.up k hd⟩
theorem dG.same(a:dG K A H p d s pt)(e:aH H H'):dG K A H' p d s pt:=a.up (kp e) (fun o ho=>e p o ho) fun o ho=>e d o ho
structure iM(K:PySem.W.Frag)(A:dP)(H:Hp)(h p d:Addr)(s:Ex.SR)(pt:List Rat):Prop where
 held:fD K A H h s (.ref p)
 at_:dG K A H p d s pt
theorem iM.same(a:iM K A H h p d s pt)(e:aH H H'):iM K A H' h p d s pt:=⟨a.held.same e,a.at_.same e⟩
theorem B9.keep(b:B9 p d H H')(a:dG K A H p d s pt):c8 H H':=fun c o hc st=>by
 obtain ⟨dx,vp,vl,vf,vt,h1,_⟩:=a.ex;obtain ⟨kvs,ks,h2,_⟩:=a.steps.ex;refine b c o hc ?_ ?_
 . rintro rfl;rw [h1] at hc;cases hc;exact st
 . rintro rfl;rw [h2] at hc;cases hc;exact st
theorem B9.held(b:B9 p d H H')(a:iM K A H h p d s pt):∀ o,H h=some o->H' h=some o:=fun o ho=>by
 obtain ⟨dx,l,oo,h0,_⟩:=a.held.ex;obtain ⟨kvs,ks,h2,_⟩:=a.at_.steps.ex;obtain ⟨vX,vp,vl,vf,vt,h1,_⟩:=a.at_.ex;refine b h o ho ?_ ?_
 . rintro rfl;rw [h0] at h1;injection h1 with h1
   injection h1 with _ _ h1
   have:=congrArg (List.lookup ("inputs":Str)) h1;rw [jA] at this;have e:(DJ vp vl vf vt (.ref d)).lookup ("inputs":Str)=none:=(aT (by decide +kernel)).trans ((aT (by decide +kernel)).trans ((aT (by decide +kernel)).trans ((aT (by decide +kernel)).trans ((aT (by decide +kernel)).trans rfl))));rw [e] at this;cases this
 . rintro rfl;rw [h0] at h2;cases h2
noncomputable def lP(K:PySem.W.Frag)(A:dP):Sp:=fun vs H Q _=>∃ (x dx:Addr) (vp vl vf:V),vs=[.ref x,vp,vl,vf]/\H x=some (.ins A.Place dx [])/\
 ∀ d H',H d=none->H' x=some (.ins A.Place dx (DJ vp vl vf .non (.ref d)))->H' d=some (.dK [])->(∀ b o,H b=some o->b≠x->H' b=some o)->Q .non H'
theorem Uc{f:Str}{v:V}:(cK f v []).length<1000:=by have:=cS f v [];simp at this ⊢;omega
theorem Ud{f g:Str}{v u:V}:(cK f v (cK g u [])).length<1000:=by
 have a:=cS f v (cK g u []);have b:=cS g u [];simp only [List.length_nil] at b;omega
theorem Ue{f g i:Str}{v u x:V}:(cK f v (cK g u (cK i x []))).length<1000:=by
 have a:=cS f v (cK g u (cK i x []));have b:=cS g u (cK i x []);have c:=cS i x [];simp only [List.length_nil] at c;omega
theorem VD{f g i j:Str}{v u x y:V}:(cK f v (cK g u (cK i x (cK j y [])))).length<1000:=by
 have a:=cS f v (cK g u (cK i x (cK j y [])));have b:=cS g u (cK i x (cK j y []));have c:=cS i x (cK j y []);have d:=cS j y [];simp only [List.length_nil] at d;omega
theorem t7(T:Txt K mg A)(D:Bs K mg A.Place "Place" "Place.__init__" gc ["self","point","line_values","fault"]) :EG P w K mg base A.Place "Place" ["self","point","line_values","fault"] 41 (lP K A):=by
 refine D.has s_ (fun vs H Q E h=>?_) (fun f cdv Ar outer s H vs Q E hr h=>?_)
 . obtain ⟨_,_,_,_,_,rfl,_⟩:=h;rfl
 . skip
   obtain ⟨x,dx,vp,vl,vf,rfl,hx,k⟩:=h;refine ⟨_,(ah (gR (pv 0) (pv 1) rfl)
    (ah (gR (pv 0) (pv 2) rfl)
    (ah (gR (pv 0) (pv 3) rfl)
    (ah (gR (pv 0) bF rfl)
    (au (gR (pv 0) I_ rfl)))))),?_⟩
   refine ⟨_,rfl,_,rfl,x,_,dx,_,rfl,hx,T.bN,T.dH,(by show 0<1000;decide),?_⟩;refine ⟨_,rfl,_,rfl,x,_,dx,_,rfl,ao,T.bN,T.dz,Uc,?_⟩;refine ⟨_,rfl,_,rfl,x,_,dx,_,rfl,ao,T.bN,T.dI,Ud,?_⟩;refine ⟨_,rfl,x,_,dx,_,rfl,ao,T.bN,T.eO,Ue,?_⟩;intro d hd;have hdx:d≠x:=by
    rintro rfl;rw [ao] at hd;cases hd
   have hd0:H d=none:=by
    have:=hd;rw [aJ hdx,aJ hdx,aJ hdx,aJ hdx] at this;exact this
   refine ⟨_,rfl,x,_,dx,_,rfl,(aJ hdx.symm).trans ao,T.bN,T.eT,VD,?_⟩;refine k d _ hd0 ?_ ?_ fun b o ho hb=>?_
   . rw [ao,LP]
   . rw [aJ hdx,ao]
   . rw [aJ hb,aJ (bg ho hd0),aJ hb,aJ hb,aJ hb,aJ hb];exact ho
noncomputable def ni(K:PySem.W.Frag)(A:dP):Sp:=fun vs H Q _=>∃ (x dx:Addr),vs=[.ref x]/\H x=some (.ins A.jI dx [])/\
 ∀ H',fD K A H' x Ex.SR.start .non->(∀ b o,H b=some o->b≠x->H' b=some o)->Q .non H'
theorem ve(T:Txt K mg A)(D:Bs K mg A.jI "Held" "Held.__init__" gO ["self"]) :EG P w K mg base A.jI "Held" ["self"] 41 (ni K A):=by
 refine D.has uN (fun vs H Q E h=>?_) (fun f cdv Ar outer s H vs Q E hr h=>?_)
 . obtain ⟨_,_,rfl,_⟩:=h;rfl
 . skip
   obtain ⟨x,dx,rfl,hx,k⟩:=h;refine ⟨_,(ah (gR (pv 0) ay rfl)
    (ah (gR (pv 0) (aR ai) rfl)
    (ah (gR (pv 0) (aR ai) rfl)
    (au (gR (pv 0) bF rfl))))),?_⟩
   refine ⟨_,rfl,x,_,dx,_,rfl,hx,T.bz,T.cN,(by show 0<1000;decide),?_⟩;refine ⟨Nat.zero_le _,fun l hl=>?_⟩;have hlx:l≠x:=by
    rintro rfl;rw [ao] at hl;cases hl
   have SM:H l=none:=by
    have:=hl;rw [aJ hlx] at this;exact this
   refine ⟨_,rfl,x,_,dx,_,rfl,(aJ hlx.symm).trans ao,T.bz,T.fm,Uc,?_⟩;refine ⟨Nat.zero_le _,fun o ho=>?_⟩;have hox:o≠x:=by
    rintro rfl;rw [ao] at ho;cases ho
   have Om:o≠l:=by
    rintro rfl;rw [aJ hox,ao] at ho;cases ho
   have VE:H o=none:=by
    have:=ho;rw [aJ hox,aJ Om,aJ hox] at this;exact this
   refine ⟨_,rfl,x,_,dx,_,rfl,(aJ hox.symm).trans ao,T.bz,T.d9,Ud,?_⟩;refine ⟨_,rfl,x,_,dx,_,rfl,ao,T.bz,T.bA,Ue,?_⟩;refine k _ ⟨dx,.ref l,.ref o,by rw [ao,LN];rfl,⟨l,[],rfl,?_,.nil⟩,⟨o,[],rfl,?_,.nil⟩⟩ fun b u hb QZ=>?_
   . rw [aJ hlx,aJ hlx,aJ Om.symm,aJ hlx,ao]
   . rw [aJ hox,aJ hox,ao]
   . rw [aJ QZ,aJ QZ,aJ (bg hb VE),aJ QZ,aJ (bg hb SM),aJ QZ];exact hb
noncomputable def lQ(K:PySem.W.Frag)(A:dP):Sp:=fun vs H Q _=>∃ (h:Addr) (s s':Ex.SR) (qv l o:V),vs=[.ref h,.int (s'.inputs:Nat),l,o]/\fD K A H h s qv/\LL K H l s'.raws/\IL H o (fy s'.outs)/\
 ∀ H',fD K A H' h s' .non->(∀ b o,H b=some o->b≠h->H' b=some o)->Q .non H'
theorem P_{n l o p:V}:(hfs n l o p).length<1000:=by show 4<1000;decide
theorem nj{H H':Hp}{h:Addr}{C dx:Addr}{fs:List (Str × V)}(hh:H h=some (.ins C dx fs))(k:∀ b o,H b=some o->b≠h->H' b=some o):c8 H H':=fun b o hb st=>k b o hb (by
 rintro rfl;rw [hh] at hb;cases hb;exact st)
theorem t8(T:Txt K mg A)(D:Br K A.jI "hold_code" "Held.hold_code" gf ["self","inputs","lines","outs"]) :Bt P w K mg base A.jI "hold_code" ["self","inputs","lines","outs"] 41 (lQ K A):=by
 refine D.has tu (fun vs H Q E h=>?_) (fun f cdv Ar outer s H vs Q E hr h=>?_)
 . obtain ⟨_,_,_,_,_,_,rfl,_⟩:=h;rfl
 . skip
   obtain ⟨h,s0,s',qv,l,o,rfl,⟨dx,l0,o0,hh,_,_⟩,hl,ho,k⟩:=h;refine ⟨_,(ah (gR (pv 0) (pv 1) rfl)
    (ah (gR (pv 0) (pv 2) rfl)
    (ah (gR (pv 0) (pv 3) rfl)
    (au (gR (pv 0) bF rfl))))),?_⟩
   refine ⟨_,rfl,_,rfl,h,_,dx,_,rfl,hh,T.bz,T.cN,P_,?_⟩;rw [J_];refine ⟨_,rfl,_,rfl,h,_,dx,_,rfl,ao,T.bz,T.fm,P_,?_⟩;rw [LM,c6];refine ⟨_,rfl,_,rfl,h,_,dx,_,rfl,ao,T.bz,T.d9,P_,?_⟩;rw [NW,c6];refine ⟨_,rfl,h,_,dx,_,rfl,ao,T.bz,T.bA,P_,?_⟩;rw [Gv,c6];have kb:∀ b o',H b=some o'->b≠h->upd H h (.ins A.jI dx (hfs (.int (s'.inputs:Nat)) l o .non)) b=some o':=fun b o' hb hn=>by rw [aJ hn];exact hb
   exact k _ ⟨dx,l,o,ao,fH.ls (nj hh kb) hl,g_ (nj hh kb) ho⟩ kb
noncomputable def dQ(K:PySem.W.Frag)(A:dP):Sp:=fun vs H Q _=>∃ (h:Addr) (s:Ex.SR) (qv v:V),vs=[.ref h,v]/\fD K A H h s qv/\
 ∀ H',fD K A H' h s v->(∀ b o,H b=some o->b≠h->H' b=some o)->Q .non H'
theorem rY(T:Txt K mg A)(D:Br K A.jI "hold_place" "Held.hold_place" fP ["self","place"]) :Bt P w K mg base A.jI "hold_place" ["self","place"] 41 (dQ K A):=by
 refine D.has rL (fun vs H Q E h=>?_) (fun f cdv Ar outer s H vs Q E hr h=>?_)
 . obtain ⟨_,_,_,_,rfl,_⟩:=h;rfl
 . skip
   obtain ⟨h,s0,qv,v,rfl,⟨dx,l0,o0,hh,hl,ho⟩,k⟩:=h;refine ⟨_,(au (gR (pv 0) (pv 1) rfl)),?_⟩;refine ⟨_,rfl,_,rfl,h,_,dx,_,rfl,hh,T.bz,T.bA,P_,?_⟩;rw [Gv];have kb:∀ b o',H b=some o'->b≠h->upd H h (.ins A.jI dx (hfs (.int (s0.inputs:Nat)) l0 o0 v)) b=some o':=fun b o' hb hn=>by rw [aJ hn];exact hb
   exact k _ ⟨dx,l0,o0,ao,fH.ls (nj hh kb) hl,g_ (nj hh kb) ho⟩ kb
end
end Pg
namespace Pg
open PySem PySem.Spec PyProof.Rows L2
section
variable {P:Program}{w:World}{K:PySem.W.Frag}{mg:Str->Option Value}{base:Heap}{A:dP}
noncomputable def ia(K:PySem.W.Frag)(A:dP):Sp:=fun vs H Q _=>∃ (h:Addr) (v:V) (s:Ex.SR) (pt:List Rat) (qv:V),vs=[.ref h,v]/\fD K A H h s qv/\FL K H v pt/\s.Ok/\pt.length=s.inputs/\
 ∀ p d H',H p=none->H d=none->aH H H'->dG K A H' p d s pt->Q (.ref p) H'
theorem DK(T:Txt K mg A)(D:Def K mg "place_at" rM ["held","point"])(AQ:Has P w K mg base "run" ["lines","point"] 46 (E5 K A))(jg:EG P w K mg base A.Place "Place" ["self","point","line_values","fault"] 41 (lP K A)):Has P w K mg base "place_at" ["held","point"] 47 (ia K A):=by
 refine D.has vQ (fun vs H Q E h=>?_) (fun f cdv Ar outer s H vs Q E hr h=>?_)
 . obtain ⟨_,_,_,_,_,rfl,_⟩:=h;rfl
 . skip
   obtain ⟨h,v,s0,pt,qv,rfl,⟨dx,l0,o0,hh,hl,ho⟩,hv,ok,hpl,k⟩:=h;refine ⟨_,(ah (aI (i:=2) vQ.nd rfl (Or.inl rfl) (aG AQ (hr.mono (by decide)) rfl (af (aZ (K:=K) rfl (pv 0) rfl) (af (pv 1) ai))))
    (au (aA (Pn jg (hr.mono (by decide)) rfl (af (pv 1) (af (aD (az (K:=K) rfl) (pv 2) ay (fun _ _=>rfl)) (af (aD (az (K:=K) rfl) (pv 2) ay (fun _ _=>rfl)) ai))))))),?_⟩
   refine ⟨_,rfl,h,_,dx,_,_,rfl,hh,T.bz,T.fm,B7,_,rfl,_,_,s0.raws,pt,rfl,hl,hv,ok.lines,(by rw [hpl];exact ok.uses),ok.few,fun r H1 s1 hr1=>?_⟩;obtain ⟨q,u,y,rfl,hq,hu,hy⟩:=hr1;refine ⟨_,rfl,_,rfl,.inr ⟨_,_,_,_,rfl,rfl,hq,rfl,_,rfl,.inr ⟨_,_,_,_,rfl,rfl,hq,rfl,fun x LQ hx hdx hne=>?_⟩⟩⟩;refine ⟨x,LQ,_,_,_,rfl,ao,fun d H2 hd h1 h2 h3=>⟨rfl,?_⟩⟩;have SN:d≠x:=by
    rintro rfl;rw [ao] at hd;cases hd
   have SO:d≠LQ:=by
    rintro rfl;rw [aJ hne,ao] at hd;cases hd
   have hd1:H1 d=none:=by
    rw [aJ SN,aJ SO] at hd;exact hd
   have s2:aH H1 H2:=fun b o hb=>h3 b o (by rw [aJ (bg hb hx),aJ (bg hb hdx)];exact hb) (bg hb hx);exact k x d H2 (s1.free hx) (s1.free hd1) (s1.trans s2) ⟨⟨LQ,_,_,_,_,h1,aL.ls (kp (s1.trans s2)) hv,aL.ls (kp s2) hu,mF fH (kp s2) hy,.inl rfl⟩,⟨[],[],h2,rfl,.inl rfl,fun kk v e=>by cases e⟩⟩
noncomputable def gH(K:PySem.W.Frag)(A:dP):Sp:=fun vs H Q _=>∃ (h p d:Addr) (s:Ex.SR) (pt:List Rat) (qv:V),vs=[.ref h,.ref p]/\fD K A H h s qv/\dG K A H p d s pt/\s.Ok/\(Ex.aO pt [] s.raws).2=none/\
 ∀ v H',aH H H'->FL K H' v (Ex.bP s (Ex.aO pt [] s.raws).1)->Q v H'
theorem zO(T:Txt K mg A)(D:Def K mg "results_at" nN ["held","place"]) :Has P w K mg base "results_at" ["held","place"] 41 (gH K A):=by
 refine D.has mj (fun vs H Q E h=>?_) (fun f cdv Ar outer s H vs Q E hr h=>?_)
 . obtain ⟨_,_,_,_,_,_,rfl,_⟩:=h;rfl
 . skip
   obtain ⟨h,p,d,s0,pt,qv,rfl,⟨dx,l0,o0,hh,hl,ho⟩,⟨⟨vX,vp,vl,vf,vt,hp,h2,h3,h4,h5⟩,hst⟩,ok,ic,k⟩:=h;obtain ⟨oa,rfl,Kc⟩:=ho.at_;have W:=valsOk ok ic;have h3':=h3;obtain ⟨la,ls,rfl,hla,all⟩:=h3';refine ⟨_,(au (aA (mX rfl mj.nd (eW (aZ (K:=K) rfl (pv 0) rfl)) (cH (own:=[("out",2)]) (by kernel_rfl)) (fun _ _ _ _ _=>(aN (i:=2) mj.nd rfl (Or.inl rfl))) (fun _ _ _ _ _=>dg) (fun _ _ _ _ _=>(aD (az (K:=K) rfl) (aZ (K:=K) rfl (pv 1) rfl) (pv 2) (fun _ _=>rfl)))))),?_⟩;refine ⟨_,rfl,h,_,dx,_,_,rfl,hh,T.bz,T.d9,yK,_,rfl,⟨_,aP.of Kc⟩,fun D hD=>BR (R:=Fr K) aL (zs:=Ex.bP s0 (Ex.aO pt [] s0.raws).1) (j:=2) hD (lt_size ?_) (aP.of Kc) ?_ (fun i x z B ys hx hz hB s Q2 k2=>?_) (fun B ys s hB oV=>?_)⟩
   . rw [Ex.bH];have:=ok.outs;omega
   . rw [Ex.bH];unfold fy;rw [List.length_map,List.length_map]
   . obtain ⟨o,ho2,rfl⟩:∃ o,s0.outs[i]?=some o/\x=.int (o:Int):=by
      unfold fy at hx;rw [List.map_map,List.getElem?_map] at hx;cases e:s0.outs[i]? with
      |none=>rw [e] at hx;cases hx
      |some o=>rw [e] at hx;exact ⟨o,rfl,(Option.some.inj hx).symm⟩
     have ez:z=(Ex.aO pt [] s0.raws).1.getD o 0:=by
      unfold Ex.bP at hz;rw [List.getElem?_map,ho2] at hz;exact (Option.some.inj hz).symm
     have Om:o<(Ex.aO pt [] s0.raws).1.length:=by rw [W.len];exact ok.Aq o (List.mem_of_getElem? ho2)
     obtain ⟨y,hy,ry⟩:=Fl.at_ hla all Om;have s1:aH H (upd B D (.lst ys)):=s.trans (ak hB);refine ⟨_,rfl,p,_,vX,_,_,rfl,s1 _ _ hp,T.bN,T.dz,Ka,_,rfl,.inl ⟨_,_,_,_,rfl,rfl,aP.of (s1 _ _ hla),at_of (j:=o) rfl hy,k2 _ B hB (aH.refl _) ?_⟩⟩;rw [ez];exact aL (kp s) ry
   . exact k _ _ (s.trans (ak hB)) ⟨D,ys,rfl,ao,aL.al (aS hB) oV⟩
noncomputable def dY(K:PySem.W.Frag)(A:dP):Sp:=fun vs H Q _=>∃ (h p d:Addr) (s:Ex.SR) (pt:List Rat),vs=[.ref h]/\iM K A H h p d s pt/\s.Ok/\(Ex.aO pt [] s.raws).2=none/\
 ∀ v H',aH H H'->FL K H' v (Ex.bP s (Ex.aO pt [] s.raws).1)->Q v H'
theorem wL(T:Txt K mg A)(D:Def K mg "results_here" ku ["held"])(cB:Has P w K mg base "results_at" ["held","place"] 41 (gH K A)):Has P w K mg base "results_here" ["held"] 42 (dY K A):=by
 refine D.has wz (fun vs H Q E h=>?_) (fun f cdv Ar outer s H vs Q E hr h=>?_)
 . obtain ⟨_,_,_,_,_,rfl,_⟩:=h;rfl
 . skip
   obtain ⟨h,p,d,s0,pt,rfl,hP,ok,ic,k⟩:=h;obtain ⟨dx,l0,o0,hh,hl,ho⟩:=hP.held.ex;refine ⟨_,(au (aA (aG cB (hr.mono (by decide)) rfl (af (pv 0) (af (aZ (K:=K) rfl (pv 0) rfl) ai))))),?_⟩;exact ⟨_,rfl,_,rfl,h,_,dx,_,_,rfl,hh,T.bz,T.bA,fR,h,p,d,s0,pt,_,rfl,hP.held,hP.at_,ok,ic,k⟩
noncomputable def ext(F:Option (Addr × List V))(B:Hp):Hp:=match F with
 |none=>B
 |some x=>upd B x.1 (.lst x.2)
noncomputable def NotIn(F:Option (Addr × List V))(B:Hp):Prop:=match F with
 |none=>True
 |some x=>B x.1=none
theorem t9{F:Option (Addr × List V)}{B:Hp}(h:NotIn F B):aH B (ext F B):=by
 cases F with
 |none=>exact aH.refl _
 |some x=>exact ak h
theorem LR{F:Option (Addr × List V)}{B H':Hp}(h:NotIn F B)(s:aH (ext F B) H'):∃ B',H'=ext F B'/\NotIn F B'/\aH B B':=by
 cases F with
 |none=>exact ⟨H',rfl,trivial,s⟩
 |some x=>exact cut h s
theorem LS{F:Option (Addr × List V)}{B:Hp}{p:Addr}{o u:HO}(h:NotIn F B)(hp:B p=some o):upd (ext F B) p u=ext F (upd B p u)/\NotIn F (upd B p u):=by
 cases F with
 |none=>exact ⟨rfl,trivial⟩
 |
  some x=>
  have hne:p≠x.1:=bg hp h;refine ⟨?_,by show upd B p u x.1=none;rw [aJ hne.symm];exact h⟩;show upd (upd B x.1 (.lst x.2)) p u=upd (upd B p u) x.1 (.lst x.2);funext b;unfold upd;by_cases h1:b=p
  . subst h1;rw [if_pos rfl,if_neg hne,if_pos rfl]
  . rw [if_neg h1];by_cases h2:b=x.1
    . rw [if_pos h2,if_pos h2]
    . rw [if_neg h2,if_neg h2,if_neg h1]
theorem LU{F:Option (Addr × List V)}{B B':Hp}{v:V}{tab:List (List Rat)}(h:NotIn F B')(hf:Mq (ext F B) (ext F B') v)(r:Ik K (ext F B') v tab):Ik K B' v tab:=by
 cases F with
 |none=>exact r
 |
  some x=>
  obtain ⟨a,vs,rfl,h0,h1,h2⟩:=hf;obtain ⟨a',vs',e,h3,al⟩:=r;have e:a=a':=by injection e
  subst e;have e:vs=vs':=by
   rw [h1] at h3;injection h3 with h3
   injection h3
  subst e;have hx:(ext (some x) B) x.1=some (.lst x.2):=ao;have hne:∀ r,(ext (some x) B) r=none->r≠x.1:=fun r hr z=>by
   rw [z,hx] at hr;cases hr
  have h4:B' a=some (.lst vs):=by
   have h3:upd B' x.1 (.lst x.2) a=some (.lst vs):=h3;rw [aJ (hne a h0)] at h3;exact h3
  refine ⟨a,vs,rfl,h4,?_⟩;have go:∀ {us:List V} {ys:List (List Rat)},Al (FL K (ext (some x) B')) us ys->(∀ u,u∈us->∃ r,u=.ref r/\(ext (some x) B) r=none)->Al (FL K B') us ys:=by
   intro us ys al
   induction al with
   |nil=>exact fun _=>.nil
   |
    @cons u y us ys r1 _ ih=>
    intro hu;refine .cons ?_ (ih fun u' Gp=>hu u' (List.mem_cons_of_mem _ Gp));obtain ⟨r,rfl,hr⟩:=hu u List.mem_cons_self;exact kM.ls h (fun z=>hne r hr (by injection z)) r1
  exact go al h2
noncomputable def gI(K:PySem.W.Frag)(A:dP):Sp:=fun vs H Q _=>∃ (h p d:Addr) (s:Ex.SR) (pt:List Rat) (F:Option (Addr × List V)) (B:Hp),vs=[.ref h]/\H=ext F B/\NotIn F B/\iM K A B h p d s pt/\s.Ok/\(Ex.aO pt [] s.raws).2=none/\
 ∀ v B',B9 p d B B'->NotIn F B'->iM K A B' h p d s pt->Ik K B' v (dS s (Ex.aO pt [] s.raws).1)->Q v (ext F B')
theorem VF{a b c d e:V}:(DJ a b c d e).length<1000:=by show 5<1000;decide
theorem zP(T:Txt K mg A)(D:Def K mg "table_here" nO ["held"])(rZ:Has P w K mg base "table_at" ["lines","outs","inputs","line_values"] 45 (vV K A)):Has P w K mg base "table_here" ["held"] 46 (gI K A):=by
 refine D.has qM (fun vs H Q E h=>?_) (fun f cdv Ar outer s H vs Q E hr h=>?_)
 . obtain ⟨_,_,_,_,_,_,_,rfl,_⟩:=h;rfl
 . skip
   obtain ⟨h,p,d,s0,pt,F,B,rfl,rfl,Qa,Ou,ok,ic,k⟩:=h;have hP:=Ou.same (t9 Qa);obtain ⟨dx,l0,o0,hh,hl,ho⟩:=hP.held.ex;obtain ⟨vX,vp,vl,vf,vt,Ug,VG,Uh,VH,VI⟩:=Ou.at_.ex;have hp:=t9 Qa _ _ Ug;have h3:=aL.ls (kp (t9 Qa)) Uh;have W:=valsOk ok ic;refine ⟨_,(ah (aI (i:=1) qM.nd rfl (Or.inl rfl) (aZ (K:=K) rfl (pv 0) rfl))
    (ah (aM (aC dW (aZ (K:=K) rfl (pv 1) rfl) bF (aE _)) (au (gR (pv 1) (aG rZ (hr.mono (by decide)) rfl (af (aZ (K:=K) rfl (pv 0) rfl) (af (aZ (K:=K) rfl (pv 0) rfl) (af (aZ (K:=K) rfl (pv 0) rfl) (af (aZ (K:=K) rfl (pv 1) rfl) ai))))) rfl))
    aF)
    (au (aA (aZ (K:=K) rfl (pv 1) rfl))))),?_⟩
   refine ⟨_,rfl,h,_,dx,_,_,rfl,hh,T.bz,T.bA,fR,?_⟩;refine ⟨_,rfl,p,_,vX,_,_,rfl,hp,T.bN,T.eO,B8,rfl,_,rfl,?_⟩;by_cases SQ:vt=.non
   . subst SQ;rw [decide_eq_true rfl];refine aW ?_;refine ⟨_,rfl,h,_,dx,_,_,rfl,hh,T.bz,T.fm,B7,_,rfl,h,_,dx,_,_,rfl,hh,T.bz,T.d9,yK,_,rfl,h,_,dx,_,_,rfl,hh,T.bz,T.cN,jA,
      _,rfl,p,_,vX,_,_,rfl,hp,T.bN,T.dz,Ka,_,_,_,s0.raws,s0.outs,s0.inputs,_,rfl,hl,ho,h3,codeOk ok,W,fun v H1 s1 hv hfr=>?_⟩
     obtain ⟨B1,rfl,hn1,sB⟩:=LR Qa s1;have Q0:Ik K B1 v (dS s0 (Ex.aO pt [] s0.raws).1):=LU hn1 hfr hv;have NX:=sB _ _ Ug;refine ⟨_,rfl,p,_,vX,_,rfl,t9 hn1 _ _ NX,T.bN,T.eO,VF,?_⟩;rw [LO];refine ⟨_,rfl,p,_,vX,_,_,rfl,ao,T.bN,T.eO,B8,?_⟩;obtain ⟨eu,hn2⟩:=LS (u:=.ins A.Place vX (DJ vp vl vf v (.ref d))) hn1 NX;rw [eu];have hb1:B9 p d B1 (upd B1 p (.ins A.Place vX (DJ vp vl vf v (.ref d)))):=fun b o hb h1 _=>by rw [aJ h1];exact hb
     have xg:iM K A B1 h p d s0 pt:=Ou.same sB;have kk:=hb1.keep xg.at_;have hd1:∀ o,B1 d=some o->(upd B1 p (.ins A.Place vX (DJ vp vl vf v (.ref d)))) d=some o:=fun o hd=>by
      have:d≠p:=by
       rintro rfl;obtain ⟨kvs,ks,h6,_⟩:=xg.at_.steps.ex;rw [NX] at h6;cases h6
      rw [aJ this];exact hd
     refine k _ _ ((B9.of_same sB).trans hb1) hn2 ⟨xg.held.up kk (hb1.held xg),⟨⟨vX,vp,vl,vf,v,ao,aL.ls kk (aL.ls (kp sB) VG),aL.ls kk (aL.ls (kp sB) Uh),mF fH kk (mF fH (kp sB) VH),.inr (aL.ls.ls kk Q0)⟩,xg.at_.steps.up kk hd1⟩⟩ (aL.ls.ls kk Q0)
   . rw [decide_eq_false SQ];refine aQ ?_;exact ⟨_,rfl,p,_,vX,_,_,rfl,hp,T.bN,T.eO,B8,k _ _ (B9.of_same (aH.refl _)) Qa Ou (VI.resolve_left SQ)⟩
noncomputable def jZ(K:PySem.W.Frag)(A:dP):Sp:=fun vs H Q _=>∃ (h p d:Addr) (s:Ex.SR) (pt:List Rat) (kind:Nat),vs=[.ref h,.int kind]/\iM K A H h p d s pt/\s.Ok/\(Ex.aO pt [] s.raws).2=none/\kind<=1/\
 ∀ v H',B9 p d H H'->iM K A H' h p d s pt->Cg (PL K) H' v (Ex.gp kind (dS s (Ex.aO pt [] s.raws).1) (Ex.bP s (Ex.aO pt [] s.raws).1) s.inputs)->Q v H'
theorem B_(T:Txt K mg A)(D:Def K mg "step_here" pV ["held","kind"])(qe:Has P w K mg base "find_step" ["kind","table","results","inputs"] 44 (tX K A))(cC:Has P w K mg base "table_here" ["held"] 46 (gI K A))(bE:Has P w K mg base "results_here" ["held"] 42 (dY K A)):Has P w K mg base "step_here" ["held","kind"] 47 (jZ K A):=by
 refine D.has tw (fun vs H Q E h=>?_) (fun f cdv Ar outer s H vs Q E hr h=>?_)
 . obtain ⟨_,_,_,_,_,_,rfl,_⟩:=h;rfl
 . skip
   obtain ⟨h,p,d,s0,pt,kind,rfl,hP,ok,ic,hk,k⟩:=h;obtain ⟨dx,l0,o0,hh,hl,ho⟩:=hP.held.ex;obtain ⟨vX,vp,vl,vf,vt,hp,h2,h3,h4,h5⟩:=hP.at_.ex;obtain ⟨kvs,ks,hd,hks,hko,hval⟩:=hP.at_.steps.ex;have W:=valsOk ok ic;refine ⟨_,(ah (aI (i:=2) tw.nd rfl (Or.inl rfl) (aZ (K:=K) rfl (pv 0) rfl))
    (ah (aM (MK (GW (Je hr) (pv 1) (aZ (K:=K) rfl (pv 2) rfl)) (by with_unfolding_all rfl)) (au (La (Je hr) (aZ (K:=K) rfl (pv 2) rfl) (pv 1) (aG qe (hr.mono (by decide)) rfl (af (pv 1) (af (aG cC (hr.mono (by decide)) rfl (af (pv 0) ai)) (af (aG bE (hr.mono (by decide)) rfl (af (pv 0) ai)) (af (aZ (K:=K) rfl (pv 0) rfl) ai))))) rfl))
    aF)
    (au (aA (K_ (Je hr) (aZ (K:=K) rfl (pv 2) rfl) (pv 1) (fun _ _=>rfl)))))),?_⟩
   refine ⟨_,rfl,h,_,dx,_,_,rfl,hh,T.bz,T.bA,fR,?_⟩;refine ⟨_,rfl,_,rfl,p,_,vX,_,_,rfl,hp,T.bN,T.eT,w9,d,_,rfl,zc.k (k:=Sum.inl (kind:Int)) hd,_,rfl,?_⟩;cases ev:iV kvs (Sum.inl (kind:Int)) with
   |
    some v=>
    refine aQ ?_;refine ⟨_,rfl,p,_,vX,_,_,rfl,hp,T.bN,T.eT,w9,_,rfl,d,v,rfl,?_,k _ _ (B9.of_same (aH.refl _)) hP (hval kind v ev)⟩;rw [<-ev];exact zc.k (k:=Sum.inl (kind:Int)) hd
   |
    none=>
    refine aW ?_;obtain ⟨L,hL,bL,hq,hb⟩:=DI ok W;refine ⟨_,rfl,_,rfl,h,p,d,s0,pt,none,H,rfl,rfl,trivial,hP,ok,ic,fun v1 H1 b1 _ xg hv1=>?_⟩;refine ⟨_,rfl,h,p,d,s0,pt,rfl,xg,ok,ic,fun v2 H2 s2 hv2=>?_⟩;have zQ:=xg.same s2;obtain ⟨LQ,l2,o2,Mu,_,_⟩:=zQ.held.ex;refine ⟨_,rfl,h,_,LQ,_,_,rfl,Mu,T.bz,T.cN,jA,?_⟩;refine ⟨_,_,kind,dS s0 (Ex.aO pt [] s0.raws).1,Ex.bP s0 (Ex.aO pt [] s0.raws).1,s0.inputs,L,492061,rfl,aL.ls.ls (kp s2) hv1,hv2,eF _ _,(by rw [Ex.bH];exact ok.outs),ok.ins,gG _ _,hL,bL,hq,hb,(by rw [Ex.Sg];decide),fun v3 H3 s3 zK=>?_⟩;have vY:=zQ.same s3;obtain ⟨LV,SS,SV,Qc,SW,hp3,g2,g3,g4,g5⟩:=vY.at_.ex;obtain ⟨Fc,Qe,SX,LW,NY,Qg⟩:=vY.at_.steps.ex;have b3:B9 p d H H3:=b1.trans (B9.of_same (s2.trans s3));have WJ:Fc.length=Qe.length:=by
     have:=congrArg List.length LW;rw [List.length_map,List.length_map] at this;exact this
    have WK:Qe.length<=2:=by rcases NY with e|e|e|e|e<;>rw [e]<;>decide
    refine ⟨_,rfl,p,_,LV,_,_,rfl,hp3,T.bN,T.eT,w9,_,rfl,d,_,rfl,IZ.k (k:=Sum.inl (kind:Int)) SX (lt_size (by omega)),?_⟩;have Ui:d≠p:=by
     rintro rfl;rw [hp3] at SX;cases SX
    refine ⟨_,rfl,p,_,LV,_,_,rfl,(aJ Ui.symm).trans hp3,T.bN,T.eT,w9,_,rfl,d,v3,rfl,?_,?_⟩
    . have e:iV (putK Fc (Sum.inl (kind:Int):L2.Key) v3) (Sum.inl (kind:Int))=some v3:=by rw [CB,if_pos rfl]
      rw [<-e];exact zc.k (k:=Sum.inl (kind:Int)) ao
    . have SY:B9 p d H3 (upd H3 d (.dK (putK Fc (Sum.inl (kind:Int)) v3))):=fun b o hb _ h1=>by rw [aJ h1];exact hb
      have kk:=SY.keep vY.at_;refine k _ _ (b3.trans SY) ⟨vY.held.up kk (SY.held vY),⟨⟨LV,SS,SV,Qc,SW,(aJ Ui.symm).trans hp3,aL.ls kk g2,aL.ls kk g3,mF fH kk g4,g5.imp id (aL.ls.ls kk)⟩,?_⟩⟩ (mF tH.ls kk zK);have Gs:∀ (k':Nat) v,iV (putK Fc (Sum.inl (kind:Int):L2.Key) v3) (Sum.inl (k':Int))=some v->Cg (PL K) (upd H3 d (.dK (putK Fc (Sum.inl (kind:Int)) v3))) v (Ex.gp k' (dS s0 (Ex.aO pt [] s0.raws).1) (Ex.bP s0 (Ex.aO pt [] s0.raws).1) s0.inputs):=fun k' v e=>by
       rw [CB] at e;by_cases hkk:(Sum.inl (k':Int):L2.Key)=Sum.inl (kind:Int)
       . rw [if_pos hkk] at e;have hkk:(k':Int)=(kind:Int):=by injection hkk
         have hkk:k'=kind:=by omega
         have e:v3=v:=Option.some.inj e;subst e hkk;exact mF tH.ls kk zK
       . rw [if_neg hkk] at e;exact mF tH.ls kk (Qg k' v e)
      cases S0:iV Fc (Sum.inl (kind:Int)) with
      |
       none=>
       have S1:¬ kind∈Qe:=fun hm=>by
        have h1:=Jf S0;rw [LW] at h1;exact h1 (List.mem_map.mpr ⟨kind,hm,rfl⟩)
       refine ⟨_,Qe++[kind],ao,?_,(NY.put hk S1).1,Gs⟩;rw [IY v3 S0,List.map_append,List.map_append,LW];rfl
      |
       some vv=>
       refine ⟨_,Qe,ao,?_,NY,Gs⟩;rw [<-LW];unfold putK;have ha:(Fc.any fun kv=>decide (kv.1=(Sum.inl (kind:Int):L2.Key)))=true:=by
        rw [j7,S0];rfl
       rw [if_pos ha,List.map_map];apply List.map_congr_left;intro x _;show (if x.1=_ then (x.1,v3) else x).1=x.1;split<;>rfl
theorem Fd(l:List Rat)(q:Rat):Ex.jw (l++[q])=Ex.jw l++[q.num,(q.den:Int)]:=by
 unfold Ex.jw;rw [List.flatMap_append];rfl
theorem m5:∀ l:List Rat,(Ex.jw l).length=2*l.length
 |[]=>rfl
 |
  q::r=>by
  have:=m5 r;show (q.num::(q.den:Int)::Ex.jw r).length=2*(r.length+1);simp only [List.length_cons];omega
noncomputable def jt(K:PySem.W.Frag)(A:dP):Sp:=fun vs H Q _=>∃ (u v:V) (hd:List Int) (qs:List Rat),vs=[u,v]/\IL H u hd/\FL K H v qs/\hd.length<=10/\qs.length<=100/\∀ x H',aH H H'->IL H' x (Ex.bQ hd qs)->Q x H'
theorem LX(T:Txt K mg A)(D:Def K mg "told" EN ["head","fractions"])(fC:Has P w K mg base "weight" ["fraction"] 41 (nh K A)):Has P w K mg base "told" ["head","fractions"] 42 (jt K A):=by
 refine D.has Bw (fun vs H Q E h=>?_) (fun f cdv Ar outer s H vs Q E hr h=>?_)
 . obtain ⟨_,_,_,_,rfl,_⟩:=h;rfl
 . skip
   obtain ⟨u,v,hd,qs,rfl,hu,⟨va,vs,rfl,hv,tR⟩,VJ,VL,k⟩:=h;obtain ⟨ua,rfl,hu1⟩:=hu.at_;refine ⟨_,(ah (aI (i:=2) Bw.nd rfl (Or.inl rfl) (uq sy (by rfl) T.JJ yx (af (pv 0) ai)))
    (ah (eX PassesOwn.never rfl (eW (pv 1)) (aN (i:=3) Bw.nd rfl (Or.inl rfl))
    (ah (aM (aC oY (aG fC (hr.mono (by decide)) rfl (af (pv 3) ai)) (aX T.kL) (aE _)) (au (aA (aR (af (aX T.fZ) ai))))
    aF)
    (ah (dD (lB PySem.F.plainAttrs_list PySem.F.slot_list_append PySem.F.type_list_append dX (pv 2) (af (aD (az (K:=K) rfl) (pv 3) ay (fun _ _=>rfl)) ai)))
    (au (dD (lB PySem.F.plainAttrs_list PySem.F.slot_list_append PySem.F.type_list_append dX (pv 2) (af (aD (az (K:=K) rfl) (pv 3) ay (fun _ _=>rfl)) ai)))))))
    (au (aA (pv 2))))),?_⟩
   refine ⟨_,rfl,_,_,rfl,.inl (aP.of hu1),fun l hl=>?_⟩;refine ⟨_,rfl,va,rfl,⟨_,aP.of ((aS hl).lst hv)⟩,mT (K:=K) (a:=va) (xs:=vs) (fun i σ H'=>∃ o B,σ=[some (.ref ua),some (.ref va),some (.ref l),o]/\H'=upd B l (.lst ((hd++Ex.jw (qs.take i)).map V.int))/\B l=none/\aH H B/\Ex.heavy 6000 (qs.take i)=false)
    ⟨none,H,rfl,?_,hl,aH.refl _,rfl⟩ (fun i σ H' _ ⟨_,B,_,e,hB,s,_⟩=>by rw [e];exact aP.of ((kp (s.trans (ak hB))).lst hv)) ?_ ?_⟩
   . show upd H l _=upd H l (.lst ((hd++[]).map V.int));rw [List.append_nil]
   . rintro i x σ H' hi ⟨o,B,rfl,rfl,hB,s,hh⟩;obtain ⟨q,hq,rq⟩:=tR.get hi;have s1:aH H (upd B l (.lst ((hd++Ex.jw (qs.take i)).map V.int))):=s.trans (ak hB);have HV:=aL (kp s1) rq;have hlt:i<qs.length:=(List.getElem?_eq_some_iff.mp hq).1;have ll:(hd++Ex.jw (qs.take i)).length<=210:=by
      rw [List.length_append,m5,List.length_take];omega
     refine ⟨_,rfl,_,_,rfl,HV,_,_,rfl,rfl,_,rfl,?_⟩;by_cases hw:6000<Ex.wt q
     . rw [decide_eq_true (show (6000:Int)<((Ex.wt q:Nat):Int) by omega)];refine aW ⟨(by show 1<=sizeLine;decide),fun r hr=>k _ _ (s1.trans (ak hr)) ?_⟩;have e:Ex.bQ hd qs=[-6]:=by
        unfold Ex.bQ;rw [if_pos];unfold Ex.heavy;exact List.any_eq_true.mpr ⟨q,List.mem_of_getElem? hq,decide_eq_true hw⟩
       rw [e];exact IL.of ao
     . rw [decide_eq_false (show ¬ (6000:Int)<((Ex.wt q:Nat):Int) by omega)];obtain ⟨c,rfl,hc⟩:=rq;have hc1:=(kp s1).JS hc;refine aQ ⟨_,rfl,.inl ⟨rfl,_,aP.of ao⟩,_,rfl,.inr ⟨_,_,_,_,rfl,rfl,hc1,rfl,_,_,_,rfl,rfl,ao,?_,?_⟩⟩
       . rw [List.length_map];exact lt_size (by omega)
       . rw [c6];have s2:aH H (upd B l (.lst ((hd++Ex.jw (qs.take i)).map V.int++[.int q.num]))):=s.trans (ak hB);refine ⟨_,rfl,.inl ⟨rfl,_,aP.of ao⟩,_,rfl,.inr ⟨_,_,_,_,rfl,rfl,(kp s2).JS hc,rfl,_,_,_,rfl,rfl,ao,?_,?_⟩⟩
         . rw [List.length_append,List.length_map];show _+1<sizeLine;exact lt_size (by omega)
         . rw [c6];refine ⟨_,B,rfl,?_,hB,s,?_⟩
           . rw [take_snoc hq,Fd,<-List.append_assoc,List.map_append (l₁:=hd++_)];rw [List.append_assoc];rfl
           . rw [take_snoc hq];unfold Ex.heavy at hh ⊢;rw [List.any_append,hh];show (decide (6000<Ex.wt q) || false)=false;rw [decide_eq_false hw];rfl
   . rintro σ H' ⟨o,B,rfl,rfl,hB,s,hh⟩;rw [tR.length,List.take_length] at hh ⊢;refine ⟨_,rfl,k _ _ (s.trans (ak hB)) ?_⟩;have e:Ex.bQ hd qs=hd++Ex.jw qs:=by
      unfold Ex.bQ;rw [if_neg (by rw [hh];decide)]
     rw [e];exact IL.of ao
noncomputable def Kd(x:List Rat × Option Nat):List Int:=match x.2 with
 |none=>[0]
 |some k=>[1,(x.1.length:Int),(k:Int)]
noncomputable def mK(K:PySem.W.Frag)(A:dP):Sp:=fun vs H Q _=>∃ (v:V) (x:List Rat × Option Nat),vs=[v]/\Cg (qE K) H v (yM x)/\∀ u H',aH H H'->IL H' u (Kd x)->Q u H'
theorem zR(T:Txt K mg A)(D:Def K mg "run_answer" nP ["fault"]) :Has P w K mg base "run_answer" ["fault"] 41 (mK K A):=by
 refine D.has zj (fun vs H Q E h=>?_) (fun f cdv Ar outer s H vs Q E hr h=>?_)
 . obtain ⟨_,_,rfl,_⟩:=h;rfl
 . skip
   obtain ⟨v,⟨ws,o⟩,rfl,hv,k⟩:=h;refine ⟨_,(ah (aM (aC dW (pv 0) bF (aE _)) (au (aA (aR (af ay ai))))
    aF)
    (au (aA (aR (af ay (af (aD (az (K:=K) rfl) (pv 0) ay (fun _ _=>rfl)) (af (aD (az (K:=K) rfl) (pv 0) ay (fun _ _=>rfl)) ai))))))),?_⟩
   refine ⟨_,rfl,rfl,_,rfl,?_⟩;cases o with
   |
    none=>
    have hv:v=.non:=hv;subst hv;exact aW ⟨(by show 1<=sizeLine;decide),fun r hr=>k _ _ (ak hr) (IL.of (ns:=[0]) ao)⟩
   |
    some kk=>
    obtain ⟨c,rfl,hc⟩:=hv;refine aQ ?_;exact ⟨_,rfl,.inr ⟨_,_,_,_,rfl,rfl,hc,rfl,_,rfl,.inr ⟨_,_,_,_,rfl,rfl,hc,rfl,(by show 3<=sizeLine;decide),fun r hr=>k _ _ (ak hr) (IL.of (ns:=[1,(ws.length:Int),(kk:Int)]) ao)⟩⟩⟩
noncomputable def HeldAt(K:PySem.W.Frag)(A:dP)(H:Hp)(h:Addr)(s:Ex.SR):Prop:=(s.point=none/\fD K A H h s .non)\/∃ pt p d,s.point=some pt/\iM K A H h p d s pt
theorem HeldAt.same{H H':Hp}{h:Addr}{s:Ex.SR}(a:HeldAt K A H h s)(e:aH H H'):HeldAt K A H' h s:=by
 rcases a with ⟨h1,h2⟩|⟨pt,p,d,h1,h2⟩
 . exact .inl ⟨h1,h2.same e⟩
 . exact .inr ⟨pt,p,d,h1,h2.same e⟩
theorem HeldAt.f{H:Hp}{h:Addr}{s:Ex.SR}(a:HeldAt K A H h s):∃ qv,fD K A H h s qv:=by
 rcases a with ⟨h1,h2⟩|⟨pt,p,d,h1,h2⟩
 . exact ⟨_,h2⟩
 . exact ⟨_,h2.held⟩
noncomputable def Fe(s:Ex.SR):Int:=match s.point with
 |none=>-4
 |
  some pt=>match (Ex.aO pt [] s.raws).2 with
  |none=>0
  |some _=>-5
noncomputable def cZ(K:PySem.W.Frag)(A:dP):Sp:=fun vs H Q _=>∃ (h:Addr) (s:Ex.SR),vs=[.ref h]/\HeldAt K A H h s/\Q (.int (Fe s)) H
theorem vg(T:Txt K mg A)(D:Def K mg "place_refusal" jE ["held"]) :Has P w K mg base "place_refusal" ["held"] 41 (cZ K A):=by
 refine D.has uO (fun vs H Q E h=>?_) (fun f cdv Ar outer s H vs Q E hr h=>?_)
 . obtain ⟨_,_,rfl,_⟩:=h;rfl
 . skip
   obtain ⟨h,s0,rfl,hA,k⟩:=h;unfold Fe at k;refine ⟨_,(ah (aM (aC dW (aZ (K:=K) rfl (pv 0) rfl) bF (aE _)) (au (aA (aX T.yi)))
    aF)
    (ah (aM (aC wX (aZ (K:=K) rfl (aZ (K:=K) rfl (pv 0) rfl) rfl) bF (aE _)) (au (aA (aX T.m8)))
    aF)
    (au (aA (aX T.cA))))),?_⟩
   rcases hA with ⟨h1,h2⟩|⟨pt,p,d,h1,h2⟩
   . obtain ⟨dx,l0,o0,hh,hl,ho⟩:=h2.ex;rw [h1] at k;exact ⟨_,rfl,h,_,dx,_,_,rfl,hh,T.bz,T.bA,fR,rfl,_,rfl,aW k⟩
   . obtain ⟨dx,l0,o0,hh,hl,ho⟩:=h2.held.ex;obtain ⟨vX,vp,vl,vf,vt,hp,g2,g3,g4,g5⟩:=h2.at_.ex;rw [h1] at k;dsimp only at k;refine ⟨_,rfl,h,_,dx,_,_,rfl,hh,T.bz,T.bA,fR,rfl,_,rfl,aQ ?_⟩;refine ⟨_,rfl,h,_,dx,_,_,rfl,hh,T.bz,T.bA,fR,p,_,vX,_,_,rfl,hp,T.bN,T.dI,tZ,rfl,_,rfl,?_⟩;unfold yM at g4;cases e:(Ex.aO pt [] s0.raws).2 with
     |
      none=>
      rw [e] at g4 k;have g4:vf=.non:=g4;subst g4;exact aQ k
     |
      some kk=>
      rw [e] at g4 k;obtain ⟨c,rfl,hc⟩:=g4;exact aW k
noncomputable def fE(K:PySem.W.Frag)(A:dP):Sp:=fun vs H Q _=>∃ (v:V) (qs:List Rat),vs=[v]/\FL K H v qs/\qs.length<=10/\∀ H',aH H H'->Q (.bl (!Ex.heavy 2000 qs)) H'
noncomputable def Q3:Hp->V->Bool->Prop:=fun _ v b=>v=.bl b
theorem Mv:Mo Q3:=⟨fun _ h=>h⟩
theorem Ff{H:Hp}:∀ {vs:List V} {bs:List Bool},Al (Q3 H) vs bs->vs=bs.map V.bl
 |_,_,.nil=>rfl
 |_,_,.cons r t=>by rw [List.map_cons,<-Ff t,r]
theorem wM(T:Txt K mg A)(D:Def K mg "may_be_taken" kC ["point"])(fC:Has P w K mg base "weight" ["fraction"] 41 (nh K A)):Has P w K mg base "may_be_taken" ["point"] 42 (fE K A):=by
 refine D.has jF (fun vs H Q E h=>?_) (fun f cdv Ar outer s H vs Q E hr h=>?_)
 . obtain ⟨_,_,rfl,_⟩:=h;rfl
 . skip
   obtain ⟨v,qs,rfl,⟨a,vs,rfl,ha,al⟩,VJ,k⟩:=h;refine ⟨_,(au (aA (bu (Na rfl) (by rfl) T.Pq HP (af (mX rfl jF.nd (eW (pv 0)) (cH (own:=[("fraction",1)]) (by kernel_rfl)) (fun _ _ _ _ _=>(aN (i:=1) jF.nd rfl (Or.inl rfl))) (fun _ _ _ _ _=>dg) (fun _ _ _ _ _=>(gJ OQ (aG fC (hr.mono (by decide)) rfl (af (pv 1) ai)) (aX T.kK) (aE _)))) ai)))),?_⟩;have l1:=al.length;refine ⟨_,rfl,_,rfl,⟨_,aP.of ha⟩,fun D hD=>BR (R:=Q3) Mv (zs:=qs.map fun q=>decide (Ex.wt q<=2000)) (j:=1) hD (lt_size (by rw [List.length_map];omega)) (aP.of ha) (by rw [List.length_map];omega) (fun i x z B ys hx hz hB s Q2 k2=>?_) (fun B ys s hB oV=>?_)⟩
   . obtain ⟨q,hq,rq⟩:=al.get hx;have ez:z=decide (Ex.wt q<=2000):=by
      rw [List.getElem?_map,hq] at hz;exact (Option.some.inj hz).symm
     refine ⟨_,rfl,_,_,rfl,aL (kp (s.trans (ak hB))) rq,_,_,rfl,rfl,k2 _ B hB (aH.refl _) ?_⟩;rw [ez];show V.bl (decide (((Ex.wt q:Nat):Int)<=2000))=V.bl (decide (Ex.wt q<=2000));congr 1;exact decide_eq_decide.mpr (by omega)
   . have kk:=k _ (s.trans (ak (o:=.lst ys) hB));refine ⟨_,qs.map fun q=>decide (Ex.wt q<=2000),rfl,aP.of ?_,?_⟩
     . rw [<-Ff oV];exact ao
     . have e:(qs.map fun q=>decide (Ex.wt q<=2000)).all id=!Ex.heavy 2000 qs:=by
        unfold Ex.heavy;rw [List.all_map,List.not_any_eq_all_not];congr 1;funext q;show decide (Ex.wt q<=2000)=!decide (2000<Ex.wt q);by_cases h:Ex.wt q<=2000
        . rw [decide_eq_true h,decide_eq_false (by omega)];rfl
        . rw [decide_eq_false h,decide_eq_true (by omega)];rfl
       rw [<-e] at kk;exact kk
end
end Pg
namespace Pg
open PySem PySem.Spec PyProof.Rows L2
section
variable {P:Program}{w:World}{K:PySem.W.Frag}{mg:Str->Option Value}{base:Heap}{A:dP}
noncomputable def nk(os:List Int)(m:Nat):Bool:=decide ((os.all fun i=>decide (0<=i) && decide (i<(m:Int)))=true/\1<=os.length/\os.length<=6)
noncomputable def vZ(K:PySem.W.Frag)(A:dP):Sp:=fun vs H Q _=>∃ (v:V) (os:List Int) (m:Nat),vs=[v,.int m]/\IL H v os/\Q (.bl (nk os m)) H
theorem Ke{os:List Int}{m:Nat}{lo hi:Int}(h1:1<=os.length)(h6:os.length<=6)(a1:lo∈os)(a2:∀ y,y∈os->lo<=y)(b1:hi∈os)(b2:∀ y,y∈os->y<=hi):nk os m=(decide (0<=lo) && decide (hi<(m:Int))):=by
 unfold nk;by_cases h:0<=lo/\hi<(m:Int)
 . rw [decide_eq_true h.1,decide_eq_true h.2];refine decide_eq_true ⟨List.all_eq_true.mpr fun x hx=>?_,h1,h6⟩;have:=a2 x hx;have:=b2 x hx;rw [decide_eq_true (by omega),decide_eq_true (by omega)];rfl
 . have:(decide (0<=lo) && decide (hi<(m:Int)))=false:=by
    by_cases h0:0<=lo
    . rw [decide_eq_false (fun z=>h ⟨h0,z⟩),Bool.and_false]
    . rw [decide_eq_false h0,Bool.false_and]
   rw [this];refine decide_eq_false fun z=>h ?_;have z:=List.all_eq_true.mp z.1;have z1:=z lo a1;have z2:=z hi b1;simp only [Bool.and_eq_true,decide_eq_true_eq] at z1 z2;exact ⟨z1.1,z2.2⟩
theorem DL(T:Txt K mg A)(D:Def K mg "are_outs" rN ["outs","many_lines"]) :Has P w K mg base "are_outs" ["outs","many_lines"] 41 (vZ K A):=by
 refine D.has Dk (fun vs H Q E h=>?_) (fun f cdv Ar outer s H vs Q E hr h=>?_)
 . obtain ⟨_,_,_,rfl,_⟩:=h;rfl
 . skip
   obtain ⟨v,os,m,rfl,hv,k⟩:=h;obtain ⟨a,rfl,ha⟩:=hv.at_;refine ⟨_,(ah (aM (PW.pt (ju (aC gX (bu (aY) (by rfl) T.gF bU (af (pv 0) ai)) ay (aE _)) (ig (aC oY (bu (aY) (by rfl) T.gF bU (af (pv 0) ai)) (aX T.yj) (aE _))))) (au (aA FD))
    aF)
    (au (aA (ML (gJ vz (bu (Gm rfl) (by rfl) T.Mm AF (af (pv 0) ai)) ay (aE _)) (Iw (gJ gX (bu (Gn rfl) (by rfl) T.Mn AG (af (pv 0) ai)) (pv 1) (aE _))))))),?_⟩
   refine ⟨_,rfl,_,_,rfl,.inl (aP.of ha),_,_,rfl,rfl,_,rfl,?_⟩;rw [List.length_map];by_cases h1:os.length<1
   . rw [decide_eq_true (by omega:(os.length:Int)<1)];have e:nk os m=false:=decide_eq_false fun z=>by omega
     rw [e] at k;exact aW (aW k)
   . rw [decide_eq_false (by omega:¬ (os.length:Int)<1)];refine aQ ⟨_,rfl,_,_,rfl,.inl (aP.of ha),_,_,rfl,rfl,_,rfl,?_⟩;rw [List.length_map];by_cases h6:6<os.length
     . rw [decide_eq_true (by omega:(6:Int)<(os.length:Int))];have e:nk os m=false:=decide_eq_false fun z=>by omega
       rw [e] at k;exact aW k
     . rw [decide_eq_false (by omega:¬ (6:Int)<(os.length:Int))];refine aQ ⟨_,rfl,_,os,rfl,.inl (aP.of ha),(by omega),fun lo a1 a2=>⟨_,_,rfl,rfl,_,rfl,?_⟩⟩;by_cases h0:0<=lo
       . rw [decide_eq_true h0];refine aW ⟨_,rfl,_,os,rfl,.inl (aP.of ha),(by omega),fun hi b1 b2=>⟨_,rfl,_,_,rfl,rfl,?_⟩⟩;rw [Ke (by omega) (by omega) a1 a2 b1 b2,decide_eq_true h0,Bool.true_and] at k;exact k
       . rw [decide_eq_false h0];refine aQ ?_;have e:nk os m=false:=by
          refine decide_eq_false fun z=>h0 ?_;have z:=List.all_eq_true.mp z.1 lo a1;simp only [Bool.and_eq_true,decide_eq_true_eq] at z;exact z.1
         rw [e] at k;exact k
noncomputable def iN(n:Int)(o:Option (List Ex.Raw))(os:List Int):Int:=if n<1\/4<n then -1 else match o with
 |none=>-2
 |some ts=>if nk os ts.length=false then -2 else if 60<ts.length then -7 else if Ex.bK n.toNat 0 ts=false then -3 else 0
noncomputable def oB(K:PySem.W.Frag)(A:dP):Sp:=fun vs H Q _=>∃ (n:Int) (v u:V) (o:Option (List Ex.Raw)) (os:List Int),vs=[.int n,v,u]/\Cg (LL K) H v o/\IL H u os/\(∀ ts,o=some ts->∀ t,t∈ts->Ex.cE t)/\∀ H',aH H H'->Q (.int (iN n o os)) H'
theorem wN(T:Txt K mg A)(D:Def K mg "code_refusal" kE ["inputs","lines","outs"])(r6:Has P w K mg base "uses_fit" ["lines","inputs"] 41 (vU K A))(r8:Has P w K mg base "are_outs" ["outs","many_lines"] 41 (vZ K A)):Has P w K mg base "code_refusal" ["inputs","lines","outs"] 42 (oB K A):=by
 refine D.has wA (fun vs H Q E h=>?_) (fun f cdv Ar outer s H vs Q E hr h=>?_)
 . obtain ⟨_,_,_,_,_,rfl,_⟩:=h;rfl
 . skip
   obtain ⟨n,v,u,o,os,rfl,hv,hu,hl,k⟩:=h;unfold iN at k;refine ⟨_,(ah (aM (PW.pt (ju (aC gX (pv 0) ay (aE _)) (ig (aC oY (pv 0) (aX T.zm) (aE _))))) (au (aA (aX T.eZ)))
    aF)
    (ah (aM (PW.pt (ju (aC dW (pv 1) bF (aE _)) (ig (lU (jB (aG r8 (hr.mono (by decide)) rfl (af (pv 2) (af (bu (aY) (by rfl) T.gF bU (af (pv 1) ai)) ai)))))))) (au (aA (aX T.jX)))
    aF)
    (ah (aM (aC oY (bu (aY) (by rfl) T.gF bU (af (pv 1) ai)) (aX T.BC) (aE _)) (au (aA (aX T.uT)))
    aF)
    (ah (aM (lU (jB (aG r6 (hr.mono (by decide)) rfl (af (pv 1) (af (pv 0) ai))))) (au (aA (aX T.Dq)))
    aF)
    (au (aA (aX T.cA))))))),?_⟩
   refine ⟨_,rfl,_,_,rfl,rfl,_,rfl,?_⟩;by_cases h1:n<1
   . rw [decide_eq_true h1];have kk:=k H (aH.refl _);rw [if_pos (Or.inl h1)] at kk;exact aW (aW kk)
   . rw [decide_eq_false h1];refine aQ ⟨_,rfl,_,_,rfl,rfl,_,rfl,?_⟩;by_cases h4:4<n
     . rw [decide_eq_true h4];have kk:=k H (aH.refl _);rw [if_pos (Or.inr h4)] at kk;exact aW kk
     . rw [decide_eq_false h4];rw [if_neg (by rintro (z|z);exact h1 z;exact h4 z)] at k;refine aQ ⟨_,rfl,rfl,_,rfl,?_⟩;cases o with
       |
        none=>
        have hv:v=.non:=hv;subst hv;exact aW (aW (k H (aH.refl _)))
       |
        some ts=>
        have hv1:=hv;obtain ⟨va,vs,rfl,Mw,tR⟩:=hv1;refine aQ ?_;have l1:=tR.length;refine ⟨_,rfl,_,rfl,_,_,rfl,.inl (aP.of Mw),?_⟩;rw [l1];refine ⟨_,os,ts.length,rfl,hu,_,rfl,?_⟩;dsimp only at k;cases eo:nk os ts.length with
        |
         false=>
         rw [if_pos eo] at k;exact aW (k H (aH.refl _))
        |
         true=>
         rw [if_neg (by rw [eo];decide)] at k;refine aQ ⟨_,rfl,_,_,rfl,.inl (aP.of Mw),_,_,rfl,rfl,_,rfl,?_⟩;rw [l1];by_cases Mj:60<ts.length
         . rw [decide_eq_true (by omega:(60:Int)<(ts.length:Int))];rw [if_pos Mj] at k;exact aW (k H (aH.refl _))
         . rw [decide_eq_false (by omega:¬ (60:Int)<(ts.length:Int))];rw [if_neg Mj] at k;refine aQ ⟨_,rfl,_,rfl,_,ts,n.toNat,?_,hv,hl ts rfl,fun H1 s1=>⟨_,rfl,?_⟩⟩
           . rw [show ((n.toNat:Nat):Int)=n by omega];rfl
           . cases eu:Ex.bK n.toNat 0 ts with
             |
              false=>
              rw [if_pos eu] at k;exact aW (k H1 s1)
             |
              true=>
              rw [if_neg (by rw [eu];decide)] at k;exact aQ (k H1 s1)
theorem yN:∀ {os:List Int},(∀ x,x∈os->0<=x)->fy (os.map Int.toNat)=os
 |[],_=>rfl
 |
  x::r,h=>by
  have e:=yN (os:=r) fun y hy=>h y (List.mem_cons_of_mem _ hy);show ((x.toNat:Nat):Int)::fy (r.map Int.toNat)=x::r;rw [e];have:=h x List.mem_cons_self;rw [show ((x.toNat:Nat):Int)=x by omega]
theorem HY(s:Ex.SR)(n:Int)(ns os:List Int):Ex.pH s n ns os=match Ex.bY ns.length ns with
 |some ts=>if iN n (some ts) os=0 then (⟨n.toNat,ts,os.map Int.toNat,none⟩,[(ts.length:Int)]) else (s,[iN n (some ts) os])
 |none=>(s,[iN n none os]):=by
 unfold Ex.pH Ex.bT iN;by_cases h:n<1\/4<n
 . rw [if_neg (by omega)];cases Ex.bY ns.length ns with
   |none=>dsimp only;rw [if_pos h]
   |some ts=>dsimp only;rw [if_pos h,if_neg (by decide)]
 . rw [if_pos (by omega)];dsimp only;cases Ex.bY ns.length ns with
   |none=>dsimp only;rw [if_neg h]
   |
    some ts=>
    dsimp only;rw [if_neg h];by_cases ho:(os.all fun i=>decide (0<=i) && decide (i<(ts.length:Int)))=true/\1<=os.length/\os.length<=6
    . have eo:nk os ts.length=true:=decide_eq_true ho;have VM:¬ nk os ts.length=false:=by rw [eo];decide
      rw [if_pos ho];simp only [if_neg VM];by_cases Mj:60<ts.length
      . simp only [if_pos Mj];rw [if_neg (by decide:¬ (-7:Int)=0)]
      . simp only [if_neg Mj];by_cases hu:Ex.bK n.toNat 0 ts=false
        . simp only [if_pos hu];rw [if_neg (by decide:¬ (-3:Int)=0)]
        . simp only [if_neg hu];rw [if_pos trivial]
    . have eo:nk os ts.length=false:=decide_eq_false ho;rw [if_neg ho];simp only [if_pos eo];rw [if_neg (by decide:¬ (-2:Int)=0)]
noncomputable abbrev DM(K:PySem.W.Frag)(A:dP)(H:Hp)(h:Addr)(x:Ex.SR × List Int)(Q:VK):Prop:=∀ u H',c8 H H'->HeldAt K A H' h x.1->IL H' u x.2->Q u H'
noncomputable def qf(K:PySem.W.Frag)(A:dP):Sp:=fun vs H Q _=>∃ (h:Addr) (s:Ex.SR) (n:Int) (u v:V) (ns os:List Int),vs=[.ref h,.int n,u,v]/\HeldAt K A H h s/\IL H u ns/\IL H v os/\ns.length<=400/\DM K A H h (Ex.pH s n ns os) Q
theorem IL.one{H:Hp}{p:Addr}{z:Int}:IL (upd H p (.lst [.int z])) (.ref p) [z]:=IL.of (ns:=[z]) ao
theorem cn{z:Int}:(!decide (V.int z=V.int 0))=!decide (z=0):=by rw [cc]
theorem yO(T:Txt K mg A)(D:Def K mg "answer_code" mq ["held","inputs","numbers","outs"])(n6:Has P w K mg base "read_lines" ["numbers"] 43 (qO K A))(kW:Has P w K mg base "code_refusal" ["inputs","lines","outs"] 42 (oB K A))(jh:Bt P w K mg base A.jI "hold_code" ["self","inputs","lines","outs"] 41 (lQ K A)):Has P w K mg base "answer_code" ["held","inputs","numbers","outs"] 44 (qf K A):=by
 refine D.has kD (fun vs H Q E h=>?_) (fun f cdv Ar outer s H vs Q E hr h=>?_)
 . obtain ⟨_,_,_,_,_,_,_,rfl,_⟩:=h;rfl
 . skip
   obtain ⟨h,s0,n,u,v,ns,os,rfl,hA,hu,hv,S2,k⟩:=h;rw [HY] at k;refine ⟨_,(ah (aI (i:=4) kD.nd rfl (Or.inl rfl) (aG n6 (hr.mono (by decide)) rfl (af (pv 2) ai)))
    (ah (aI (i:=5) kD.nd rfl (Or.inl rfl) (aG kW (hr.mono (by decide)) rfl (af (pv 1) (af (pv 4) (af (pv 3) ai)))))
    (ah (aM (aC lA (pv 5) (aX T.cA) (aE _)) (au (aA (aR (af (pv 5) ai))))
    aF)
    (ah (dD (Di jh (hr.mono (by decide)) (pv 0) (af (pv 1) (af (pv 4) (af (pv 3) ai)))))
    (au (aA (aR (af (bu (aY) (by rfl) T.gF bU (af (pv 4) ai)) ai)))))))),?_⟩
   refine ⟨_,rfl,_,ns,rfl,hu,S2,fun x H1 s1 hx=>?_⟩;have HZ:=hA.same s1;refine ⟨_,rfl,_,rfl,_,rfl,n,_,_,Ex.bY ns.length ns,os,rfl,hx,g_ (kp s1) hv,fun ts e=>Ex.iw e,fun H2 s2=>?_⟩;have Qh:=HZ.same s2;refine ⟨_,rfl,rfl,_,rfl,?_⟩;rw [cn];cases er:Ex.bY ns.length ns with
   |
    none=>
    rw [er] at k hx;dsimp only at k;have hne:¬ iN n none os=0:=by
     unfold iN;split
     . decide
     . exact (by decide:¬ (-2:Int)=0)
    rw [decide_eq_false hne];exact aW ⟨_,rfl,(by show 1<=sizeLine;decide),fun r hr=>k _ _ (kp ((s1.trans s2).trans (ak hr))) (Qh.same (ak hr)) IL.one⟩
   |
    some ts=>
    rw [er] at k hx;dsimp only at k;by_cases hz:iN n (some ts) os=0
    . rw [if_pos hz] at k;rw [decide_eq_true hz];refine aQ ?_;have hx:LL K H1 x ts:=hx;have H_:=fH.ls (kp s2) hx;have hv2:=g_ (kp (s1.trans s2)) hv;obtain ⟨qv,hF⟩:=Qh.f;obtain ⟨dx,l0,o0,hh,hl,ho⟩:=hF.ex;have hn:¬ (n<1\/4<n):=fun z=>by unfold iN at hz;rw [if_pos z] at hz;exact absurd hz (by decide)
      have hpos:∀ x,x∈os->0<=x:=fun x hx=>by
       unfold iN at hz;rw [if_neg hn] at hz;dsimp only at hz;by_cases eo:nk os ts.length=false
       . rw [if_pos eo] at hz;exact absurd hz (by decide)
       . have eo:nk os ts.length=true:=by simpa using eo
         have eo:=(of_decide_eq_true eo).1;have:=List.all_eq_true.mp eo x hx;simp only [Bool.and_eq_true,decide_eq_true_eq] at this;exact this.1
      refine ⟨_,rfl,h,dx,_,rfl,hh,yL (by decide +kernel) (by decide +kernel) (by decide +kernel) (by decide +kernel),_,rfl,_,rfl,_,rfl,?_⟩;refine ⟨h,s0,⟨n.toNat,ts,os.map Int.toNat,none⟩,_,_,_,?_,hF,H_,by rw [yN hpos];exact hv2,fun H3 VN kb=>?_⟩
      . show _=[V.ref h,V.int ((n.toNat:Nat):Int),_,_]
        rw [show ((n.toNat:Nat):Int)=n by omega];rfl
      . have k3:c8 H2 H3:=nj hh kb;obtain ⟨xa,xs,rfl,hxa,yX⟩:=fH.ls k3 H_;refine ⟨_,rfl,_,_,rfl,.inl (aP.of hxa),?_⟩;rw [yX.length];exact ⟨(by show 1<=sizeLine;decide),fun r hr=>k _ _ ((kp (s1.trans s2)).trans (k3.trans (aS hr))) (.inl ⟨rfl,VN.same (ak hr)⟩) IL.one⟩
    . rw [if_neg hz] at k;rw [decide_eq_false hz];exact aW ⟨_,rfl,(by show 1<=sizeLine;decide),fun r hr=>k _ _ (kp ((s1.trans s2).trans (ak hr))) (Qh.same (ak hr)) IL.one⟩
theorem fD.pt{H:Hp}{h:Addr}{s:Ex.SR}{qv:V}(a:fD K A H h s qv)(x:Option (List Rat)):fD K A H h {s with point:=x} qv:=⟨a.ex⟩
theorem dG.pt{H:Hp}{p d:Addr}{s:Ex.SR}{pt:List Rat}(a:dG K A H p d s pt)(x:Option (List Rat)):dG K A H p d {s with point:=x} pt:=⟨a.ex,⟨a.steps.ex⟩⟩
theorem iM.pt{H:Hp}{h p d:Addr}{s:Ex.SR}{pt:List Rat}(a:iM K A H h p d s pt):HeldAt K A H h {s with point:=some pt}:=.inr ⟨pt,p,d,rfl,a.held.pt _,a.at_.pt _⟩
theorem xh{H H':Hp}{h p d:Addr}{s:Ex.SR}{qv:V}{pt:List Rat}(hF:fD K A H h s qv)(hp:dG K A H p d s pt)(VO:fD K A H' h s (.ref p))(kb:∀ b o,H b=some o->b≠h->H' b=some o):iM K A H' h p d s pt/\c8 H H':=by
 obtain ⟨dx,l0,o0,hh,_,_⟩:=hF.ex;have kk:c8 H H':=nj hh kb;obtain ⟨vX,vp,vl,vf,vt,h1,_⟩:=hp.ex;obtain ⟨kvs,ks,h2,_⟩:=hp.steps.ex;refine ⟨⟨VO,hp.up kk (fun o ho=>kb p o ho ?_) (fun o ho=>kb d o ho ?_)⟩,kk⟩
 . rintro rfl;rw [hh] at h1;injection h1 with h1
   injection h1 with _ _ h1
   have:=congrArg (List.lookup ("inputs":Str)) h1;rw [jA] at this;have e:(DJ vp vl vf vt (.ref d)).lookup ("inputs":Str)=none:=(aT (by decide +kernel)).trans ((aT (by decide +kernel)).trans ((aT (by decide +kernel)).trans ((aT (by decide +kernel)).trans ((aT (by decide +kernel)).trans rfl))));rw [e] at this;cases this
 . rintro rfl;rw [hh] at h2;cases h2
noncomputable def oE(K:PySem.W.Frag)(A:dP):Sp:=fun vs H Q _=>∃ (h:Addr) (s:Ex.SR) (u:V) (ns:List Int),vs=[.ref h,u]/\HeldAt K A H h s/\s.Ok/\IL H u ns/\DM K A H h (Ex.lX s ns) Q
theorem wO(T:Txt K mg A)(D:Def K mg "answer_point" kF ["held","numbers"])(bZ:Has P w K mg base "read_fractions" ["numbers","many"] 43 (fQ K A))(bD:Bt P w K mg base A.jI "hold_place" ["self","place"] 41 (dQ K A))(gj:Has P w K mg base "run_answer" ["fault"] 41 (mK K A))(bS:Has P w K mg base "may_be_taken" ["point"] 42 (fE K A))(cG:Has P w K mg base "place_at" ["held","point"] 47 (ia K A)):Has P w K mg base "answer_point" ["held","numbers"] 48 (oE K A):=by
 refine D.has ow (fun vs H Q E h=>?_) (fun f cdv Ar outer s H vs Q E hr h=>?_)
 . obtain ⟨_,_,_,_,rfl,_⟩:=h;rfl
 . skip
   obtain ⟨h,s0,u,ns,rfl,hA,ok,hu,k⟩:=h;unfold Ex.lX at k;refine ⟨_,(ah (aI (i:=2) ow.nd rfl (Or.inl rfl) (aG bZ (hr.mono (by decide)) rfl (af (pv 1) (af (aZ (K:=K) rfl (pv 0) rfl) ai))))
    (ah (aM (aC dW (pv 2) bF (aE _)) (au (aA (aR (af (aX T.jX) ai))))
    aF)
    (ah (aM (lU (jB (aG bS (hr.mono (by decide)) rfl (af (pv 2) ai)))) (au (aA (aR (af (aX T.fZ) ai))))
    aF)
    (ah (dD (Di bD (hr.mono (by decide)) (pv 0) (af (aG cG (hr.mono (by decide)) rfl (af (pv 0) (af (pv 2) ai))) ai)))
    (au (aA (aG gj (hr.mono (by decide)) rfl (af (aZ (K:=K) rfl (aZ (K:=K) rfl (pv 0) rfl) rfl) ai)))))))),?_⟩
   obtain ⟨qv,hF⟩:=hA.f;obtain ⟨dx,l0,o0,hh,hl,ho⟩:=hF.ex;refine ⟨_,rfl,_,rfl,h,_,dx,_,_,rfl,hh,T.bz,T.cN,jA,_,ns,s0.inputs,rfl,hu,ok.ins,fun x H1 s1 hx=>?_⟩;have HZ:=hA.same s1;have Q4:=hF.same s1;refine ⟨_,rfl,rfl,_,rfl,?_⟩;cases ef:Ex.cY s0.inputs ns with
   |
    none=>
    rw [ef] at k hx;have hx:x=.non:=hx;subst hx;exact aW ⟨(by show 1<=sizeLine;decide),fun r hr=>k _ _ (kp (s1.trans (ak hr))) (HZ.same (ak hr)) IL.one⟩
   |
    some pt=>
    rw [ef] at k hx;have hx:FL K H1 x pt:=hx;have hxn:¬ x=.non:=by obtain ⟨a,vs,rfl,_⟩:=hx;intro z;cases z
    have hpl:=Ex.nA ef;have ins:=ok.ins;rw [decide_eq_false hxn];refine aQ ?_;refine ⟨_,rfl,_,pt,rfl,hx,(by omega),fun H2 s2=>⟨_,rfl,?_⟩⟩;have Qh:=HZ.same s2;dsimp only at k;unfold Ex.gA at k;cases eh:Ex.heavy 2000 pt with
    |
     true=>
     rw [if_pos eh] at k;exact aW ⟨(by show 1<=sizeLine;decide),fun r hr=>k _ _ (kp ((s1.trans s2).trans (ak hr))) (Qh.same (ak hr)) IL.one⟩
    |
     false=>
     rw [if_neg (by rw [eh];decide),if_neg (Ex.Gb s0 pt)] at k;refine aQ ?_;have Q6:=Q4.same s2;obtain ⟨LQ,l2,o2,Mu,_,_⟩:=Q6.ex;refine ⟨_,rfl,h,LQ,_,rfl,Mu,yL (by decide +kernel) (by decide +kernel) (by decide +kernel) (by decide +kernel),_,rfl,_,rfl,?_⟩;refine ⟨h,_,s0,pt,_,rfl,Q6,aL.ls (kp s2) hx,ok,hpl,fun p d H3 hp0 hd0 s3 vY=>?_⟩;refine ⟨h,s0,_,_,rfl,Q6.same s3,fun H4 Uj kb=>?_⟩;obtain ⟨Kf,VP⟩:=xh (Q6.same s3) vY Uj kb;obtain ⟨VQ,l4,o4,VR,_,_⟩:=Uj.ex;obtain ⟨S3,vp,vl,vf,vt,VS,g2,g3,g4,g5⟩:=Kf.at_.ex;refine ⟨_,rfl,h,_,VQ,_,_,rfl,VR,T.bz,T.bA,fR,p,_,S3,_,_,rfl,VS,T.bN,T.dI,tZ,_,Ex.aO pt [] s0.raws,rfl,g4,fun y H5 s5 hy=>?_⟩;exact k _ _ ((kp ((s1.trans s2).trans s3)).trans (VP.trans (kp s5))) (Kf.same s5).pt hy
end
end Pg
namespace Pg
open PySem PySem.Spec PyProof.Rows L2
theorem Kg{s:Ex.SR}{ws:List Rat}{i c:Nat}(hi:i<s.outs.length)(hc:c<s.inputs):((dS s ws).getD i []).getD c 0=Ex.qD s ws i c:=by
 unfold dS Ex.qD;rw [List.getD_eq_getElem?_getD (l:=List.map _ _),List.getElem?_map,List.getElem?_eq_getElem hi];show (DE s.inputs ws s.raws s.outs[i]).getD c 0=_;rw [tT ws s.raws _ hc,List.getD_eq_getElem?_getD (l:=s.outs),List.getElem?_eq_getElem hi];rfl
theorem find_here{s:Ex.SR}(ok:s.Ok)(kind:Nat)(ws:List Rat):Ex.gb s kind ws=(Ex.gp kind (dS s ws) (Ex.bP s ws) s.inputs).map (fun ps=>ps.map Ex.a_)/\
 ∀ ps,Ex.gp kind (dS s ws) (Ex.bP s ws) s.inputs=some ps->ps.length=s.inputs/\∀ x,x∈ps->x.2≠0:=
 Ex.find_eq (eF s ws) (Ex.bH s ws) ok.ins (gG s ws) fun i hi c hc=>Kg hi hc
theorem DN{s:Ex.SR}{ws:List Rat}:(dS s ws).flatten=Ex.vK s.outs.length s.inputs (Ex.qD s ws):=by
 unfold Ex.vK;rw [List.flatMap_def];congr 1;apply List.ext_getElem?;intro i;rw [List.getElem?_map];by_cases hi:i<s.outs.length
 . rw [List.getElem?_range hi];unfold dS;rw [List.getElem?_map,List.getElem?_eq_getElem hi];show some (DE s.inputs ws s.raws s.outs[i])=some _;congr 1;unfold DE;apply List.map_congr_left;intro c _;unfold Ex.qD;rw [List.getD_eq_getElem?_getD (l:=s.outs),List.getElem?_eq_getElem hi];rfl
 . rw [List.getElem?_eq_none (by unfold dS;rw [List.length_map];omega),List.getElem?_eq_none (by rw [List.length_range];omega)];rfl
theorem DO{row d:List Rat}{f:Rat}(h:row.length=d.length):∀ j,j<=d.length->((List.zipWith (fun x y=>x*y) row d).take j).foldl (fun x y=>x+y) f=f+Ex.sumTo j fun t=>row.getD t 0*d.getD t 0
 |0,_=>by show f=f+0;grind
 |
  j+1,hj=>by
  have h1:row[j]?=some (row.getD j 0):=by rw [List.getD_eq_getElem?_getD,List.getElem?_eq_getElem (by omega:j<row.length)];rfl
  have h2:d[j]?=some (d.getD j 0):=by rw [List.getD_eq_getElem?_getD,List.getElem?_eq_getElem (by omega:j<d.length)];rfl
  rw [take_snoc (x:=row.getD j 0*d.getD j 0) (by rw [List.getElem?_zipWith,h1,h2]),List.foldl_append,DO h j (by omega)];show f+_+row.getD j 0*d.getD j 0=f+(Ex.sumTo j _+row.getD j 0*d.getD j 0)
  grind
theorem Ca{s:Ex.SR}{ws d:List Rat}(hd:d.length=s.inputs):kR (dS s ws) (Ex.bP s ws) d=Ex.pG s.outs.length s.inputs (Ex.qD s ws) (Ex.bP s ws) d:=by
 unfold kR Ex.pG;apply List.ext_getElem?;intro i;rw [List.getElem?_zipWith,List.getElem?_zipWith,List.getElem?_map];by_cases hi:i<s.outs.length
 . have h1:(dS s ws)[i]?=some ((dS s ws).getD i []):=by
    rw [List.getD_eq_getElem?_getD,List.getElem?_eq_getElem (by rw [eF,Ex.bH];exact hi:i<(dS s ws).length)];rfl
   have h2:(Ex.bP s ws)[i]?=some ((Ex.bP s ws).getD i 0):=by
    rw [List.getD_eq_getElem?_getD,List.getElem?_eq_getElem (by rw [Ex.bH];exact hi:i<(Ex.bP s ws).length)];rfl
   have hl:((dS s ws).getD i []).length=d.length:=by rw [hd];exact gG s ws _ (List.mem_of_getElem? h1)
   rw [h1,h2,List.getElem?_range hi];show some _=some _;congr 1;have:=DO (row:=(dS s ws).getD i []) (d:=d) (f:=(Ex.bP s ws).getD i 0) hl d.length (Nat.le_refl _);rw [List.take_of_length_le (by rw [List.length_zipWith];omega)] at this;rw [this,hd];congr 1;apply Ex.bO;intro t ht;rw [Kg hi ht]
 . rw [List.getElem?_eq_none (by rw [eF,Ex.bH];omega:(dS s ws).length<=i),List.getElem?_eq_none (by rw [Ex.bH];omega:(Ex.bP s ws).length<=i)]
theorem Gw{J:List (List Rat)}{fs d:List Rat}{a b c:Nat}(eL:∀ row,row∈J->row.length=d.length)(zJ:∀ row,row∈J->∀ q,q∈row->Ex.Sz a q)(zf:∀ q,q∈fs->Ex.Sz b q)(zd:∀ q,q∈d->Ex.Sz c q):∀ q,q∈kR J fs d->Ex.Sz (b+(a+c+1)*d.length) q:=by
 intro q hq;unfold kR at hq;obtain ⟨i,hi,rfl⟩:=List.getElem_of_mem hq;rw [List.getElem_zipWith];have hm:J[i]'(by rw [List.length_zipWith] at hi;omega)∈J:=List.getElem_mem _;have hf:fs[i]'(by rw [List.length_zipWith] at hi;omega)∈fs:=List.getElem_mem _;generalize J[i]'(by rw [List.length_zipWith] at hi;omega)=row at *;generalize fs[i]'(by rw [List.length_zipWith] at hi;omega)=f at *;have go:∀ j,j<=d.length->Ex.Sz (b+(a+c+1)*j) (((List.zipWith (fun x y=>x*y) row d).take j).foldl (fun x y=>x+y) f):=by
  intro j
  induction j with
  |zero=>exact fun _=>zf f hf
  |
   succ j ih=>
   intro hj;have hl:=eL row hm;have h1:row[j]?=some (row[j]'(by omega)):=List.getElem?_eq_getElem _;have h2:d[j]?=some (d[j]'(by omega)):=List.getElem?_eq_getElem _;rw [take_snoc (x:=row[j]'(by omega)*d[j]'(by omega)) (by rw [List.getElem?_zipWith,h1,h2]),List.foldl_append];refine ((ih (by omega)).add ((zJ row hm _ (List.getElem_mem _)).mul (zd _ (List.getElem_mem _)))).mono ?_;rw [Nat.mul_add];omega
 have:=go d.length (Nat.le_refl _);rw [List.take_of_length_le (by rw [List.length_zipWith];omega)] at this;exact this
theorem Fg{hd:List Int}{l:List Rat}(h:∃ q,q∈l/\6000<Ex.wt q):Ex.bQ hd l=[-6]:=by
 unfold Ex.bQ;rw [if_pos];obtain ⟨q,hq,hw⟩:=h;exact List.any_eq_true.mpr ⟨q,hq,decide_eq_true hw⟩
theorem j4(s:Ex.SR):(¬ Fe s=0/\Ex.iy s=.error (Fe s))\/(Fe s=0/\∃ pt,s.point=some pt/\(Ex.aO pt [] s.raws).2=none/\Ex.iy s=.ok (pt,(Ex.aO pt [] s.raws).1)):=by
 unfold Fe Ex.iy;cases s.point with
 |none=>exact .inl ⟨(by decide:¬ (-4:Int)=0),rfl⟩
 |
  some pt=>
  dsimp only;cases e:(Ex.aO pt [] s.raws).2 with
  |none=>exact .inr ⟨rfl,pt,rfl,e,rfl⟩
  |some kk=>exact .inl ⟨(by decide:¬ (-5:Int)=0),rfl⟩
section
variable {P:Program}{w:World}{K:PySem.W.Frag}{mg:Str->Option Value}{base:Heap}{A:dP}
theorem HeldAt.p{H:Hp}{h:Addr}{s:Ex.SR}{pt:List Rat}(a:HeldAt K A H h s)(e:s.point=some pt):∃ p d,iM K A H h p d s pt:=by
 rcases a with ⟨h1,_⟩|⟨pt',p,d,h1,h2⟩
 . rw [e] at h1;cases h1
 . rw [e] at h1;have h1:pt=pt':=Option.some.inj h1;subst h1;exact ⟨p,d,h2⟩
theorem iM.ji{H:Hp}{h p d:Addr}{s:Ex.SR}{pt:List Rat}(a:iM K A H h p d s pt)(e:s.point=some pt):HeldAt K A H h s:=.inr ⟨pt,p,d,e,a⟩
noncomputable def lR(K:PySem.W.Frag)(A:dP):Sp:=fun vs H Q _=>∃ (h:Addr) (s:Ex.SR),vs=[.ref h]/\HeldAt K A H h s/\s.Ok/\DM K A H h (s,Ex.kh s) Q
theorem t_(T:Txt K mg A)(D:Def K mg "answer_results" jc ["held"])(aV:Has P w K mg base "place_refusal" ["held"] 41 (cZ K A))(bE:Has P w K mg base "results_here" ["held"] 42 (dY K A))(dc:Has P w K mg base "told" ["head","fractions"] 42 (jt K A))(bB:Has P w K mg base "sum_of_squares" ["fractions"] 43 (eE K A)):Has P w K mg base "answer_results" ["held"] 44 (lR K A):=by
 refine D.has iG (fun vs H Q E h=>?_) (fun f cdv Ar outer s H vs Q E hr h=>?_)
 . obtain ⟨_,_,rfl,_⟩:=h;rfl
 . skip
   obtain ⟨h,s0,rfl,hA,ok,k⟩:=h;unfold Ex.kh at k;refine ⟨_,(ah (aI (i:=1) iG.nd rfl (Or.inl rfl) (aG aV (hr.mono (by decide)) rfl (af (pv 0) ai)))
    (ah (aM (aC lA (pv 1) (aX T.cA) (aE _)) (au (aA (aR (af (pv 1) ai))))
    aF)
    (ah (aI (i:=2) iG.nd rfl (Or.inl rfl) (aG bE (hr.mono (by decide)) rfl (af (pv 0) ai)))
    (au (aA (aG dc (hr.mono (by decide)) rfl (af (aR (af (bu (aY) (by rfl) T.gF bU (af (pv 2) ai)) ai)) (af (bC xx (pv 2) (aR (af (aG bB (hr.mono (by decide)) rfl (af (pv 2) ai)) ai))) ai)))))))),?_⟩
   refine ⟨_,rfl,h,s0,rfl,hA,?_⟩;refine ⟨_,rfl,rfl,_,rfl,?_⟩;rw [cn];rcases j4 s0 with ⟨hz,e⟩|⟨hz,pt,oU,ic,e⟩
   . rw [e] at k;rw [decide_eq_false hz];exact aW ⟨_,rfl,(by show 1<=sizeLine;decide),fun r hr=>k _ _ (aS hr) (hA.same (ak hr)) IL.one⟩
   . rw [e] at k;rw [decide_eq_true hz];refine aQ ?_;obtain ⟨p,d,hP⟩:=hA.p oU;have W:=valsOk ok ic;have lo:=ok.outs;refine ⟨_,rfl,h,p,d,s0,pt,rfl,hP,ok,ic,fun v1 H1 s1 hv1=>?_⟩;have NZ:=hv1;obtain ⟨va,vs,rfl,Mw,tR⟩:=NZ;have lv:vs.length=s0.outs.length:=by rw [tR.length,Ex.bH]
     refine ⟨_,rfl,_,_,rfl,.inl (aP.of Mw),(by show 1<=sizeLine;decide),fun q hq=>?_⟩;have s2:=ak (o:=.lst [.int (vs.length:Nat)]) hq;refine ⟨_,rfl,_,rfl,_,_,2000,rfl,aL.ls (kp s2) hv1,qb W,(by rw [Ex.bH];omega),fun v2 H3 s3 hv2=>?_⟩;refine ⟨(by show 1<=sizeLine;decide),fun q2 hq2=>⟨va,q2,vs,[v2],rfl,rfl,?_,ao,?_,fun q3 Q7=>?_⟩⟩
     . exact (kp ((s2.trans s3).trans (ak hq2))).lst Mw
     . show vs.length+1<=sizeLine;exact le_size (by omega)
     . have s5:=(ak (o:=.lst [v2]) hq2).trans (ak (o:=.lst (vs++[v2])) Q7);refine ⟨_,_,[(s0.outs.length:Int)],Ex.bP s0 (Ex.aO pt [] s0.raws).1++[Ex.oO (Ex.bP s0 (Ex.aO pt [] s0.raws).1)],rfl,?_,⟨q3,_,rfl,ao,(aL.al (kp ((s2.trans s3).trans s5)) tR).snoc (aL (kp s5) hv2)⟩,(by show 1<=10;decide),?_,fun x H6 s6 hx=>?_⟩
       . rw [<-lv];exact IL.of (ns:=[(vs.length:Int)]) ((s3.trans s5) _ _ ao)
       . rw [List.length_append,Ex.bH];show _+1<=100;omega
       . have sa:=(((s1.trans s2).trans s3).trans s5).trans s6;exact k _ _ (kp sa) (hA.same sa) hx
noncomputable def oF(K:PySem.W.Frag)(A:dP):Sp:=fun vs H Q _=>∃ (h:Addr) (s:Ex.SR),vs=[.ref h]/\HeldAt K A H h s/\s.Ok/\DM K A H h (s,Ex.rj s) Q
theorem wQ(T:Txt K mg A)(D:Def K mg "answer_table" kG ["held"])(aV:Has P w K mg base "place_refusal" ["held"] 41 (cZ K A))(cC:Has P w K mg base "table_here" ["held"] 46 (gI K A))(dc:Has P w K mg base "told" ["head","fractions"] 42 (jt K A)):Has P w K mg base "answer_table" ["held"] 47 (oF K A):=by
 refine D.has gP (fun vs H Q E h=>?_) (fun f cdv Ar outer s H vs Q E hr h=>?_)
 . obtain ⟨_,_,rfl,_⟩:=h;rfl
 . skip
   obtain ⟨h,s0,rfl,hA,ok,k⟩:=h;unfold Ex.rj at k;refine ⟨_,(ah (aI (i:=1) gP.nd rfl (Or.inl rfl) (aG aV (hr.mono (by decide)) rfl (af (pv 0) ai)))
    (ah (aM (aC lA (pv 1) (aX T.cA) (aE _)) (au (aA (aR (af (pv 1) ai))))
    aF)
    (ah (aI (i:=2) gP.nd rfl (Or.inl rfl) (aR ai))
    (ah (eX PassesOwn.never rfl (eW (aG cC (hr.mono (by decide)) rfl (af (pv 0) ai))) (aN (i:=3) gP.nd rfl (Or.inl rfl))
    (au (dD (lB PySem.F.plainAttrs_list PySem.F.slot_list_extend PySem.F.type_list_extend zZ (pv 2) (af (pv 3) ai)))))
    (au (aA (aG dc (hr.mono (by decide)) rfl (af (aR (af (bu (aY) (by rfl) T.gF bU (af (aZ (K:=K) rfl (pv 0) rfl) ai)) (af (aZ (K:=K) rfl (pv 0) rfl) ai))) (af (pv 2) ai))))))))),?_⟩
   refine ⟨_,rfl,h,s0,rfl,hA,?_⟩;refine ⟨_,rfl,rfl,_,rfl,?_⟩;rw [cn];rcases j4 s0 with ⟨hz,e⟩|⟨hz,pt,oU,ic,e⟩
   . rw [e] at k;rw [decide_eq_false hz];exact aW ⟨_,rfl,(by show 1<=sizeLine;decide),fun r hr=>k _ _ (aS hr) (hA.same (ak hr)) IL.one⟩
   . rw [e] at k;rw [decide_eq_true hz];refine aQ ?_;obtain ⟨p,d,hP⟩:=hA.p oU;have lo:=ok.outs;have li:=ok.ins;refine ⟨Nat.zero_le _,fun l hl=>?_⟩;refine ⟨_,rfl,h,p,d,s0,pt,some (l,[]),H,rfl,rfl,hl,hP,ok,ic,fun v1 B b1 hnB Ou Q0=>?_⟩;have hnB:B l=none:=hnB;obtain ⟨va,vs,rfl,Mw,tR⟩:=Q0;have kB:c8 H B:=b1.keep hP.at_;have lv:vs.length=s0.outs.length:=by rw [tR.length,eF,Ex.bH]
     refine ⟨va,rfl,⟨_,aP.of (ak hnB _ _ Mw)⟩,mT (K:=K) (a:=va) (xs:=vs) (fun i σ H'=>∃ o xs,σ=[some (.ref h),some (.int (Fe s0)),some (.ref l),o]/\H'=upd B l (.lst xs)/\Al (Fr K B) xs (((dS s0 (Ex.aO pt [] s0.raws).1).take i).flatten))
      ⟨none,[],rfl,rfl,.nil⟩ (fun i σ H' _ ⟨_,xs,_,e,_⟩=>by rw [e];exact aP.of (ak hnB _ _ Mw)) ?_ ?_⟩
     . rintro i x σ H' hi ⟨o,xs,rfl,rfl,yX⟩;obtain ⟨row,eL,ra,rs,rfl,J3,Gu⟩:=tR.get hi;have hrl:row.length=s0.inputs:=gG _ _ row (List.mem_of_getElem? eL);have hlt:i<s0.outs.length:=by rw [<-lv];exact (List.getElem?_eq_some_iff.mp hi).1
       have lx:xs.length<=24:=by
        rw [yX.length];have:∀ (rows:List (List Rat)) (m n:Nat),(∀ r,r∈rows->r.length=n)->rows.length<=m->rows.flatten.length<=m*n:=by
         intro rows
         induction rows with
         |nil=>intro m n _ _;exact Nat.zero_le _
         |
          cons r rs ih=>
          intro m n hr hm;rw [List.flatten_cons,List.length_append,hr r List.mem_cons_self]
          match m,hm with
          |
           m+1,hm=>
           have:=ih m n (fun y hy=>hr y (List.mem_cons_of_mem _ hy)) (Nat.le_of_succ_le_succ hm);rw [Nat.succ_mul];omega
        refine Nat.le_trans (this _ 6 s0.inputs (fun r hr=>gG _ _ r (List.mem_of_mem_take hr)) ?_) ?_
        . rw [List.length_take];omega
        . have:=Nat.mul_le_mul_left 6 li;omega
       refine ⟨_,rfl,.inl ⟨rfl,_,aP.of ao⟩,_,rfl,l,ra,xs,rs,rfl,rfl,ao,ak hnB _ _ J3,?_,?_⟩
       . rw [Gu.length];exact le_size (by omega)
       . refine ⟨_,xs++rs,rfl,c6,?_⟩;rw [take_snoc eL,List.flatten_append];refine yX.app ?_;rw [List.flatten_cons,List.flatten_nil,List.append_nil];exact Gu
     . rintro σ H' ⟨o,xs,rfl,rfl,yX⟩;rw [lv,List.take_of_length_le (by rw [eF,Ex.bH];exact Nat.le_refl _),DN] at yX;have zQ:=Ou.same (ak (o:=.lst xs) hnB);obtain ⟨dx,l0,o0,hh,WL,VT⟩:=zQ.held.ex;obtain ⟨oa,rfl,Kc⟩:=VT.at_;have Qi:(Ex.vK s0.outs.length s0.inputs (Ex.qD s0 (Ex.aO pt [] s0.raws).1)).length<=100:=by
        rw [<-DN];have:∀ (rows:List (List Rat)) (m n:Nat),(∀ r,r∈rows->r.length=n)->rows.length<=m->rows.flatten.length<=m*n:=by
         intro rows
         induction rows with
         |nil=>intro m n _ _;exact Nat.zero_le _
         |
          cons r rs ih=>
          intro m n hr hm;rw [List.flatten_cons,List.length_append,hr r List.mem_cons_self]
          match m,hm with
          |
           m+1,hm=>
           have:=ih m n (fun y hy=>hr y (List.mem_cons_of_mem _ hy)) (Nat.le_of_succ_le_succ hm);rw [Nat.succ_mul];omega
        refine Nat.le_trans (this _ 6 s0.inputs (gG _ _) ?_) ?_
        . rw [eF,Ex.bH];omega
        . have:=Nat.mul_le_mul_left 6 li;omega
       have S4:((fy s0.outs).map V.int).length=s0.outs.length:=by unfold fy;rw [List.length_map,List.length_map]
       refine ⟨_,rfl,h,_,dx,_,_,rfl,hh,T.bz,T.d9,yK,_,_,rfl,.inl (aP.of Kc),?_⟩;rw [S4];refine ⟨_,rfl,h,_,dx,_,_,rfl,hh,T.bz,T.cN,jA,(by show 2<=sizeLine;decide),fun q hq=>?_⟩;have s3:=ak (o:=.lst [.int (s0.outs.length:Nat),.int (s0.inputs:Nat)]) hq;refine ⟨_,rfl,_,_,[(s0.outs.length:Int),(s0.inputs:Int)],_,rfl,IL.of (ns:=[(s0.outs.length:Int),(s0.inputs:Int)]) ao,⟨l,xs,rfl,s3 _ _ ao,aL.al (kp ((ak hnB).trans s3)) yX⟩,(by show 2<=10;decide),Qi,fun x H6 s6 hx=>?_⟩;exact k _ _ (kB.trans (kp ((ak hnB).trans (s3.trans s6)))) ((zQ.same (s3.trans s6)).ji oU) hx
end
end Pg
namespace Pg
open PySem PySem.Spec PyProof.Rows L2
section
variable {P:Program}{w:World}{K:PySem.W.Frag}{mg:Str->Option Value}{base:Heap}{A:dP}
theorem r9(z:Int):(¬ (z=0\/z=1)/\Ex.bT z 0 1=none)\/∃ n:Nat,n<=1/\z=(n:Int)/\Ex.bT z 0 1=some n:=by
 by_cases h:z=0\/z=1
 . refine .inr ⟨z.toNat,by omega,by omega,?_⟩;unfold Ex.bT;rw [if_pos (by omega)]
 . refine .inl ⟨h,?_⟩;unfold Ex.bT;rw [if_neg (by omega)]
theorem vh{n:Nat}(h:n<=1):decide ((n:Int)=0\/(n:Int)=1)=true:=decide_eq_true (by omega)
theorem FL.nn{H:Hp}{v:V}{l:List Rat}(h:FL K H v l):¬ v=.non:=by obtain ⟨a,vs,rfl,_⟩:=h;intro z;cases z
theorem PL.nn{H:Hp}{v:V}{l:List (Int × Int)}(h:PL K H v l):¬ v=.non:=by obtain ⟨a,vs,rfl,_⟩:=h;intro z;cases z
noncomputable def qg(K:PySem.W.Frag)(A:dP):Sp:=fun vs H Q _=>∃ (h:Addr) (s:Ex.SR) (z:Int),vs=[.ref h,.int z]/\HeldAt K A H h s/\s.Ok/\DM K A H h (s,Ex.rm s z) Q
theorem yP(T:Txt K mg A)(D:Def K mg "answer_step" mw ["held","kind"])(aV:Has P w K mg base "place_refusal" ["held"] 41 (cZ K A))(eG:Has P w K mg base "step_here" ["held","kind"] 47 (jZ K A))(fF:Has P w K mg base "lowest_step" ["step"] 43 (kU K A))(c5:Has P w K mg base "straight_picture" ["table","results","step"] 43 (gv K A))(dc:Has P w K mg base "told" ["head","fractions"] 42 (jt K A))(gk:Has P w K mg base "is_kind" ["kind"] 41 (nX K A))(cC:Has P w K mg base "table_here" ["held"] 46 (gI K A))(bE:Has P w K mg base "results_here" ["held"] 42 (dY K A))(bB:Has P w K mg base "sum_of_squares" ["fractions"] 43 (eE K A))(fC:Has P w K mg base "weight" ["fraction"] 41 (nh K A)):Has P w K mg base "answer_step" ["held","kind"] 48 (qg K A):=by
 refine D.has dO (fun vs H Q E h=>?_) (fun f cdv Ar outer s H vs Q E hr h=>?_)
 . obtain ⟨_,_,_,rfl,_⟩:=h;rfl
 . skip
   obtain ⟨h,s0,z,rfl,hA,ok,k⟩:=h;unfold Ex.rm at k;refine ⟨_,(ah (aM (lU (jB (aG gk (hr.mono (by decide)) rfl (af (pv 1) ai)))) (au (aA (aR (af (aX T.eZ) ai))))
    aF)
    (ah (aI (i:=2) dO.nd rfl (Or.inl rfl) (aG aV (hr.mono (by decide)) rfl (af (pv 0) ai)))
    (ah (aM (aC lA (pv 2) (aX T.cA) (aE _)) (au (aA (aR (af (pv 2) ai))))
    aF)
    (ah (aI (i:=3) dO.nd rfl (Or.inl rfl) (aG eG (hr.mono (by decide)) rfl (af (pv 0) (af (pv 1) ai))))
    (ah (aM (aC dW (pv 3) bF (aE _)) (au (aA (aR (af ay ai))))
    aF)
    (ah (aI (i:=4) dO.nd rfl (Or.inl rfl) (aG fF (hr.mono (by decide)) rfl (af (pv 3) ai)))
    (ah (aM (PW.pt (ju (aC dW (pv 4) bF (aE _)) (ig (jB (bu (M_ rfl) (by rfl) T.Pp HN (af (mX rfl dO.nd (eW (pv 4)) (cH (own:=[("part",6)]) (by kernel_rfl)) (fun _ _ _ _ _=>(aN (i:=6) dO.nd rfl (Or.inl rfl))) (fun _ _ _ _ _=>dg) (fun _ _ _ _ _=>(gJ oY (aG fC (hr.mono (by decide)) rfl (af (pv 6) ai)) (aX T.kL) (aE _)))) ai)))))) (au (aA (aR (af (aX T.fZ) ai))))
    aF)
    (ah (aI (i:=5) dO.nd rfl (Or.inl rfl) (aG c5 (hr.mono (by decide)) rfl (af (aG cC (hr.mono (by decide)) rfl (af (pv 0) ai)) (af (aG bE (hr.mono (by decide)) rfl (af (pv 0) ai)) (af (pv 4) ai)))))
    (au (aA (aG dc (hr.mono (by decide)) rfl (af (aR (af ay ai)) (af (bC xx (bC xx (pv 4) (pv 5)) (aR (af (aG bB (hr.mono (by decide)) rfl (af (pv 5) ai)) ai))) ai))))))))))))),?_⟩
   refine ⟨_,rfl,z,rfl,_,rfl,?_⟩;rcases r9 z with ⟨hz,e0⟩|⟨n,hn,rfl,e0⟩
   . rw [e0] at k;rw [decide_eq_false hz];exact aW ⟨(by show 1<=sizeLine;decide),fun r hr=>k _ _ (aS hr) (hA.same (ak hr)) IL.one⟩
   . rw [e0] at k;dsimp only at k;rw [vh hn];refine aQ ?_;refine ⟨_,rfl,h,s0,rfl,hA,?_⟩;refine ⟨_,rfl,rfl,_,rfl,?_⟩;rw [cn];rcases j4 s0 with ⟨hz,e⟩|⟨hz,pt,oU,ic,e⟩
     . rw [e] at k;rw [decide_eq_false hz];exact aW ⟨_,rfl,(by show 1<=sizeLine;decide),fun r hr=>k _ _ (aS hr) (hA.same (ak hr)) IL.one⟩
     . rw [e] at k;dsimp only at k;rw [decide_eq_true hz];refine aQ ?_;obtain ⟨p,d,hP⟩:=hA.p oU;have W:=valsOk ok ic;have lo:=ok.outs;have li:=ok.ins;obtain ⟨f1,f2⟩:=find_here ok n (Ex.aO pt [] s0.raws).1;rw [f1] at k;refine ⟨_,rfl,_,rfl,h,p,d,s0,pt,n,rfl,hP,ok,ic,hn,fun v1 H1 b1 xg hv1=>?_⟩;have k1:c8 H H1:=b1.keep hP.at_;refine ⟨_,rfl,rfl,_,rfl,?_⟩;cases ef:Ex.gp n (dS s0 (Ex.aO pt [] s0.raws).1) (Ex.bP s0 (Ex.aO pt [] s0.raws).1) s0.inputs with
       |
        none=>
        rw [ef] at k hv1;have hv1:v1=.non:=hv1;subst hv1;exact aW ⟨(by show 1<=sizeLine;decide),fun r hr=>k _ _ (k1.trans (aS hr)) ((xg.same (ak hr)).ji oU) IL.one⟩
       |
        some ps=>
        obtain ⟨Im,nz⟩:=f2 ps ef;rw [ef] at k hv1;have hv1:PL K H1 v1 ps:=hv1;rw [decide_eq_false (PL.nn hv1)];refine aQ ?_;have heavy:∀ H',c8 H H'->iM K A H' h p d s0 pt->(∃ q,q∈ps.map Ex.a_/\6000<Ex.wt q)->∀ r,H' r=none->Q (.ref r) (upd H' r (.lst [.int (-6)])):=fun H' kk Qj hh r hr=>by
         refine k _ _ (kk.trans (aS hr)) ((Qj.same (ak hr)).ji oU) ?_;show IL _ _ (Ex.bQ [1] _);rw [Fg (by obtain ⟨q,hq,hw⟩:=hh;exact ⟨q,List.mem_append_left _ hq,hw⟩)];exact IL.one
        refine ⟨_,rfl,_,ps,rfl,hv1,nz,(by omega),fun v2 H2 s2 hv2=>?_,fun hh H2 s2=>?_⟩
        . have k2:=k1.trans (kp s2);have zQ:=xg.same s2;refine ⟨_,rfl,rfl,_,rfl,?_⟩;rw [decide_eq_false (FL.nn hv2)];have S5:=hv2;obtain ⟨sa,ss,rfl,HW,DX⟩:=S5;have WM:ss.length=ps.length:=by rw [DX.length,List.length_map]
          refine aQ ⟨_,rfl,_,rfl,⟨_,aP.of HW⟩,fun D hD=>BR (R:=Q3) Mv (zs:=(ps.map Ex.a_).map fun q=>decide (6000<Ex.wt q)) (j:=6) hD (lt_size (by rw [List.length_map,List.length_map];omega)) (aP.of HW) (by rw [List.length_map,List.length_map];omega) (fun i x z B ys hx hz hB s Q2 S6=>?_) (fun B ys s hB oV=>?_)⟩
          . obtain ⟨q,hq,rq⟩:=DX.get hx;have ez:z=decide (6000<Ex.wt q):=by
             rw [List.getElem?_map,hq] at hz;exact (Option.some.inj hz).symm
            refine ⟨_,rfl,_,_,rfl,aL (kp (s.trans (ak hB))) rq,_,_,rfl,rfl,S6 _ B hB (aH.refl _) ?_⟩;rw [ez];show V.bl (decide ((6000:Int)<((Ex.wt q:Nat):Int)))=V.bl (decide (6000<Ex.wt q));congr 1;exact decide_eq_decide.mpr (by omega)
          . have s3:aH H2 (upd B D (.lst ys)):=s.trans (ak hB);have vY:=zQ.same s3;refine ⟨_,(ps.map Ex.a_).map fun q=>decide (6000<Ex.wt q),rfl,aP.of (by rw [<-Ff oV];exact ao),_,rfl,?_⟩;cases ea:((ps.map Ex.a_).map fun q=>decide (6000<Ex.wt q)).any id with
            |
             true=>
             refine aW ⟨(by show 1<=sizeLine;decide),heavy _ (k2.trans (kp s3)) vY ?_⟩;obtain ⟨b,hb,hb2⟩:=List.any_eq_true.mp ea;obtain ⟨q,hq,rfl⟩:=List.mem_map.mp hb;exact ⟨q,hq,of_decide_eq_true hb2⟩
            |
             false=>
             have zd:∀ q,q∈ps.map Ex.a_->Ex.wt q<=6000:=fun q hq=>by
              apply Classical.byContradiction;intro hn2;have:((ps.map Ex.a_).map fun q=>decide (6000<Ex.wt q)).any id=true:=List.any_eq_true.mpr ⟨_,List.mem_map.mpr ⟨q,hq,rfl⟩,decide_eq_true (by omega)⟩;rw [ea] at this;cases this
             refine aQ ?_;generalize TY:upd B D (.lst ys)=H3 at *;refine ⟨_,rfl,h,p,d,s0,pt,none,H3,rfl,rfl,trivial,vY,ok,ic,fun v4 H4 b4 _ Kf Gs=>?_⟩;have k4:c8 H3 H4:=b4.keep vY.at_;refine ⟨_,rfl,h,p,d,s0,pt,rfl,Kf,ok,ic,fun v5 H5 s5 NS=>?_⟩;have k5:=k4.trans (kp s5);have LY:FL K H5 (.ref sa) (ps.map Ex.a_):=aL.ls ((kp s3).trans k5) hv2;have ld:(ps.map Ex.a_).length=s0.inputs:=by rw [List.length_map];exact Im
             have zJ:=B6 ok W;have zf:=qb (s:=s0) W;have Uk:∀ q,q∈ps.map Ex.a_->Ex.Sz 6000 q:=fun q hq=>Ex.Sz.xJ (zd q hq);have eL:∀ row,row∈dS s0 (Ex.aO pt [] s0.raws).1->row.length=(ps.map Ex.a_).length:=fun row hr=>by rw [ld];exact gG _ _ row hr
             refine ⟨_,rfl,_,_,_,dS s0 (Ex.aO pt [] s0.raws).1,Ex.bP s0 (Ex.aO pt [] s0.raws).1,ps.map Ex.a_,480061,2000,6000,rfl,aL.ls.ls (kp s5) Gs,NS,LY,eF _ _,(by rw [eF,Ex.bH];exact lo),eL,zJ,zf,Uk,(by rw [ld];have:=Nat.mul_le_mul_left (480061+6000+1) li;omega),fun v6 H6 s6 Kz=>?_⟩;have zp:=Gw eL zJ zf Uk;have N1:=(Kf.same s5).same s6;have k6:c8 H H6:=k2.trans ((kp s3).trans (k5.trans (kp s6)));have Ia:(kR (dS s0 (Ex.aO pt [] s0.raws).1) (Ex.bP s0 (Ex.aO pt [] s0.raws).1) (ps.map Ex.a_)).length=s0.outs.length:=by
              unfold kR;rw [List.length_zipWith,eF,Ex.bH];omega
             have S7:=aL.ls (kp s6) LY;obtain ⟨sa',ss',e1,S8,Qk⟩:=S7;have e1:sa=sa':=by injection e1
             subst e1;have S9:=Kz;obtain ⟨pa,Kh,rfl,hpa,Io⟩:=S9;have l6:=Qk.length;have l7:=Io.length;rw [ld] at l6;rw [Ia] at l7;refine ⟨(by show 1<=sizeLine;decide),fun q hq=>?_⟩;have s7:=ak (o:=.lst [.int 1]) hq;refine ⟨_,rfl,_,rfl,sa,pa,ss',Kh,rfl,rfl,s7 _ _ S8,s7 _ _ hpa,le_size (by omega),fun q2 hq2=>?_⟩;have s8:=s7.trans (ak (o:=.lst (ss'++Kh)) hq2);refine ⟨_,rfl,_,_,2000+(480061+6000+1)*(ps.map Ex.a_).length,rfl,aL.ls (kp s8) Kz,zp,?_,fun v9 H9 s9 VU=>?_⟩
             . rw [Ia,ld];have h1:(480061+6000+1)*s0.inputs<=(480061+6000+1)*4:=Nat.mul_le_mul_left _ li;generalize (480061+6000+1)*s0.inputs=y at h1;have h2:(2000+y+(2000+y)+1)*s0.outs.length<=(2000+y+(2000+y)+1)*6:=Nat.mul_le_mul_left _ lo;omega
             . refine ⟨(by show 1<=sizeLine;decide),fun q3 Q7=>⟨q2,q3,ss'++Kh,[v9],rfl,rfl,?_,ao,?_,fun q4 VV=>?_⟩⟩
               . exact (s9.trans (ak Q7)) _ _ ao
               . rw [List.length_append];show _+1<=sizeLine;exact le_size (by omega)
               . have A7:=(ak (o:=.lst [v9]) Q7).trans (ak (o:=.lst (ss'++Kh++[v9])) VV);have sF:=(s8.trans s9).trans A7;refine ⟨_,_,[1],ps.map Ex.a_++(Ex.pG s0.outs.length s0.inputs (Ex.qD s0 (Ex.aO pt [] s0.raws).1) (Ex.bP s0 (Ex.aO pt [] s0.raws).1) (ps.map Ex.a_)++[Ex.oO (Ex.pG s0.outs.length s0.inputs (Ex.qD s0 (Ex.aO pt [] s0.raws).1) (Ex.bP s0 (Ex.aO pt [] s0.raws).1) (ps.map Ex.a_))]),rfl,?_,?_,(by show 1<=10;decide),?_,fun x Ql Kw hx=>?_⟩
                 . exact IL.of (ns:=[1]) ((((ak hq2).trans s9).trans A7) _ _ ao)
                 . rw [<-Ca ld,<-List.append_assoc];exact ⟨q4,_,rfl,ao,(((aL.al (kp sF) Qk).app (aL.al (kp sF) Io))).snoc (aL (kp A7) VU)⟩
                 . rw [<-Ca ld,List.length_append,List.length_append,ld,Ia];show _+(_+1)<=100;omega
                 . have sG:=sF.trans Kw;exact k _ _ (k6.trans (kp sG)) ((N1.same sG).ji oU) hx
        . have VW:∃ q,q∈ps.map Ex.a_/\6000<Ex.wt q:=by
           obtain ⟨x,hx,hw⟩:=hh;exact ⟨_,List.mem_map.mpr ⟨x,hx,rfl⟩,by omega⟩
          refine ⟨_,rfl,rfl,_,rfl,aW (aW ⟨(by show 1<=sizeLine;decide),heavy _ (k1.trans (kp s2)) (xg.same s2) VW⟩)⟩
theorem AR:∀ (ns:List Int) (fs:List Rat),Ex.eK ns=some fs->Ex.small ns->∀ q,q∈fs->Ex.Sz 60 q
 |
  [],fs,h,_,q,hq=>by
  have h:fs=[]:=(Option.some.inj h).symm;subst h;exact (nomatch hq)
 |[_],fs,h,_,q,hq=>by cases h
 |
  a::b::r,fs,h,hs,q,hq=>by
  have h:(if b<1 then none else (Ex.eK r).map fun l=>mkRat a b.toNat::l)=some fs:=h;by_cases hd:b<1
  . rw [if_pos hd] at h;cases h
  . rw [if_neg hd] at h;cases er:Ex.eK r with
    |none=>rw [er] at h;cases h
    |
     some t=>
     rw [er] at h;have h:mkRat a b.toNat::t=fs:=Option.some.inj h;subst h;rcases List.mem_cons.mp hq with rfl|hq
     . have h1:=hs a List.mem_cons_self;have h2:=hs b (List.mem_cons_of_mem _ List.mem_cons_self);have e1:(2:Nat) ^ 60=1152921504606846976:=by decide
       have e2:(10:Int) ^ 18=1000000000000000000:=by decide
       rw [e2] at h1 h2;refine Ex.kg (by omega) ?_ ?_
       . rw [e1];omega
       . rw [e1];omega
     . exact AR r t er (fun x hx=>hs x (List.mem_cons_of_mem _ (List.mem_cons_of_mem _ hx))) q hq
theorem DP{n:Nat}{ns:List Int}{fs:List Rat}(h:Ex.cY n ns=some fs)(hs:Ex.small ns):∀ q,q∈fs->Ex.Sz 60 q:=by
 unfold Ex.cY at h;split at h
 . split at h
   . rename_i fs' e1 e2;have h:fs'=fs:=Option.some.inj h;subst h;exact AR ns _ e1 hs
   . cases h
 . cases h
noncomputable def oG(K:PySem.W.Frag)(A:dP):Sp:=fun vs H Q _=>∃ (h:Addr) (s:Ex.SR) (u:V) (ns:List Int),vs=[.ref h,u]/\HeldAt K A H h s/\s.Ok/\IL H u ns/\Ex.small ns/\DM K A H h (s,Ex.rz s ns) Q
theorem wR(T:Txt K mg A)(D:Def K mg "answer_error" kH ["held","numbers"])(bZ:Has P w K mg base "read_fractions" ["numbers","many"] 43 (fQ K A))(aV:Has P w K mg base "place_refusal" ["held"] 41 (cZ K A))(cG:Has P w K mg base "place_at" ["held","point"] 47 (ia K A))(c5:Has P w K mg base "straight_picture" ["table","results","step"] 43 (gv K A))(dc:Has P w K mg base "told" ["head","fractions"] 42 (jt K A))(cC:Has P w K mg base "table_here" ["held"] 46 (gI K A))(bE:Has P w K mg base "results_here" ["held"] 42 (dY K A))(gh:Has P w K mg base "minus" ["first","second"] 43 (p6 K A))(dm:Has P w K mg base "plus" ["first","second"] 42 (jY K A))(cB:Has P w K mg base "results_at" ["held","place"] 41 (gH K A)):Has P w K mg base "answer_error" ["held","numbers"] 48 (oG K A):=by
 refine D.has bR (fun vs H Q E h=>?_) (fun f cdv Ar outer s H vs Q E hr h=>?_)
 . obtain ⟨_,_,_,_,rfl,_⟩:=h;rfl
 . skip
   obtain ⟨h,s0,u,ns,rfl,hA,ok,hu,hsm,k⟩:=h;unfold Ex.rz at k;refine ⟨_,(ah (aI (i:=2) bR.nd rfl (Or.inl rfl) (aG bZ (hr.mono (by decide)) rfl (af (pv 1) (af (aZ (K:=K) rfl (pv 0) rfl) ai))))
    (ah (aM (aC dW (pv 2) bF (aE _)) (au (aA (aR (af (aX T.jX) ai))))
    aF)
    (ah (aI (i:=3) bR.nd rfl (Or.inl rfl) (aG aV (hr.mono (by decide)) rfl (af (pv 0) ai)))
    (ah (aM (aC lA (pv 3) (aX T.cA) (aE _)) (au (aA (aR (af (pv 3) ai))))
    aF)
    (ah (aI (i:=4) bR.nd rfl (Or.inl rfl) (aG cG (hr.mono (by decide)) rfl (af (pv 0) (af (mX rfl bR.nd (nv rfl T.tD (af (aZ (K:=K) rfl (aZ (K:=K) rfl (pv 0) rfl) rfl) (af (pv 2) ai))) (cH (own:=[("part",7),("more",8)]) (by kernel_rfl)) (fun _ _ _ _ _=>(fq (K:=K) 2 rfl rfl (bG (aN (i:=7) bR.nd rfl (Or.inl rfl)) (bG (aN (i:=8) bR.nd rfl (Or.inl rfl)) ff)))) (fun _ _ _ _ _=>dg) (fun _ _ _ _ _=>(aG dm (hr.mono (by decide)) rfl (af (pv 7) (af (pv 8) ai))))) ai))))
    (ah (aM (aC wX (aZ (K:=K) rfl (pv 4) rfl) bF (aE _)) (au (aA (aR (af (aX T.m8) ai))))
    aF)
    (ah (aI (i:=5) bR.nd rfl (Or.inl rfl) (aG c5 (hr.mono (by decide)) rfl (af (aG cC (hr.mono (by decide)) rfl (af (pv 0) ai)) (af (aG bE (hr.mono (by decide)) rfl (af (pv 0) ai)) (af (pv 2) ai)))))
    (ah (j6 (i:=6) rfl bR.nd rfl rfl (nu rfl rfl rfl rfl) (nv rfl T.tD (af (aG cB (hr.mono (by decide)) rfl (af (pv 0) (af (pv 4) ai))) (af (pv 5) ai))) (cH (own:=[("result",9),("picture",10)]) (by kernel_rfl)) (fun _ _ _ _ _=>(fq (K:=K) 2 rfl rfl (bG (aN (i:=9) bR.nd rfl (Or.inl rfl)) (bG (aN (i:=10) bR.nd rfl (Or.inl rfl)) ff)))) (fun _ _ _ _ _=>dg) (fun _ _ _ _ _=>(aG gh (hr.mono (by decide)) rfl (af (pv 9) (af (pv 10) ai)))))
    (au (aA (aG dc (hr.mono (by decide)) rfl (af (aR (af (bu (aY) (by rfl) T.gF bU (af (pv 6) ai)) ai)) (af (pv 6) ai))))))))))))),?_⟩
   obtain ⟨qv,hF⟩:=hA.f;obtain ⟨dx,l0,o0,hh,hl,ho⟩:=hF.ex;have lo:=ok.outs;have li:=ok.ins;refine ⟨_,rfl,_,rfl,h,_,dx,_,_,rfl,hh,T.bz,T.cN,jA,_,ns,s0.inputs,rfl,hu,ok.ins,fun x H1 s1 hx=>?_⟩;have HZ:=hA.same s1;refine ⟨_,rfl,rfl,_,rfl,?_⟩;cases ef:Ex.cY s0.inputs ns with
   |
    none=>
    rw [ef] at k hx;have hx:x=.non:=hx;subst hx;exact aW ⟨(by show 1<=sizeLine;decide),fun r hr=>k _ _ (kp (s1.trans (ak hr))) (HZ.same (ak hr)) IL.one⟩
   |
    some dd=>
    rw [ef] at k hx;have hx:FL K H1 x dd:=hx;have Q8:=Ex.nA ef;have S_:=DP ef hsm;dsimp only at k;rw [decide_eq_false (FL.nn hx)];refine aQ ?_;refine ⟨_,rfl,h,s0,rfl,HZ,?_⟩;refine ⟨_,rfl,rfl,_,rfl,?_⟩;rw [cn];rcases j4 s0 with ⟨hz,e⟩|⟨hz,pt,oU,ic,e⟩
    . rw [e] at k;rw [decide_eq_false hz];exact aW ⟨_,rfl,(by show 1<=sizeLine;decide),fun r hr=>k _ _ (kp (s1.trans (ak hr))) (HZ.same (ak hr)) IL.one⟩
    . rw [e] at k;dsimp only at k;rw [decide_eq_true hz];refine aQ ?_;obtain ⟨p,d,hP⟩:=HZ.p oU;have W:=valsOk ok ic;obtain ⟨hpl,E6⟩:=ok.pt pt oU;obtain ⟨Qm,l1,o1,Qn,hl1,Kc⟩:=hP.held.ex;obtain ⟨vX,vp,vl,vf,vt,hp,g2,g3,g4,g5⟩:=hP.at_.ex;have hx':=hx;obtain ⟨xa,xs,rfl,hxa,yX⟩:=hx';obtain ⟨pa,ps,rfl,hpa,Io⟩:=g2;have lx:=yX.length;have lp:=Io.length;have lz:(List.zipWith (fun x y=>x+y) pt dd).length=s0.inputs:=by rw [List.length_zipWith];omega
      refine ⟨_,rfl,_,rfl,h,_,Qm,_,_,rfl,Qn,T.bz,T.bA,fR,p,_,vX,_,_,rfl,hp,T.bN,T.dH,tY,_,rfl,_,_,_,_,rfl,aP.of hpa,aP.of hxa,
       fun D hD=>HQ (R:=Fr K) aL (zs:=List.zipWith (fun x y=>x+y) pt dd) (i:=7) (j:=8) (by decide) hD (lt_size (by omega)) (aP.of hpa) (aP.of hxa) (by omega) (by omega) (fun i x y z B ys T1 H_ N2 hz2 hB s hT1 Q2 k2=>?_) (fun B ys s hB oV=>?_)⟩
      . obtain ⟨q1,hq1,HV⟩:=Io.get H_;obtain ⟨q2,hq2,LH⟩:=yX.get N2;have ez:z=q1+q2:=by
         rw [List.getElem?_zipWith,hq1,hq2] at hz2;exact (Option.some.inj hz2).symm
        have s2:aH (upd B D (.lst ys)) (upd (upd B D (.lst ys)) T1 (.tup [x,y])):=ak hT1;have s3:aH H1 (upd (upd B D (.lst ys)) T1 (.tup [x,y])):=(s.trans (ak hB)).trans s2;refine ⟨_,rfl,_,rfl,_,_,q1,q2,rfl,aL (kp s3) HV,aL (kp s3) LH,Ij (E6 q1 (List.mem_of_getElem? hq1)) (by decide),(S_ q2 (List.mem_of_getElem? hq2)).mono (gu (by decide)),fun v4 H4 s4 Gs=>?_⟩;obtain ⟨B',e',jQ,s',r'⟩:=kN kM hB (s2.trans s4) Gs;rw [e'];exact k2 _ B' jQ s' (by rw [ez];exact r')
      . have s2:aH H1 (upd B D (.lst ys)):=s.trans (ak hB);generalize Ss:upd B D (.lst ys)=H2 at *;have Tc:FL K H2 (.ref D) (List.zipWith (fun x y=>x+y) pt dd):=by
         rw [<-Ss];exact ⟨D,ys,rfl,ao,aL.al (aS hB) oV⟩
        have zQ:=hP.same s2;refine ⟨h,_,s0,List.zipWith (fun x y=>x+y) pt dd,_,rfl,zQ.held,Tc,ok,lz,fun p2 d2 H3 hp2 hd2 s3 Ov=>?_⟩;have vY:=zQ.same s3;obtain ⟨LV,SS,SV,Qc,SW,hp3,r2,r3,r4,r5⟩:=Ov.ex;refine ⟨_,rfl,p2,_,LV,_,_,rfl,hp3,T.bN,T.dI,tZ,rfl,_,rfl,?_⟩;unfold yM at r4;cases e2:(Ex.aO (List.zipWith (fun x y=>x+y) pt dd) [] s0.raws).2 with
        |
         some kk=>
         rw [e2] at r4 k;obtain ⟨c,rfl,hc⟩:=r4;exact aW ⟨(by show 1<=sizeLine;decide),fun r hr=>k _ _ (kp ((s1.trans s2).trans (s3.trans (ak hr)))) ((vY.same (ak hr)).ji oU) IL.one⟩
        |
         none=>
         rw [e2] at r4 k;have r4:Qc=.non:=r4;subst r4;refine aQ ?_;have W2:=valsOk ok e2;refine ⟨_,rfl,h,p,d,s0,pt,none,H3,rfl,rfl,trivial,vY,ok,ic,fun v4 H4 b4 _ Kf Gs=>?_⟩;have k4:c8 H3 H4:=b4.keep vY.at_;refine ⟨_,rfl,h,p,d,s0,pt,rfl,Kf,ok,ic,fun v5 H5 s5 NS=>?_⟩;have k5:=k4.trans (kp s5);have eL:∀ row,row∈dS s0 (Ex.aO pt [] s0.raws).1->row.length=dd.length:=fun row hr=>by rw [Q8];exact gG _ _ row hr
         have zJ:=B6 ok W;have zf:=qb (s:=s0) W;refine ⟨_,rfl,_,_,_,dS s0 (Ex.aO pt [] s0.raws).1,Ex.bP s0 (Ex.aO pt [] s0.raws).1,dd,480061,2000,60,rfl,aL.ls.ls (kp s5) Gs,NS,aL.ls ((kp (s2.trans s3)).trans k5) hx,eF _ _,(by rw [eF,Ex.bH];exact lo),eL,zJ,zf,S_,(by rw [Q8];have:=Nat.mul_le_mul_left (480061+60+1) li;omega),fun v6 H6 s6 Kz=>?_⟩;have zp:=Gw eL zJ zf S_;have Qo:=Kf.same s5;have N1:=Qo.same s6;have k6:=k5.trans (kp s6);have Ia:(kR (dS s0 (Ex.aO pt [] s0.raws).1) (Ex.bP s0 (Ex.aO pt [] s0.raws).1) dd).length=s0.outs.length:=by
          unfold kR;rw [List.length_zipWith,eF,Ex.bH];omega
         have Ot:∀ b,H2 b=none->b≠p/\b≠d:=fun b hb=>by
          obtain ⟨_,_,_,_,_,t1,_⟩:=zQ.at_.ex;obtain ⟨_,_,t2,_⟩:=zQ.at_.steps.ex;exact ⟨fun z=>(by rw [z,t1] at hb;cases hb),fun z=>(by rw [z,t2] at hb;cases hb)⟩
         have VX:dG K A H6 p2 d2 s0 (List.zipWith (fun x y=>x+y) pt dd):=Ov.up k6
          (fun o ho=>(s5.trans s6) _ _ (b4 _ _ ho (Ot p2 hp2).1 (Ot p2 hp2).2)) (fun o ho=>(s5.trans s6) _ _ (b4 _ _ ho (Ot d2 hd2).1 (Ot d2 hd2).2))
         refine ⟨_,rfl,_,rfl,h,p2,d2,s0,_,_,rfl,N1.held,VX,ok,e2,fun v7 H7 s7 Td=>?_⟩;have Te:=Td;obtain ⟨ra,rs,rfl,J3,Gu⟩:=Te;have VY:=aL.ls (kp s7) Kz;obtain ⟨qa,qs,rfl,Ul,Um⟩:=VY;have lr:=Gu.length;have lq:=Um.length;rw [Ex.bH] at lr;rw [Ia] at lq;have VZ:(List.zipWith (fun x y=>x-y) (Ex.bP s0 (Ex.aO (List.zipWith (fun x y=>x+y) pt dd) [] s0.raws).1) (kR (dS s0 (Ex.aO pt [] s0.raws).1) (Ex.bP s0 (Ex.aO pt [] s0.raws).1) dd)).length=s0.outs.length:=by
          rw [List.length_zipWith,Ex.bH,Ia];omega
         refine ⟨_,rfl,_,_,_,_,rfl,aP.of J3,aP.of Ul,fun D2 NU=>HQ (R:=Fr K) aL (zs:=List.zipWith (fun x y=>x-y) (Ex.bP s0 (Ex.aO (List.zipWith (fun x y=>x+y) pt dd) [] s0.raws).1) (kR (dS s0 (Ex.aO pt [] s0.raws).1) (Ex.bP s0 (Ex.aO pt [] s0.raws).1) dd)) (i:=9) (j:=10) (by decide) NU (lt_size (by omega)) (aP.of J3) (aP.of Ul) (by omega) (by omega) (fun i x y z B2 vW T1 H_ N2 hz2 hB2 s8 hT1 Q2 k2=>?_) (fun B2 vW s8 hB2 yY=>?_)⟩
         . obtain ⟨q1,hq1,HV⟩:=Gu.get H_;obtain ⟨q2,hq2,LH⟩:=Um.get N2;have ez:z=q1-q2:=by
            rw [List.getElem?_zipWith,hq1,hq2] at hz2;exact (Option.some.inj hz2).symm
           have s9:aH (upd B2 D2 (.lst vW)) (upd (upd B2 D2 (.lst vW)) T1 (.tup [x,y])):=ak hT1;have A7:aH H7 (upd (upd B2 D2 (.lst vW)) T1 (.tup [x,y])):=(s8.trans (ak hB2)).trans s9;refine ⟨_,rfl,_,rfl,_,_,q1,q2,rfl,aL (kp A7) HV,aL (kp A7) LH,(qb W2 q1 (List.mem_of_getElem? hq1)).mono (gu (by decide)),(zp q2 (List.mem_of_getElem? hq2)).mono (gu (by rw [Q8];have:=Nat.mul_le_mul_left (480061+60+1) li;omega)),fun v11 Ql Kw N3=>?_⟩;obtain ⟨B',e',jQ,s',r'⟩:=kN kM hB2 (s9.trans Kw) N3;rw [e'];exact k2 _ B' jQ s' (by rw [ez];exact r')
         . have s9:aH H7 (upd B2 D2 (.lst vW)):=s8.trans (ak hB2);have LI:=aL.al (aS (o:=.lst vW) hB2) yY;have l4:=LI.length;rw [VZ] at l4;refine ⟨_,rfl,_,_,rfl,.inl (aP.of ao),(by show 1<=sizeLine;decide),fun q hq=>?_⟩;have A7:=ak (o:=.lst [.int (vW.length:Nat)]) hq;refine ⟨_,rfl,_,_,[(s0.outs.length:Int)],_,rfl,?_,⟨D2,vW,rfl,A7 _ _ ao,aL.al (kp A7) LI⟩,(by show 1<=10;decide),(by omega),fun x Ql Kw hx=>?_⟩
           . rw [<-l4];exact IL.of (ns:=[(vW.length:Int)]) ao
           . rw [Ca Q8] at hx;have sG:=(s7.trans s9).trans (A7.trans Kw);exact k _ _ (((kp (s1.trans (s2.trans s3))).trans k6).trans (kp sG)) ((N1.same sG).ji oU) hx
end
end Pg
namespace Pg
open PySem PySem.Spec PyProof.Rows L2
section
variable {P:Program}{w:World}{K:PySem.W.Frag}{mg:Str->Option Value}{base:Heap}{A:dP}
theorem Cb:Mo (LL K):=fH.ls
noncomputable def uc(ts:List Ex.Raw)(o:Nat)(q:Rat):Option Rat:=match (Ex.aO [q] [] ts).2 with
 |none=>some ((Ex.aO [q] [] ts).1.getD o 0)
 |some _=>none
structure One(ts:List Ex.Raw)(o:Nat):Prop where
 lines:∀ t,t∈ts->Ex.cE t
 uses:Ex.bK 1 0 ts=true
 few:ts.length<=60
 out:o<ts.length
noncomputable def qh(K:PySem.W.Frag)(A:dP):Sp:=fun vs H Q _=>∃ (u v:V) (o:Nat) (ts:List Ex.Raw) (q:Rat),vs=[u,.int o,v]/\LL K H u ts/\Fr K H v q/\One ts o/\∀ r H',aH H H'->Cg (Fr K) H' r (uc ts o q)->Q r H'
theorem DQ(T:Txt K mg A)(D:Def K mg "value_at" rO ["lines","out","fraction"])(AQ:Has P w K mg base "run" ["lines","point"] 46 (E5 K A)):Has P w K mg base "value_at" ["lines","out","fraction"] 47 (qh K A):=by
 refine D.has vR (fun vs H Q E h=>?_) (fun f cdv Ar outer s H vs Q E hr h=>?_)
 . obtain ⟨_,_,_,_,_,rfl,_⟩:=h;rfl
 . skip
   obtain ⟨u,v,o,ts,q,rfl,hu,hv,hO,k⟩:=h;unfold uc at k;refine ⟨_,(ah (aI (i:=3) vR.nd rfl (Or.inl rfl) (aG AQ (hr.mono (by decide)) rfl (af (pv 0) (af (aR (af (pv 2) ai)) ai))))
    (ah (aM (aC wX (aD (az (K:=K) rfl) (pv 3) ay (fun _ _=>rfl)) bF (aE _)) (au (aA bF))
    aF)
    (au (aA (aD (az (K:=K) rfl) (aD (az (K:=K) rfl) (pv 3) ay (fun _ _=>rfl)) (pv 1) (fun _ _=>rfl)))))),?_⟩
   refine ⟨_,rfl,_,rfl,(by show 1<=sizeLine;decide),fun p hp=>?_⟩;have s1:=ak (o:=.lst [v]) hp;refine ⟨_,_,ts,[q],rfl,Cb (kp s1) hu,⟨p,_,rfl,ao,.cons (aL (kp s1) hv) .nil⟩,hO.lines,hO.uses,hO.few,fun r H2 s2 hr2=>?_⟩;obtain ⟨c,x,y,rfl,hc,hx,hy⟩:=hr2;refine ⟨_,rfl,.inr ⟨_,_,_,_,rfl,rfl,hc,rfl,rfl,_,rfl,?_⟩⟩;cases e:(Ex.aO [q] [] ts).2 with
   |
    some kk=>
    rw [e] at k hy;obtain ⟨b,rfl,hb⟩:=hy;exact aW (k _ _ (s1.trans s2) rfl)
   |
    none=>
    rw [e] at k hy;have hy:y=.non:=hy;subst hy;refine aQ ?_;obtain ⟨xa,xs,rfl,hxa,yX⟩:=hx;have hl:o<(Ex.aO [q] [] ts).1.length:=by rw [Ex.pL [q] ts [] e];simp;exact hO.out
    obtain ⟨z,hz1,hz2⟩:=Fl.at_ hxa yX hl;exact ⟨_,rfl,.inr ⟨_,_,_,_,rfl,rfl,hc,rfl,_,rfl,.inl ⟨_,_,_,_,rfl,rfl,aP.of hxa,at_of (j:=o) rfl hz1,k _ _ (s1.trans s2) hz2⟩⟩⟩
noncomputable def kX(ts:List Ex.Raw)(o:Nat)(below:Bool):Nat->Rat->Rat->List Int
 |0,a,b=>Ex.bQ [2] [a,b]
 |
  f+1,a,b=>match uc ts o ((a+b)*mkRat 1 2) with
  |none=>[0]
  |some v=>if v.num=0 then Ex.bQ [1] [(a+b)*mkRat 1 2] else if decide (v.num<0)=below then kX ts o below f ((a+b)*mkRat 1 2) b else kX ts o below f a ((a+b)*mkRat 1 2)
structure lS(P:Nat)(i:Nat)(q:Rat):Prop where
 den:q.den∣P*2 ^ i
 ab:Ex.Ab (2 ^ 60) q
theorem lS.sz{P i:Nat}{q:Rat}(h:lS P i q)(hP:0<P)(hb:P<=2 ^ 120)(hi:i<=101):Ex.Sz 300 q:=by
 have h1:P*2 ^ i<=2 ^ (120+i):=by rw [Nat.pow_add];exact Nat.mul_le_mul_right _ hb
 have hp:=Nat.mul_pos hP (Nat.two_pow_pos i);exact (Ex.Sz.Ao (a:=120+i) (b:=60) (by omega) h.den h1 h.ab).mono (by omega)
theorem lS.up{P i:Nat}{q:Rat}(h:lS P i q):lS P (i+1) q:=⟨Nat.dvd_trans h.den (by rw [Nat.pow_succ,<-Nat.mul_assoc];exact Nat.dvd_mul_right _ _),h.ab⟩
theorem lS.mid{P i:Nat}{a b:Rat}(hP:0<P)(ha:lS P i a)(hb:lS P i b):lS P (i+1) ((a+b)*mkRat 1 2):=by
 have hp:=Nat.mul_pos hP (Nat.two_pow_pos i);refine ⟨?_,ha.ab.half hb.ab⟩;rw [Nat.pow_succ,<-Nat.mul_assoc];exact Ex.JC (by omega) ha.den hb.den
theorem Gx(T:Txt K mg A)(H:Hp):Fr K H (.ref A.JH) (mkRat 1 2):=by
 have e:mkRat 1 2=(⟨1,2,by decide,by decide⟩:Rat):=by decide +kernel
 rw [e];exact ⟨A.JH,rfl,T.EO H⟩
theorem Gy:Ex.Sz M (mkRat 1 2):=by
 have h:Ex.Sz 2 (mkRat 1 2):=Ex.kg (by decide) (by decide) (by decide);exact h.mono (gu (by decide))
noncomputable def AS(K:PySem.W.Frag)(A:dP):Sp:=fun vs H Q _=>∃ (u x y:V) (o n:Nat) (ts:List Ex.Raw) (a b:Rat) (below:Bool) (D:Nat),vs=[u,.int o,.int n,x,y,.bl below]/\LL K H u ts/\Fr K H x a/\Fr K H y b/\One ts o/\n<=100/\0<D/\D<=2 ^ 120/\lS D 0 a/\lS D 0 b/\
 ∀ r H',aH H H'->IL H' r (kX ts o below n a b)->Q r H'
theorem cb{a b:Bool}:decide (V.bl a=V.bl b)=decide (a=b):=decide_eq_decide.mpr ⟨fun e=>by injection e,fun e=>by rw [e]⟩
theorem Ib(T:Txt K mg A)(D:Def K mg "halved" yc ["lines","out","many","first","second","first_is_below"])(dc:Has P w K mg base "told" ["head","fractions"] 42 (jt K A))(cR:Has P w K mg base "times" ["first","second"] 42 (iI K A))(gW:Has P w K mg base "value_at" ["lines","out","fraction"] 47 (qh K A))(dm:Has P w K mg base "plus" ["first","second"] 42 (jY K A)):Has P w K mg base "halved" ["lines","out","many","first","second","first_is_below"] 48 (AS K A):=by
 refine D.has g8 (fun vs H Q E h=>?_) (fun f cdv Ar outer s H vs Q E hr h=>?_)
 . obtain ⟨_,_,_,_,_,_,_,_,_,_,rfl,_⟩:=h;rfl
 . skip
   obtain ⟨u,x,y,o,n,ts,a,b,below,D0,rfl,hu,hx,hy,hO,hn,Qp,Q9,ea,eb,k⟩:=h;refine ⟨_,(ah (aI (i:=6) g8.nd rfl (Or.inl rfl) (pv 3))
    (ah (aI (i:=7) g8.nd rfl (Or.inl rfl) (pv 4))
    (ah (eX PassesOwn.never rfl (f_ rfl T.jr (af (pv 2) ai)) (aN (i:=8) g8.nd rfl (Or.inl rfl))
    (ah (aI (i:=9) g8.nd rfl (Or.inl rfl) (aG cR (hr.mono (by decide)) rfl (af (aG dm (hr.mono (by decide)) rfl (af (pv 6) (af (pv 7) ai))) (af (oz T.BA) ai))))
    (ah (aI (i:=10) g8.nd rfl (Or.inl rfl) (aG gW (hr.mono (by decide)) rfl (af (pv 0) (af (pv 1) (af (pv 9) ai)))))
    (ah (aM (aC dW (pv 10) bF (aE _)) (au (aA (aR (af ay ai))))
    aF)
    (ah (aM (aC cU (aD (az (K:=K) rfl) (pv 10) ay (fun _ _=>rfl)) ay (aE _)) (au (aA (aG dc (hr.mono (by decide)) rfl (af (aR (af ay ai)) (af (aR (af (pv 9) ai)) ai)))))
    aF)
    (au (aM (aC cU (gJ gX (aD (az (K:=K) rfl) (pv 10) ay (fun _ _=>rfl)) ay (aE _)) (pv 5) (aE _)) (au (aI (i:=6) g8.nd rfl (Or.inl rfl) (pv 9)))
    (au (aI (i:=7) g8.nd rfl (Or.inl rfl) (pv 9))))))))))
    (au (aA (aG dc (hr.mono (by decide)) rfl (af (aR (af ay ai)) (af (aR (af (pv 6) (af (pv 7) ai))) ai)))))))),?_⟩
   refine ⟨_,rfl,_,rfl,?_⟩;refine ⟨_,rfl,_,rfl,(by omega),(by omega),kQ (n:=(n:Int).toNat) (j:=8)
    (fun i σ H'=>∃ vl vr o8 o9 Q_ a' b',σ=[some u,some (.int o),some (.int n),some x,some y,some (.bl below),some vl,some vr,o8,o9,Q_]/\aH H H'/\Fr K H' vl a'/\Fr K H' vr b'/\lS D0 i a'/\lS D0 i b'/\kX ts o below n a b=kX ts o below (n-i) a' b')
    ⟨x,y,none,none,none,a,b,rfl,aH.refl _,hx,hy,ea,eb,rfl⟩ ?_ ?_⟩
   . rintro i σ H' hi ⟨vl,vr,o8,o9,Q_,a',b',rfl,s,hl,hr',el,er,e⟩;have hi:i<n:=by omega
     have zl:=(el.sz Qp Q9 (by omega)).mono (gu (by decide));have zr:=(er.sz Qp Q9 (by omega)).mono (gu (by decide));have em:=lS.mid Qp el er;rw [show n-i=(n-(i+1))+1 by omega] at e;have e:kX ts o below n a b=match uc ts o ((a'+b')*mkRat 1 2) with
      |none=>[0]
      |some v=>if v.num=0 then Ex.bQ [1] [(a'+b')*mkRat 1 2] else if decide (v.num<0)=below then kX ts o below (n-(i+1)) ((a'+b')*mkRat 1 2) b' else kX ts o below (n-(i+1)) a' ((a'+b')*mkRat 1 2):=e
     refine ⟨_,rfl,_,rfl,_,_,a',b',rfl,hl,hr',zl,zr,fun v1 H1 s1 hv1=>?_⟩;refine ⟨_,_,_,mkRat 1 2,rfl,hv1,Gx T H1,?_,Gy,fun v2 H2 s2 hv2=>?_⟩
     . exact ((el.sz Qp Q9 (by omega)).add (er.sz Qp Q9 (by omega))).mono (gu (by decide))
     . have sa:=(s.trans s1).trans s2;refine ⟨_,rfl,_,rfl,_,rfl,_,_,o,ts,_,rfl,Cb (kp sa) hu,hv2,hO,fun v3 H3 s3 zK=>?_⟩;have sb:=sa.trans s3;refine ⟨_,rfl,rfl,_,rfl,?_⟩;cases ev:uc ts o ((a'+b')*mkRat 1 2) with
       |
        none=>
        rw [ev] at zK e;have zK:v3=.non:=zK;subst zK;exact aW ⟨(by show 1<=sizeLine;decide),fun r hr=>k _ _ (sb.trans (ak hr)) (by rw [e];exact IL.one)⟩
       |
        some q=>
        rw [ev] at zK e;dsimp only at e;obtain ⟨c,rfl,hc⟩:=zK;refine aQ ?_;refine ⟨_,rfl,.inr ⟨_,_,_,_,rfl,rfl,hc,rfl,rfl,_,rfl,?_⟩⟩;rw [cc];by_cases hq:q.num=0
        . rw [decide_eq_true hq];rw [if_pos hq] at e;refine aW ⟨(by show 1<=sizeLine;decide),fun r hr=>⟨_,rfl,(by show 1<=sizeLine;decide),fun r2 hr2=>?_⟩⟩;have sc:=(ak (o:=.lst [.int 1]) hr).trans (ak (o:=.lst [v2]) hr2);refine ⟨_,_,[1],[(a'+b')*mkRat 1 2],rfl,IL.of (ns:=[1]) (ak hr2 _ _ ao),⟨r2,_,rfl,ao,.cons (aL (kp (s3.trans sc)) hv2) .nil⟩,(by show 1<=10;decide),(by show 1<=100;decide),fun z H5 s5 hz=>k _ _ ((sb.trans sc).trans s5) (by rw [e];exact hz)⟩
        . rw [decide_eq_false hq];rw [if_neg hq] at e;refine aQ ⟨_,rfl,.inr ⟨_,_,_,_,rfl,rfl,hc,rfl,_,_,rfl,rfl,_,rfl,rfl,_,rfl,?_⟩⟩;rw [cb];by_cases hb:decide (q.num<0)=below
          . rw [decide_eq_true hb];rw [if_pos hb] at e;exact aW ⟨_,rfl,v2,vr,_,_,_,_,b',rfl,sb,aL (kp s3) hv2,aL (kp ((s1.trans s2).trans s3)) hr',em,er.up,e⟩
          . rw [decide_eq_false hb];rw [if_neg hb] at e;exact aQ ⟨_,rfl,vl,v2,_,_,_,a',_,rfl,sb,aL (kp ((s1.trans s2).trans s3)) hl,aL (kp s3) hv2,el.up,em,e⟩
   . rintro σ H' ⟨vl,vr,o8,o9,Q_,a',b',rfl,s,hl,hr',el,er,e⟩;rw [Int.toNat_natCast,Nat.sub_self] at e;have e:kX ts o below n a b=Ex.bQ [2] [a',b']:=e;refine ⟨(by show 1<=sizeLine;decide),fun r hr=>⟨_,rfl,_,rfl,(by show 2<=sizeLine;decide),fun r2 hr2=>?_⟩⟩;have sc:=(ak (o:=.lst [.int 2]) hr).trans (ak (o:=.lst [vl,vr]) hr2);exact ⟨_,_,[2],[a',b'],rfl,IL.of (ns:=[2]) (ak hr2 _ _ ao),⟨r2,_,rfl,ao,.cons (aL (kp sc) hl) (.cons (aL (kp sc) hr') .nil)⟩,(by show 1<=10;decide),(by show 2<=100;decide),fun z H5 s5 hz=>k _ _ ((s.trans sc).trans s5) (by rw [e];exact hz)⟩
noncomputable def Gz(ts:List Ex.Raw)(o n:Nat)(a b:Rat):List Int:=match uc ts o a,uc ts o b with
 |some p,some q=>if p.num=0 then Ex.bQ [1] [a] else if q.num=0 then Ex.bQ [1] [b] else if decide (p.num<0)=decide (q.num<0) then [0] else kX ts o (decide (p.num<0)) n a b
 |_,_=>[0]
noncomputable def yQ(K:PySem.W.Frag)(A:dP):Sp:=fun vs H Q _=>∃ (u x y:V) (o n:Nat) (ts:List Ex.Raw) (a b:Rat),vs=[u,.int o,.int n,x,y]/\LL K H u ts/\Fr K H x a/\Fr K H y b/\One ts o/\n<=100/\Ex.Sz 60 a/\Ex.Sz 60 b/\
 ∀ r H',aH H H'->IL H' r (Gz ts o n a b)->Q r H'
theorem Fi(T:Txt K mg A)(D:Def K mg "between" uQ ["lines","out","many","first","second"])(gW:Has P w K mg base "value_at" ["lines","out","fraction"] 47 (qh K A))(yR:Has P w K mg base "halved" ["lines","out","many","first","second","first_is_below"] 48 (AS K A))(dc:Has P w K mg base "told" ["head","fractions"] 42 (jt K A)):Has P w K mg base "between" ["lines","out","many","first","second"] 49 (yQ K A):=by
 refine D.has nQ (fun vs H Q E h=>?_) (fun f cdv Ar outer s H vs Q E hr h=>?_)
 . obtain ⟨_,_,_,_,_,_,_,_,rfl,_⟩:=h;rfl
 . skip
   obtain ⟨u,x,y,o,n,ts,a,b,rfl,hu,hx,hy,hO,hn,za,zb,k⟩:=h;unfold Gz at k;refine ⟨_,(ah (aI (i:=5) nQ.nd rfl (Or.inl rfl) (aG gW (hr.mono (by decide)) rfl (af (pv 0) (af (pv 1) (af (pv 3) ai)))))
    (ah (aI (i:=6) nQ.nd rfl (Or.inl rfl) (aG gW (hr.mono (by decide)) rfl (af (pv 0) (af (pv 1) (af (pv 4) ai)))))
    (ah (aM (PW.pt (ju (aC dW (pv 5) bF (aE _)) (ig (aC dW (pv 6) bF (aE _))))) (au (aA (aR (af ay ai))))
    aF)
    (ah (aM (aC cU (aD (az (K:=K) rfl) (pv 5) ay (fun _ _=>rfl)) ay (aE _)) (au (aA (aG dc (hr.mono (by decide)) rfl (af (aR (af ay ai)) (af (aR (af (pv 3) ai)) ai)))))
    aF)
    (ah (aM (aC cU (aD (az (K:=K) rfl) (pv 6) ay (fun _ _=>rfl)) ay (aE _)) (au (aA (aG dc (hr.mono (by decide)) rfl (af (aR (af ay ai)) (af (aR (af (pv 4) ai)) ai)))))
    aF)
    (ah (aI (i:=7) nQ.nd rfl (Or.inl rfl) (gJ gX (aD (az (K:=K) rfl) (pv 5) ay (fun _ _=>rfl)) ay (aE _)))
    (ah (aM (aC cU (pv 7) (gJ gX (aD (az (K:=K) rfl) (pv 6) ay (fun _ _=>rfl)) ay (aE _)) (aE _)) (au (aA (aR (af ay ai))))
    aF)
    (au (aA (aG yR (hr.mono (by decide)) rfl (af (pv 0) (af (pv 1) (af (pv 2) (af (pv 3) (af (pv 4) (af (pv 7) ai)))))))))))))))),?_⟩
   refine ⟨_,rfl,_,rfl,_,rfl,_,_,o,ts,a,rfl,hu,hx,hO,fun v1 H1 s1 hv1=>?_⟩;refine ⟨_,rfl,_,rfl,_,rfl,_,_,o,ts,b,rfl,Cb (kp s1) hu,aL (kp s1) hy,hO,fun v2 H2 s2 hv2=>?_⟩;have sa:=s1.trans s2;have hv1:=mF aL (kp s2) hv1;have N4:∀ r,H2 r=none->(∀ r H',aH H H'->IL H' r [0]->Q r H')->Q (.ref r) (upd H2 r (.lst [.int 0])):=fun r hr kk=>kk _ _ (sa.trans (ak hr)) IL.one;refine ⟨_,rfl,rfl,_,rfl,?_⟩;cases e1:uc ts o a with
   |
    none=>
    rw [e1] at hv1 k;have hv1:v1=.non:=hv1;subst hv1;exact aW (aW ⟨(by show 1<=sizeLine;decide),fun r hr=>N4 r hr k⟩)
   |
    some p=>
    rw [e1] at hv1 k;obtain ⟨c1,rfl,hc1⟩:=hv1;refine aQ ⟨_,rfl,rfl,_,rfl,?_⟩;cases e2:uc ts o b with
    |
     none=>
     rw [e2] at hv2 k;have hv2:v2=.non:=hv2;subst hv2;exact aW ⟨(by show 1<=sizeLine;decide),fun r hr=>N4 r hr k⟩
    |
     some q=>
     rw [e2] at hv2 k;dsimp only at k;obtain ⟨c2,rfl,hc2⟩:=hv2;refine aQ ⟨_,rfl,.inr ⟨_,_,_,_,rfl,rfl,hc1,rfl,rfl,_,rfl,?_⟩⟩;rw [cc];have Mx:∀ (v:V) (z:Rat),Fr K H2 v z->(∀ r H',aH H H'->IL H' r (Ex.bQ [1] [z])->Q r H')->∀ r,H2 r=none->∀ r2,upd H2 r (.lst [.int 1]) r2=none->jt K A [.ref r,.ref r2] (upd (upd H2 r (.lst [.int 1])) r2 (.lst [v])) Q E0:=fun v z hv kk r hr r2 hr2=>by
      have sc:=(ak (o:=.lst [.int 1]) hr).trans (ak (o:=.lst [v]) hr2);exact ⟨_,_,[1],[z],rfl,IL.of (ns:=[1]) (ak hr2 _ _ ao),⟨r2,_,rfl,ao,.cons (aL (kp sc) hv) .nil⟩,(by show 1<=10;decide),(by show 1<=100;decide),fun z H5 s5 hz=>kk _ _ ((sa.trans sc).trans s5) hz⟩
     by_cases hp:p.num=0
     . rw [decide_eq_true hp];rw [if_pos hp] at k;exact aW ⟨(by show 1<=sizeLine;decide),fun r hr=>⟨_,rfl,(by show 1<=sizeLine;decide),fun r2 hr2=>Mx x a (aL (kp sa) hx) k r hr r2 hr2⟩⟩
     . rw [decide_eq_false hp];rw [if_neg hp] at k;refine aQ ⟨_,rfl,.inr ⟨_,_,_,_,rfl,rfl,hc2,rfl,rfl,_,rfl,?_⟩⟩;rw [cc];by_cases hq:q.num=0
       . rw [decide_eq_true hq];rw [if_pos hq] at k;exact aW ⟨(by show 1<=sizeLine;decide),fun r hr=>⟨_,rfl,(by show 1<=sizeLine;decide),fun r2 hr2=>Mx y b (aL (kp sa) hy) k r hr r2 hr2⟩⟩
       . rw [decide_eq_false hq];rw [if_neg hq] at k;refine aQ ⟨_,rfl,.inr ⟨_,_,_,_,rfl,rfl,hc1,rfl,_,_,rfl,rfl,?_⟩⟩;refine ⟨_,rfl,_,rfl,.inr ⟨_,_,_,_,rfl,rfl,hc2,rfl,_,_,rfl,rfl,rfl,_,rfl,?_⟩⟩;rw [cb];by_cases hb:decide (p.num<0)=decide (q.num<0)
         . rw [decide_eq_true hb];rw [if_pos hb] at k;exact aW ⟨(by show 1<=sizeLine;decide),fun r hr=>N4 r hr k⟩
         . rw [decide_eq_false hb];rw [if_neg hb] at k;refine aQ ⟨_,rfl,_,rfl,_,rfl,_,rfl,_,rfl,_,rfl,_,_,_,o,n,ts,a,b,_,a.den*b.den,rfl,Cb (kp sa) hu,aL (kp sa) hx,aL (kp sa) hy,hO,hn,Nat.mul_pos a.den_pos b.den_pos,?_,⟨?_,Ex.Ab.CW za⟩,⟨?_,Ex.Ab.CW zb⟩,fun r H3 s3 V0=>k r H3 (sa.trans s3) V0⟩
           . exact Nat.le_of_lt (Ex.cX (a:=60) (b:=60) za.2 zb.2)
           . rw [Nat.pow_zero,Nat.mul_one];exact Nat.dvd_mul_right _ _
           . rw [Nat.pow_zero,Nat.mul_one];exact Nat.dvd_mul_left _ _
noncomputable def yS(s:Ex.SR)(i k:Int)(e:Option (List Rat)):Int:=if i<0\/(s.outs.length:Int)<=i\/k<0\/100<k then -1 else match e with
 |none=>-2
 |some _=>if s.inputs=1 then 0 else -8
noncomputable def nq(K:PySem.W.Frag)(A:dP):Sp:=fun vs H Q _=>∃ (h:Addr) (s:Ex.SR) (i kk:Int) (v:V) (e:Option (List Rat)) (qv:V),vs=[.ref h,.int i,.int kk,v]/\fD K A H h s qv/\Cg (FL K) H v e/\Q (.int (yS s i kk e)) H
theorem vj(T:Txt K mg A)(D:Def K mg "halve_refusal" jH ["held","result","many","ends"]) :Has P w K mg base "halve_refusal" ["held","result","many","ends"] 41 (nq K A):=by
 refine D.has uP (fun vs H Q E h=>?_) (fun f cdv Ar outer s H vs Q E hr h=>?_)
 . obtain ⟨_,_,_,_,_,_,_,rfl,_⟩:=h;rfl
 . skip
   obtain ⟨h,s0,i,kk,v,e,qv,rfl,hF,hv,k⟩:=h;obtain ⟨dx,l0,o0,hh,hl,ho⟩:=hF.ex;obtain ⟨oa,rfl,Kc⟩:=ho.at_;have ln:((fy s0.outs).map V.int).length=s0.outs.length:=by unfold fy;rw [List.length_map,List.length_map]
   unfold yS at k;refine ⟨_,(ah (aM (PW.pt (ju (aC gX (pv 1) ay (aE _)) (ju (aC vz (pv 1) (bu (aY) (by rfl) T.gF bU (af (aZ (K:=K) rfl (pv 0) rfl) ai)) (aE _)) (ju (aC gX (pv 2) ay (aE _)) (ig (aC oY (pv 2) (aX T.BD) (aE _))))))) (au (aA (aX T.eZ)))
    aF)
    (ah (aM (aC dW (pv 3) bF (aE _)) (au (aA (aX T.jX)))
    aF)
    (ah (aM (aC lA (aZ (K:=K) rfl (pv 0) rfl) ay (aE _)) (au (aA (aX T.wC)))
    aF)
    (au (aA (aX T.cA)))))),?_⟩
   refine ⟨_,rfl,_,_,rfl,rfl,_,rfl,?_⟩;by_cases h1:i<0
   . rw [decide_eq_true h1];rw [if_pos (Or.inl h1)] at k;exact aW (aW k)
   rw [decide_eq_false h1];refine aQ ⟨_,rfl,_,rfl,h,_,dx,_,_,rfl,hh,T.bz,T.d9,yK,_,_,rfl,.inl (aP.of Kc),_,_,rfl,rfl,_,rfl,?_⟩;rw [ln];by_cases h2:(s0.outs.length:Int)<=i
   . rw [decide_eq_true h2];rw [if_pos (Or.inr (Or.inl h2))] at k;exact aW (aW k)
   rw [decide_eq_false h2];refine aQ ⟨_,rfl,_,_,rfl,rfl,_,rfl,?_⟩;by_cases h3:kk<0
   . rw [decide_eq_true h3];rw [if_pos (Or.inr (Or.inr (Or.inl h3)))] at k;exact aW (aW k)
   rw [decide_eq_false h3];refine aQ ⟨_,rfl,_,_,rfl,rfl,_,rfl,?_⟩;by_cases h4:100<kk
   . rw [decide_eq_true h4];rw [if_pos (Or.inr (Or.inr (Or.inr h4)))] at k;exact aW k
   rw [decide_eq_false h4];rw [if_neg (by rintro (z|z|z|z);exact h1 z;exact h2 z;exact h3 z;exact h4 z)] at k;refine aQ ⟨_,rfl,rfl,_,rfl,?_⟩;cases e with
   |
    none=>
    have hv:v=.non:=hv;subst hv;exact aW k
   |
    some fs=>
    have hv:FL K H v fs:=hv;rw [decide_eq_false (FL.nn hv)];dsimp only at k;refine aQ ⟨_,rfl,h,_,dx,_,_,rfl,hh,T.bz,T.cN,jA,rfl,_,rfl,?_⟩;rw [cc];by_cases h5:s0.inputs=1
    . rw [decide_eq_true (by omega:((s0.inputs:Nat):Int)=1)];rw [if_pos h5] at k;exact aQ k
    . rw [decide_eq_false (by omega:¬ ((s0.inputs:Nat):Int)=1)];rw [if_neg h5] at k;exact aW k
theorem n8(v:Rat):(v.num=0/\Ex.gD v=0)\/(v.num<0/\Ex.gD v=-1)\/(¬ v.num=0/\¬ v.num<0/\Ex.gD v=1):=by
 unfold Ex.gD;by_cases h1:v.num<0
 . exact .inr (.inl ⟨h1,by rw [if_pos h1]⟩)
 . by_cases h2:v.num=0
   . exact .inl ⟨h2,by rw [if_neg h1,if_pos h2]⟩
   . exact .inr (.inr ⟨h2,h1,by rw [if_neg h1,if_neg h2]⟩)
theorem Cc{s:Ex.SR}{i o:Nat}(ho:s.outs[i]?=some o)(x:Rat):Ex.fK s i x=(uc s.raws o x).map Ex.gD:=by
 unfold Ex.fK uc;cases (Ex.aO [x] [] s.raws).2 with
 |
  none=>
  show some _=some _;congr 2;unfold Ex.bP;rw [List.getD_eq_getElem?_getD,List.getElem?_map,ho];rfl
 |some _=>rfl
theorem sign_zero{v:Rat}:Ex.gD v=0 ↔ v.num=0:=by
 rcases n8 v with ⟨h1,e1⟩|⟨h1,e1⟩|⟨h0,h1,e1⟩
 . exact ⟨fun _=>h1,fun _=>e1⟩
 . rw [e1];exact ⟨fun z=>absurd z (by decide),fun z=>by omega⟩
 . rw [e1];exact ⟨fun z=>absurd z (by decide),fun z=>absurd z h0⟩
theorem ud{v p:Rat}(hv:¬ v.num=0)(hp:¬ p.num=0):(decide (v.num<0)=decide (p.num<0)) ↔ Ex.gD v=Ex.gD p:=by
 rcases n8 v with ⟨h1,e1⟩|⟨h1,e1⟩|⟨h0,h1,e1⟩
 . exact absurd h1 hv
 . rcases n8 p with ⟨h2,e2⟩|⟨h2,e2⟩|⟨V1,h2,e2⟩
   . exact absurd h2 hp
   . rw [e1,e2,decide_eq_true h1,decide_eq_true h2];exact ⟨fun _=>rfl,fun _=>rfl⟩
   . rw [e1,e2,decide_eq_true h1,decide_eq_false h2];exact ⟨fun z=>absurd z (by decide),fun z=>absurd z (by decide)⟩
 . rcases n8 p with ⟨h2,e2⟩|⟨h2,e2⟩|⟨V1,h2,e2⟩
   . exact absurd h2 hp
   . rw [e1,e2,decide_eq_false h1,decide_eq_true h2];exact ⟨fun z=>absurd z (by decide),fun z=>absurd z (by decide)⟩
   . rw [e1,e2,decide_eq_false h1,decide_eq_false h2];exact ⟨fun _=>rfl,fun _=>rfl⟩
theorem Cd{s:Ex.SR}{i o:Nat}(ho:s.outs[i]?=some o){p:Rat}(hp:¬ p.num=0):∀ (f:Nat) (a b:Rat),kX s.raws o (decide (p.num<0)) f a b=Ex.pI (Ex.gM s i (Ex.gD p) f a b)
 |0,a,b=>rfl
 |
  f+1,a,b=>by
  unfold kX Ex.gM;rw [Cc ho,Rat.mul_comm (mkRat 1 2) (a+b)];cases uc s.raws o ((a+b)*mkRat 1 2) with
  |none=>rfl
  |
   some v=>
   show (if v.num=0 then Ex.bQ [1] [(a+b)*mkRat 1 2] else if decide (v.num<0)=decide (p.num<0) then kX s.raws o (decide (p.num<0)) f ((a+b)*mkRat 1 2) b else kX s.raws o (decide (p.num<0)) f a ((a+b)*mkRat 1 2))=Ex.pI (if Ex.gD v=0 then .zero ((a+b)*mkRat 1 2) else if Ex.gD v=Ex.gD p then Ex.gM s i (Ex.gD p) f ((a+b)*mkRat 1 2) b else Ex.gM s i (Ex.gD p) f a ((a+b)*mkRat 1 2));by_cases hv:v.num=0
   . rw [if_pos hv,if_pos (sign_zero.mpr hv)];rfl
   . rw [if_neg hv,if_neg (fun z=>hv (sign_zero.mp z))];by_cases hb:decide (v.num<0)=decide (p.num<0)
     . rw [if_pos hb,if_pos ((ud hv hp).mp hb)];exact Cd ho hp f _ _
     . rw [if_neg hb,if_neg (fun z=>hb ((ud hv hp).mpr z))];exact Cd ho hp f _ _
theorem LZ{s:Ex.SR}{i o:Nat}(ho:s.outs[i]?=some o)(k:Nat)(a b:Rat):Gz s.raws o k a b=match Ex.fK s i a,Ex.fK s i b with
 |some p,some q=>if p=0 then Ex.bQ [1] [a] else if q=0 then Ex.bQ [1] [b] else if p=q then [0] else Ex.pI (Ex.gM s i p k a b)
 |_,_=>[0]:=by
 unfold Gz;rw [Cc ho,Cc ho];cases uc s.raws o a with
 |none=>rfl
 |
  some p=>
  cases uc s.raws o b with
  |none=>rfl
  |
   some q=>
   show (if p.num=0 then Ex.bQ [1] [a] else if q.num=0 then Ex.bQ [1] [b] else if decide (p.num<0)=decide (q.num<0) then [0] else kX s.raws o (decide (p.num<0)) k a b)=(if Ex.gD p=0 then Ex.bQ [1] [a] else if Ex.gD q=0 then Ex.bQ [1] [b] else if Ex.gD p=Ex.gD q then [0] else Ex.pI (Ex.gM s i (Ex.gD p) k a b))
   by_cases hp:p.num=0
   . rw [if_pos hp,if_pos (sign_zero.mpr hp)]
   . rw [if_neg hp,if_neg (fun z=>hp (sign_zero.mp z))];by_cases hq:q.num=0
     . rw [if_pos hq,if_pos (sign_zero.mpr hq)]
     . rw [if_neg hq,if_neg (fun z=>hq (sign_zero.mp z))];by_cases hb:decide (p.num<0)=decide (q.num<0)
       . rw [if_pos hb,if_pos ((ud hp hq).mp hb)]
       . rw [if_neg hb,if_neg (fun z=>hb ((ud hp hq).mpr z))];exact Cd ho hp k _ _
theorem Fj{s:Ex.SR}(i k:Int)(ns:List Int):Ex.pJ s i k ns=if yS s i k (Ex.cY 2 ns)=0 then (match Ex.cY 2 ns with
 |
  some e=>(match Ex.fK s i.toNat (e.getD 0 0),Ex.fK s i.toNat (e.getD 1 0) with
  |some p,some q=>if p=0 then Ex.bQ [1] [e.getD 0 0] else if q=0 then Ex.bQ [1] [e.getD 1 0] else if p=q then [0] else Ex.pI (Ex.gM s i.toNat p k.toNat (e.getD 0 0) (e.getD 1 0))
  |_,_=>[0])
 |none=>[]) else [yS s i k (Ex.cY 2 ns)]:=by
 unfold Ex.pJ Ex.bT yS;by_cases h:i<0\/(s.outs.length:Int)<=i\/k<0\/100<k
 . simp only [if_pos h];rw [if_neg (by decide:¬ (-1:Int)=0)];by_cases h1:0<=i/\i<=(s.outs.length:Int)-1
   . rw [if_pos h1,if_neg (by omega)]
   . rw [if_neg h1]
 . simp only [if_neg h];rw [if_pos (by omega:0<=i/\i<=(s.outs.length:Int)-1),if_pos (by omega:0<=k/\k<=100)];dsimp only;cases Ex.cY 2 ns with
   |none=>dsimp only;rw [if_neg (by decide:¬ (-2:Int)=0)]
   |
    some e=>
    dsimp only;by_cases h5:s.inputs=1
    . simp only [if_pos h5];rw [if_neg (by simpa using h5)];rfl
    . simp only [if_neg h5];rw [if_pos h5,if_neg (by decide:¬ (-8:Int)=0)]
noncomputable def oH(K:PySem.W.Frag)(A:dP):Sp:=fun vs H Q _=>∃ (h:Addr) (s:Ex.SR) (i kk:Int) (u:V) (ns:List Int),vs=[.ref h,.int i,.int kk,u]/\HeldAt K A H h s/\s.Ok/\IL H u ns/\Ex.small ns/\DM K A H h (s,Ex.pJ s i kk ns) Q
theorem wU(T:Txt K mg A)(D:Def K mg "answer_halve" kI ["held","result","many","numbers"])(bZ:Has P w K mg base "read_fractions" ["numbers","many"] 43 (fQ K A))(jM:Has P w K mg base "halve_refusal" ["held","result","many","ends"] 41 (nq K A))(vm:Has P w K mg base "between" ["lines","out","many","first","second"] 49 (yQ K A)):Has P w K mg base "answer_halve" ["held","result","many","numbers"] 50 (oH K A):=by
 refine D.has jG (fun vs H Q E h=>?_) (fun f cdv Ar outer s H vs Q E hr h=>?_)
 . obtain ⟨_,_,_,_,_,_,rfl,_⟩:=h;rfl
 . skip
   obtain ⟨h,s0,i,kk,u,ns,rfl,hA,ok,hu,hsm,k⟩:=h;rw [Fj] at k;refine ⟨_,(ah (aI (i:=4) jG.nd rfl (Or.inl rfl) (aG bZ (hr.mono (by decide)) rfl (af (pv 3) (af ay ai))))
    (ah (aI (i:=5) jG.nd rfl (Or.inl rfl) (aG jM (hr.mono (by decide)) rfl (af (pv 0) (af (pv 1) (af (pv 2) (af (pv 4) ai))))))
    (ah (aM (aC lA (pv 5) (aX T.cA) (aE _)) (au (aA (aR (af (pv 5) ai))))
    aF)
    (au (aA (aG vm (hr.mono (by decide)) rfl (af (aZ (K:=K) rfl (pv 0) rfl) (af (aD (az (K:=K) rfl) (aZ (K:=K) rfl (pv 0) rfl) (pv 1) (fun _ _=>rfl)) (af (pv 2) (af (aD (az (K:=K) rfl) (pv 4) ay (fun _ _=>rfl)) (af (aD (az (K:=K) rfl) (pv 4) ay (fun _ _=>rfl)) ai))))))))))),?_⟩
   refine ⟨_,rfl,_,ns,2,rfl,hu,(by decide),fun x H1 s1 hx=>?_⟩;have HZ:=hA.same s1;obtain ⟨qv,Q4⟩:=HZ.f;refine ⟨_,rfl,_,rfl,_,rfl,_,rfl,h,s0,i,kk,_,Ex.cY 2 ns,_,rfl,Q4,hx,?_⟩;refine ⟨_,rfl,rfl,_,rfl,?_⟩;rw [cn];by_cases hz:yS s0 i kk (Ex.cY 2 ns)=0
   . rw [if_pos hz] at k;rw [decide_eq_true hz];refine aQ ?_;unfold yS at hz;by_cases hc:i<0\/(s0.outs.length:Int)<=i\/kk<0\/100<kk
     . rw [if_pos hc] at hz;exact absurd hz (by decide)
     . rw [if_neg hc] at hz;cases ef:Ex.cY 2 ns with
       |
        none=>
        rw [ef] at hz;exact absurd (show (-2:Int)=0 from hz) (by decide)
       |
        some e=>
        rw [ef] at hz hx k;dsimp only at hz k;have h1:s0.inputs=1:=by
         apply Classical.byContradiction;intro hn;rw [if_neg hn] at hz;exact absurd hz (by decide)
        have hx:FL K H1 x e:=hx;obtain ⟨xa,xs,rfl,hxa,yX⟩:=hx;have le:=Ex.nA ef;have ze:=DP ef hsm;obtain ⟨v0,hv0,V2⟩:=Fl.at_ hxa yX (i:=0) (by omega);obtain ⟨v1,hv1,V3⟩:=Fl.at_ hxa yX (i:=1) (by omega);obtain ⟨dx,l0,o0,hh,hl,ho⟩:=Q4.ex;obtain ⟨oa,rfl,Kc⟩:=ho.at_;obtain ⟨o,ho2⟩:∃ o,s0.outs[i.toNat]?=some o:=⟨_,List.getElem?_eq_getElem (by omega)⟩
        have e0:∀ j,j<2->Ex.Sz 60 (e.getD j 0):=fun j hj=>ze _ (Ex.getD_mem (by omega));refine ⟨_,rfl,h,_,dx,_,_,rfl,hh,T.bz,T.fm,B7,_,rfl,h,_,dx,_,_,rfl,hh,T.bz,T.d9,yK,_,rfl,.inl ⟨_,_,_,.int (o:Nat),rfl,rfl,aP.of Kc,?_,
         _,rfl,_,rfl,.inl ⟨_,_,_,_,rfl,rfl,aP.of hxa,at_of (j:=0) rfl hv0,_,rfl,.inl ⟨_,_,_,_,rfl,rfl,aP.of hxa,at_of (j:=1) rfl hv1,?_⟩⟩⟩⟩
        . refine at_of (j:=i.toNat) (by omega) (gQ ?_);unfold fy;rw [List.getElem?_map,ho2];rfl
        . refine ⟨_,_,_,o,kk.toNat,s0.raws,e.getD 0 0,e.getD 1 0,?_,hl,V2,V3,⟨ok.lines,by rw [<-h1];exact ok.uses,ok.few,ok.Aq o (List.mem_of_getElem? ho2)⟩,(by omega),e0 0 (by decide),e0 1 (by decide),fun r H2 s2 hr2=>?_⟩
          . rw [show ((kk.toNat:Nat):Int)=kk by omega];rfl
          . rw [LZ ho2] at hr2;exact k _ _ (kp (s1.trans s2)) (HZ.same s2) hr2
   . rw [if_neg hz] at k;rw [decide_eq_false hz];exact aW ⟨_,rfl,(by show 1<=sizeLine;decide),fun r hr=>k _ _ (kp (s1.trans (ak hr))) (HZ.same (ak hr)) IL.one⟩
end
end Pg
namespace Pg
open PySem PySem.Spec PyProof.Rows L2
theorem Kl{x:Rat}{t b:Int}{p:Int × Int}(hb:1<=b)(hp:p.2≠0):((x.num*(b*p.2)+t*p.1*(x.den:Int):Int):Rat) / (((x.den:Int)*(b*p.2):Int):Rat)=x+mkRat t b.toNat*Ex.a_ p:=by
 rw [<-Ex.ko t hb];unfold Ex.a_;have hb':(b:Rat)≠0:=Ex.b_ (by omega);have WN:(p.2:Rat)≠0:=Ex.b_ hp;have hd:((x.den:Int):Rat)≠0:=Ex.b_ (Ex.kj x);have h4:x*((x.den:Int):Rat)=(x.num:Rat):=by
  have:x=(x.num:Rat) / ((x.den:Int):Rat):=by
   conv=>lhs;rw [<-Rat.mkRat_self x]
   rw [Rat.mkRat_eq_div];rfl
  generalize ((x.den:Int):Rat)=y at *;rw [this]
  grind
 rw [Rat.intCast_add,Rat.intCast_mul,Rat.intCast_mul,Rat.intCast_mul,Rat.intCast_mul,Rat.intCast_mul,Rat.intCast_mul,<-h4];generalize ((x.den:Int):Rat)=y at *;generalize (b:Rat)=b' at *;generalize (p.2:Rat)=p2 at *;generalize (p.1:Rat)=p1 at *;generalize (t:Rat)=t' at *
 grind
noncomputable def iT(pt:List Rat)(ps:List (Int × Int))(t b:Int):List Rat:=List.zipWith (fun x p=>x+mkRat t b.toNat*Ex.a_ p) pt ps
theorem L0(pt:List Rat)(ps:List (Int × Int))(t b:Int):iT pt ps t b=List.zipWith (fun x y=>x+y) pt ((ps.map Ex.a_).map fun q=>mkRat t b.toNat*q):=by
 unfold iT;rw [List.map_map,List.zipWith_map_right];rfl
section
variable {P:Program}{w:World}{K:PySem.W.Frag}{mg:Str->Option Value}{base:Heap}{A:dP}
theorem N5:Mo (PL K):=tH.ls
noncomputable def v_(K:PySem.W.Frag)(A:dP):Sp:=fun vs H Q _=>∃ (u v:V) (pt:List Rat) (ps:List (Int × Int)) (t b:Int),vs=[u,v,.int t,.int b]/\FL K H u pt/\PL K H v ps/\pt.length=ps.length/\ps.length<=4/\1<=b/\Ex.Bd 60 t/\Ex.Bd 60 b/\
 (∀ q,q∈pt->Ex.Sz 2000 q)/\(∀ x,x∈ps->x.2≠0/\Ex.Bd 16000000 x.1/\Ex.Bd 16000000 x.2)/\(∀ x H',aH H H'->FL K H' x (iT pt ps t b)->Q x H')/\((∃ q,q∈iT pt ps t b/\6100<Ex.wt q)->∀ H',aH H H'->Q .non H')
theorem DR(T:Txt K mg A)(D:Def K mg "part_way" rP ["point","pairs","top","bottom"])(e8:Has P w K mg base "quick_lowest" ["top","bottom"] 42 (jK K A)):Has P w K mg base "part_way" ["point","pairs","top","bottom"] 43 (v_ K A):=by
 refine D.has g9 (fun vs H Q E h=>?_) (fun f cdv Ar outer s H vs Q E hr h=>?_)
 . obtain ⟨_,_,_,_,_,_,rfl,_⟩:=h;rfl
 . skip
   obtain ⟨u,v,pt,ps,t,b,rfl,⟨ua,us,rfl,hu,Ci⟩,⟨va,vs,rfl,hv,tR⟩,hlen,h4,hb,bt,bb,V4,KA,k,k2⟩:=h;have l1:=Ci.length;have l2:=tR.length;have lp:(iT pt ps t b).length=us.length:=by unfold iT;rw [List.length_zipWith];omega
   refine ⟨_,(ah (aI (i:=4) g9.nd rfl (Or.inl rfl) (aR ai))
    (ah (eX PassesOwn.never rfl (nv rfl T.tD (af (pv 0) (af (pv 1) ai))) (fq (K:=K) 2 rfl rfl (bG (aN (i:=5) g9.nd rfl (Or.inl rfl)) (bG (aN (i:=6) g9.nd rfl (Or.inl rfl)) ff)))
    (ah (aI (i:=7) g9.nd rfl (Or.inl rfl) (bC cu (pv 3) (aD (az (K:=K) rfl) (pv 6) ay (fun _ _=>rfl))))
    (ah (aI (i:=8) g9.nd rfl (Or.inl rfl) (aG e8 (hr.mono (by decide)) rfl (af (bC iU (bC cu (aD (az (K:=K) rfl) (pv 5) ay (fun _ _=>rfl)) (pv 7)) (bC cu (bC cu (pv 2) (aD (az (K:=K) rfl) (pv 6) ay (fun _ _=>rfl))) (aD (az (K:=K) rfl) (pv 5) ay (fun _ _=>rfl)))) (af (bC cu (aD (az (K:=K) rfl) (pv 5) ay (fun _ _=>rfl)) (pv 7)) ai))))
    (ah (aM (aC dW (pv 8) bF (aE _)) (au (aA bF))
    aF)
    (au (dD (lB PySem.F.plainAttrs_list PySem.F.slot_list_append PySem.F.type_list_append dX (pv 4) (af (pv 8) ai))))))))
    (au (aA (pv 4))))),?_⟩
   refine ⟨Nat.zero_le _,fun l hl=>?_⟩;refine ⟨_,rfl,_,rfl,_,_,_,_,rfl,aP.of ((aS hl).lst hu),aP.of ((aS hl).lst hv),BQ (K:=K) (a:=ua) (b:=va) (xs:=us) (ys:=vs) (i:=5) (j:=6) (by omega)
    (fun i σ H'=>∃ o5 o6 o7 o8 B rs,σ=[some (.ref ua),some (.ref va),some (.int t),some (.int b),some (.ref l),o5,o6,o7,o8]/\H'=upd B l (.lst rs)/\B l=none/\aH H B/\Al (Fr K B) rs ((iT pt ps t b).take i))
    ⟨none,none,none,none,H,[],rfl,rfl,hl,aH.refl _,.nil⟩ (fun i σ H' _ ⟨_,_,_,_,B,rs,_,e,hB,s,_⟩=>by rw [e];exact ⟨aP.of ((kp (s.trans (ak hB))).lst hu),aP.of ((kp (s.trans (ak hB))).lst hv)⟩) ?_ ?_⟩
   . rintro i y z σ H' T1 hi hi2 ⟨o5,o6,o7,o8,B,rs,rfl,rfl,hB,s,al⟩ hT1;obtain ⟨x,hx,rx⟩:=Ci.get hi;obtain ⟨p,hp,rp⟩:=tR.get hi2;have zx:=V4 x (List.mem_of_getElem? hx);obtain ⟨pn,z1,z2⟩:=KA p (List.mem_of_getElem? hp);have hlt:i<us.length:=(List.getElem?_eq_some_iff.mp hi).1;have s0:aH (upd B l (.lst rs)) (upd (upd B l (.lst rs)) T1 (.tup [y,z])):=ak hT1;have s1:aH H (upd (upd B l (.lst rs)) T1 (.tup [y,z])):=(s.trans (ak hB)).trans s0;obtain ⟨ca,rfl,hca⟩:=aL (kp s1) rx;obtain ⟨WO,rfl,hcb⟩:=tH (kp s1) rp;have zw:Ex.Bd 16000060 (b*p.2):=(bb.mul z2).mono (by decide);have zt:Ex.Bd 16000060 (t*p.1):=(bt.mul z1).mono (by decide);have xd:Ex.Bd 2000 (x.den:Int):=zx.2;have hpart:(iT pt ps t b)[i]?=some (x+mkRat t b.toNat*Ex.a_ p):=by unfold iT;rw [List.getElem?_zipWith,hx,hp]
     have hne:(x.den:Int)*(b*p.2)≠0:=Int.mul_ne_zero (Ex.kj x) (Int.mul_ne_zero (by omega) pn);refine ⟨_,rfl,_,rfl,.inr ⟨_,_,_,_,rfl,rfl,hcb,rfl,_,_,rfl,rfl,⟨m9.of bb (by decide),m9.of z2 (by decide)⟩,?_⟩⟩;refine ⟨_,rfl,.inr ⟨_,_,_,_,rfl,rfl,hca,rfl,_,rfl,_,_,rfl,rfl,⟨m9.of (b:=2000) zx.1 (by decide),m9.of zw (by decide)⟩,_,rfl,_,rfl,.inr ⟨_,_,_,_,rfl,rfl,hcb,rfl,_,_,rfl,rfl,⟨m9.of bt (by decide),m9.of z1 (by decide)⟩,
      _,rfl,.inr ⟨_,_,_,_,rfl,rfl,hca,rfl,_,_,rfl,rfl,⟨m9.of zt (by decide),m9.of xd (by decide)⟩,_,_,rfl,rfl,_,rfl,.inr ⟨_,_,_,_,rfl,rfl,hca,rfl,_,rfl,_,_,rfl,rfl,⟨m9.of xd (by decide),m9.of zw (by decide)⟩,_,_,rfl,hne,fun v1 H1 s2 hv1=>?_,fun hh=>?_⟩⟩⟩⟩⟩
     . rw [Kl hb pn] at hv1;have NZ:=hv1;obtain ⟨c,rfl,hc⟩:=NZ;refine ⟨_,rfl,rfl,_,rfl,aQ ?_⟩;obtain ⟨B',rfl,jQ,s',hq⟩:=kN kM hB (s0.trans s2) hv1;refine ⟨_,rfl,.inl ⟨rfl,_,aP.of ao⟩,_,rfl,_,_,_,rfl,rfl,ao,?_,?_⟩
       . rw [al.length,List.length_take];exact lt_size (by omega)
       . refine ⟨_,_,_,_,B',rs++[.ref c],rfl,c6,jQ,s.trans s',?_⟩;rw [take_snoc hpart];exact (aL.al (kp s') al).snoc hq
     . rw [Kl hb pn] at hh;exact ⟨_,rfl,rfl,_,rfl,aW (k2 ⟨_,List.mem_of_getElem? hpart,hh⟩ _ s1)⟩
   . rintro σ H' ⟨o5,o6,o7,o8,B,rs,rfl,rfl,hB,s,al⟩;rw [List.take_of_length_le (by omega)] at al;exact ⟨_,rfl,k _ _ (s.trans (ak hB)) ⟨l,rs,rfl,ao,aL.al (aS hB) al⟩⟩
end
end Pg
namespace Pg
open PySem PySem.Spec PyProof.Rows L2
section
variable {P:Program}{w:World}{K:PySem.W.Frag}{mg:Str->Option Value}{base:Heap}{A:dP}
theorem GA{s:Ex.SR}(ok:s.Ok){ws:List Rat}(W:rW ws s.raws){kind:Nat}{ps:List (Int × Int)}(h:Ex.gp kind (dS s ws) (Ex.bP s ws) s.inputs=some ps):∀ x,x∈ps->Ex.Bd 16000000 x.1/\Ex.Bd 16000000 x.2:=by
 obtain ⟨L,_,_,_,hb⟩:=DI ok W;intro x hx;obtain ⟨h1,h2⟩:=Ex.Lm ok.ins (gG s ws) (eF s ws) (by rw [Ex.bH];exact ok.outs) hb h x hx;exact ⟨h1.mono (by decide),h2.mono (by decide)⟩
theorem Km{b:Nat}{l:List Rat}(h:∃ q,q∈l/\b<Ex.wt q):Ex.heavy b l=true:=by
 obtain ⟨q,hq,hw⟩:=h;exact List.any_eq_true.mpr ⟨q,hq,decide_eq_true hw⟩
theorem DS{z:Int}(h:-(10 ^ 18)<=z/\z<=10 ^ 18):Ex.Bd 60 z:=by
 have e1:(2:Nat) ^ 60=1152921504606846976:=by decide
 have e2:(10:Int) ^ 18=1000000000000000000:=by decide
 rw [e2] at h;show z.natAbs<2 ^ 60;rw [e1];omega
noncomputable def qi(K:PySem.W.Frag)(A:dP):Sp:=fun vs H Q _=>∃ (h:Addr) (s:Ex.SR) (z t b:Int),vs=[.ref h,.int z,.int t,.int b]/\HeldAt K A H h s/\s.Ok/\Ex.small [z,t,b]/\DM K A H h (Ex.qK s z t b) Q
theorem yT(T:Txt K mg A)(D:Def K mg "answer_take" mz ["held","kind","top","bottom"])(aV:Has P w K mg base "place_refusal" ["held"] 41 (cZ K A))(eG:Has P w K mg base "step_here" ["held","kind"] 47 (jZ K A))(r_:Has P w K mg base "part_way" ["point","pairs","top","bottom"] 43 (v_ K A))(bD:Bt P w K mg base A.jI "hold_place" ["self","place"] 41 (dQ K A))(cG:Has P w K mg base "place_at" ["held","point"] 47 (ia K A))(gj:Has P w K mg base "run_answer" ["fault"] 41 (mK K A))(gk:Has P w K mg base "is_kind" ["kind"] 41 (nX K A))(bS:Has P w K mg base "may_be_taken" ["point"] 42 (fE K A)):Has P w K mg base "answer_take" ["held","kind","top","bottom"] 48 (qi K A):=by
 refine D.has iH (fun vs H Q E h=>?_) (fun f cdv Ar outer s H vs Q E hr h=>?_)
 . obtain ⟨_,_,_,_,_,rfl,_⟩:=h;rfl
 . skip
   obtain ⟨h,s0,z,t,b,rfl,hA,ok,hsm,k⟩:=h;unfold Ex.qK at k;have bt:=DS (hsm t (by simp));have bb:=DS (hsm b (by simp));refine ⟨_,(ah (aM (PW.pt (ju (lU (jB (aG gk (hr.mono (by decide)) rfl (af (pv 1) ai)))) (ig (aC gX (pv 3) ay (aE _))))) (au (aA (aR (af (aX T.eZ) ai))))
    aF)
    (ah (aI (i:=4) iH.nd rfl (Or.inl rfl) (aG aV (hr.mono (by decide)) rfl (af (pv 0) ai)))
    (ah (aM (aC lA (pv 4) (aX T.cA) (aE _)) (au (aA (aR (af (pv 4) ai))))
    aF)
    (ah (aI (i:=5) iH.nd rfl (Or.inl rfl) (aG eG (hr.mono (by decide)) rfl (af (pv 0) (af (pv 1) ai))))
    (ah (aM (aC dW (pv 5) bF (aE _)) (au (aA (aR (af ay ai))))
    aF)
    (ah (aI (i:=6) iH.nd rfl (Or.inl rfl) (aG r_ (hr.mono (by decide)) rfl (af (aZ (K:=K) rfl (aZ (K:=K) rfl (pv 0) rfl) rfl) (af (pv 5) (af (pv 2) (af (pv 3) ai))))))
    (ah (aM (PW.pt (ju (aC dW (pv 6) bF (aE _)) (ig (lU (jB (aG bS (hr.mono (by decide)) rfl (af (pv 6) ai))))))) (au (aA (aR (af (aX T.fZ) ai))))
    aF)
    (ah (dD (Di bD (hr.mono (by decide)) (pv 0) (af (aG cG (hr.mono (by decide)) rfl (af (pv 0) (af (pv 6) ai))) ai)))
    (au (aA (bC xx (aR (af ay ai)) (aG gj (hr.mono (by decide)) rfl (af (aZ (K:=K) rfl (aZ (K:=K) rfl (pv 0) rfl) rfl) ai))))))))))))),?_⟩
   refine ⟨_,rfl,z,rfl,_,rfl,?_⟩;have fin:∀ (H':Hp) (x:Int) (r:Addr),c8 H H'->HeldAt K A H' h s0->H' r=none->DM K A H h (s0,[x]) Q->Q (.ref r) (upd H' r (.lst [.int x])):=fun H' x r k1 h1 hr kk=>kk _ _ (k1.trans (aS hr)) (h1.same (ak hr)) IL.one;rcases r9 z with ⟨hz,e0⟩|⟨n,hn,rfl,e0⟩
   . rw [e0] at k;rw [decide_eq_false hz];exact aW (aW ⟨(by show 1<=sizeLine;decide),fun r hr=>fin H (-1) r (c8.refl _) hA hr k⟩)
   . rw [e0] at k;dsimp only at k;rw [vh hn];refine aQ ⟨_,rfl,_,_,rfl,rfl,_,rfl,?_⟩;by_cases hb1:b<1
     . rw [decide_eq_true hb1];rw [if_pos hb1] at k;exact aW ⟨(by show 1<=sizeLine;decide),fun r hr=>fin H (-1) r (c8.refl _) hA hr k⟩
     . rw [decide_eq_false hb1];rw [if_neg hb1] at k;refine aQ ?_;refine ⟨_,rfl,h,s0,rfl,hA,?_⟩;refine ⟨_,rfl,rfl,_,rfl,?_⟩;rw [cn];rcases j4 s0 with ⟨hz,e⟩|⟨hz,pt,oU,ic,e⟩
       . rw [e] at k;rw [decide_eq_false hz];exact aW ⟨_,rfl,(by show 1<=sizeLine;decide),fun r hr=>fin H _ r (c8.refl _) hA hr k⟩
       . rw [e] at k;dsimp only at k;rw [decide_eq_true hz];refine aQ ?_;obtain ⟨p,d,hP⟩:=hA.p oU;have W:=valsOk ok ic;have li:=ok.ins;obtain ⟨hpl,E6⟩:=ok.pt pt oU;obtain ⟨f1,f2⟩:=find_here ok n (Ex.aO pt [] s0.raws).1;rw [f1] at k;refine ⟨_,rfl,_,rfl,h,p,d,s0,pt,n,rfl,hP,ok,ic,hn,fun v1 H1 b1 xg hv1=>?_⟩;have k1:c8 H H1:=b1.keep hP.at_;refine ⟨_,rfl,rfl,_,rfl,?_⟩;cases ef:Ex.gp n (dS s0 (Ex.aO pt [] s0.raws).1) (Ex.bP s0 (Ex.aO pt [] s0.raws).1) s0.inputs with
         |
          none=>
          rw [ef] at k hv1;have hv1:v1=.non:=hv1;subst hv1;exact aW ⟨(by show 1<=sizeLine;decide),fun r hr=>fin H1 0 r k1 (xg.ji oU) hr k⟩
         |
          some ps=>
          obtain ⟨Im,nz⟩:=f2 ps ef;have KA:=GA ok W ef;rw [ef] at k hv1;have hv1:PL K H1 v1 ps:=hv1;rw [decide_eq_false (PL.nn hv1)];refine aQ ?_;have k:DM K A H h (Ex.gA s0 (List.zipWith (fun x y=>x+y) pt ((ps.map Ex.a_).map fun q=>mkRat t b.toNat*q)) (1::Ex.Bg s0 (List.zipWith (fun x y=>x+y) pt ((ps.map Ex.a_).map fun q=>mkRat t b.toNat*q)))) Q:=k;rw [<-L0] at k;have Qq:(iT pt ps t b).length=s0.inputs:=by unfold iT;rw [List.length_zipWith];omega
          obtain ⟨Qm,l1,o1,Qn,hl1,Kc⟩:=xg.held.ex;obtain ⟨vX,vp,vl,vf,vt,hp,g2,g3,g4,g5⟩:=xg.at_.ex;have heavy:∀ H2,aH H1 H2->Ex.heavy 2000 (iT pt ps t b)=true->∀ r,H2 r=none->Q (.ref r) (upd H2 r (.lst [.int (-6)])):=fun H2 s2 hh r hr=>by
           unfold Ex.gA at k;rw [if_pos hh] at k;exact fin H2 (-6) r (k1.trans (kp s2)) ((xg.same s2).ji oU) hr k
          refine ⟨_,rfl,h,_,Qm,_,_,rfl,Qn,T.bz,T.bA,fR,p,_,vX,_,_,rfl,hp,T.bN,T.dH,tY,_,rfl,_,rfl,_,rfl,_,_,pt,ps,t,b,rfl,g2,hv1,(by omega),(by omega),(by omega),bt,bb,
           fun q hq=>Ex.Sz.xJ (E6 q hq),fun x hx=>⟨nz x hx,KA x hx⟩,fun x H2 s2 hx=>?_,fun hh H2 s2=>?_⟩
          . refine ⟨_,rfl,rfl,_,rfl,?_⟩;rw [decide_eq_false (FL.nn hx)];refine aQ ⟨_,rfl,_,_,rfl,hx,(by omega),fun H3 s3=>⟨_,rfl,?_⟩⟩;cases eh:Ex.heavy 2000 (iT pt ps t b) with
            |true=>exact aW ⟨(by show 1<=sizeLine;decide),heavy H3 (s2.trans s3) eh⟩
            |
             false=>
             unfold Ex.gA at k;rw [if_neg (by rw [eh];decide),if_neg (by intro z;injection z with z;exact absurd z (by decide))] at k;refine aQ ?_;have vY:=(xg.same s2).same s3;obtain ⟨LV,l3,o3,V5,_,_⟩:=vY.held.ex;refine ⟨_,rfl,h,LV,_,rfl,V5,yL (by decide +kernel) (by decide +kernel) (by decide +kernel) (by decide +kernel),_,rfl,_,rfl,?_⟩;refine ⟨h,_,s0,iT pt ps t b,_,rfl,vY.held,aL.ls (kp s3) hx,ok,Qq,fun p4 d4 H4 hp0 hd0 s4 Ow=>?_⟩;refine ⟨h,s0,_,_,rfl,vY.held.same s4,fun H5 Ra kb=>?_⟩;obtain ⟨Qo,Rb⟩:=xh (vY.held.same s4) Ow Ra kb;obtain ⟨S3,l5,o5,V6,_,_⟩:=Ra.ex;refine ⟨(by show 1<=sizeLine;decide),fun r hr=>?_⟩;have s6:=ak (o:=.lst [.int 1]) hr;have N1:=Qo.same s6;obtain ⟨V7,WQ,WR,WS,WT,V8,t2,t3,t4,t5⟩:=N1.at_.ex;refine ⟨_,rfl,h,_,S3,_,_,rfl,s6 _ _ V6,T.bz,T.bA,fR,p4,_,V7,_,_,rfl,V8,T.bN,T.dI,tZ,_,Ex.aO (iT pt ps t b) [] s0.raws,rfl,t4,fun y H7 s7 hy=>?_⟩;obtain ⟨ya,rfl,hy1⟩:=hy.at_;have ly:(Kd (Ex.aO (iT pt ps t b) [] s0.raws)).length<=3:=by unfold Kd;split<;>simp
             refine ⟨r,ya,[.int 1],_,rfl,rfl,s7 _ _ ao,hy1,?_,fun q hq=>?_⟩
             . rw [List.length_map];show 1+_<=sizeLine;exact le_size (by omega)
             . have s8:=ak (o:=.lst ([.int 1]++(Kd (Ex.aO (iT pt ps t b) [] s0.raws)).map V.int)) hq;exact k _ _ ((k1.trans (kp (s2.trans (s3.trans s4)))).trans (Rb.trans (kp (s6.trans (s7.trans s8))))) (((N1.same s7).same s8).pt) (IL.of (ns:=1::Kd (Ex.aO (iT pt ps t b) [] s0.raws)) ao)
          . refine ⟨_,rfl,rfl,_,rfl,aW (aW ⟨(by show 1<=sizeLine;decide),heavy H2 s2 (Km ?_)⟩)⟩;obtain ⟨q,hq,hw⟩:=hh;exact ⟨q,hq,by omega⟩
theorem AU:∀ {a b:List Rat},(∀ q,q∈a->Ex.wt q<=2000)->(∀ q,q∈b->Ex.wt q<=2000)->Ex.heavy 6000 (List.zipWith (fun x y=>x-y) a b)=false
 |[],_,_,_=>rfl
 |_::_,[],_,_=>rfl
 |
  x::a,y::b,ha,hb=>by
  have ih:=AU (a:=a) (b:=b) (fun q hq=>ha q (List.mem_cons_of_mem _ hq)) (fun q hq=>hb q (List.mem_cons_of_mem _ hq));have h1:=Ex.JD (ha x List.mem_cons_self) (hb y List.mem_cons_self);unfold Ex.heavy at ih ⊢;rw [List.zipWith_cons_cons,List.any_cons,ih,decide_eq_false (by omega)];rfl
noncomputable def oJ(K:PySem.W.Frag)(A:dP):Sp:=fun vs H Q _=>∃ (h:Addr) (s:Ex.SR) (z:Int),vs=[.ref h,.int z]/\HeldAt K A H h s/\s.Ok/\DM K A H h (Ex.lY s z) Q
theorem wV(T:Txt K mg A)(D:Def K mg "answer_round" kJ ["held","places"])(bD:Bt P w K mg base A.jI "hold_place" ["self","place"] 41 (dQ K A))(dc:Has P w K mg base "told" ["head","fractions"] 42 (jt K A))(vn:Has P w K mg base "nearest" ["fraction","bottom"] 43 (yD K A))(bS:Has P w K mg base "may_be_taken" ["point"] 42 (fE K A))(cG:Has P w K mg base "place_at" ["held","point"] 47 (ia K A))(gh:Has P w K mg base "minus" ["first","second"] 43 (p6 K A)):Has P w K mg base "answer_round" ["held","places"] 48 (oJ K A):=by
 refine D.has dj (fun vs H Q E h=>?_) (fun f cdv Ar outer s H vs Q E hr h=>?_)
 . obtain ⟨_,_,_,rfl,_⟩:=h;rfl
 . skip
   obtain ⟨h,s0,z,rfl,hA,ok,k⟩:=h;unfold Ex.lY Ex.bT at k;refine ⟨_,(ah (aM (PW.pt (ju (aC gX (pv 1) ay (aE _)) (ig (aC oY (pv 1) (aX T.pX) (aE _))))) (au (aA (aR (af (aX T.eZ) ai))))
    aF)
    (ah (aM (aC dW (aZ (K:=K) rfl (pv 0) rfl) bF (aE _)) (au (aA (aR (af (aX T.yi) ai))))
    aF)
    (ah (aI (i:=2) dj.nd rfl (Or.inl rfl) (aZ (K:=K) rfl (aZ (K:=K) rfl (pv 0) rfl) rfl))
    (ah (j6 (i:=3) rfl dj.nd rfl rfl (nu rfl rfl rfl rfl) (eW (pv 2)) (cH (own:=[("fraction",4)]) (by kernel_rfl)) (fun _ _ _ _ _=>(aN (i:=4) dj.nd rfl (Or.inl rfl))) (fun _ _ _ _ _=>dg) (fun _ _ _ _ _=>(aG vn (hr.mono (by decide)) rfl (af (pv 4) (af (bC MU ay (pv 1)) ai)))))
    (ah (aM (lU (jB (aG bS (hr.mono (by decide)) rfl (af (pv 3) ai)))) (au (aA (aR (af (aX T.fZ) ai))))
    aF)
    (ah (dD (Di bD (hr.mono (by decide)) (pv 0) (af (aG cG (hr.mono (by decide)) rfl (af (pv 0) (af (pv 3) ai))) ai)))
    (au (aA (aG dc (hr.mono (by decide)) rfl (af (aR (af (bu (aY) (by rfl) T.gF bU (af (pv 2) ai)) ai)) (af (mX rfl dj.nd (nv rfl T.tD (af (pv 2) (af (pv 3) ai))) (cH (own:=[("was",5),("now",6)]) (by kernel_rfl)) (fun _ _ _ _ _=>(fq (K:=K) 2 rfl rfl (bG (aN (i:=5) dj.nd rfl (Or.inl rfl)) (bG (aN (i:=6) dj.nd rfl (Or.inl rfl)) ff)))) (fun _ _ _ _ _=>dg) (fun _ _ _ _ _=>(aG gh (hr.mono (by decide)) rfl (af (pv 5) (af (pv 6) ai))))) ai))))))))))),?_⟩
   have fin:∀ (H':Hp) (x:Int) (r:Addr),c8 H H'->HeldAt K A H' h s0->H' r=none->DM K A H h (s0,[x]) Q->Q (.ref r) (upd H' r (.lst [.int x])):=fun H' x r k1 h1 hr kk=>kk _ _ (k1.trans (aS hr)) (h1.same (ak hr)) IL.one;refine ⟨_,rfl,_,_,rfl,rfl,_,rfl,?_⟩;by_cases h1:z<0
   . rw [decide_eq_true h1];rw [if_neg (by omega)] at k;exact aW (aW ⟨(by show 1<=sizeLine;decide),fun r hr=>fin H (-1) r (c8.refl _) hA hr k⟩)
   rw [decide_eq_false h1];refine aQ ⟨_,rfl,_,_,rfl,rfl,_,rfl,?_⟩;by_cases h2:200<z
   . rw [decide_eq_true h2];rw [if_neg (by omega)] at k;exact aW ⟨(by show 1<=sizeLine;decide),fun r hr=>fin H (-1) r (c8.refl _) hA hr k⟩
   rw [decide_eq_false h2];rw [if_pos (by omega)] at k;dsimp only at k;refine aQ ?_;rcases hA with ⟨h3,h4⟩|⟨pt,p,d,oU,hP⟩
   . obtain ⟨dx,l0,o0,hh,hl,ho⟩:=h4.ex;rw [h3] at k;refine ⟨_,rfl,h,_,dx,_,_,rfl,hh,T.bz,T.bA,fR,rfl,_,rfl,aW ⟨(by show 1<=sizeLine;decide),fun r hr=>fin H (-4) r (c8.refl _) (.inl ⟨h3,h4⟩) hr k⟩⟩
   . obtain ⟨dx,l0,o0,hh,hl,ho⟩:=hP.held.ex;obtain ⟨vX,vp,vl,vf,vt,hp,g2,g3,g4,g5⟩:=hP.at_.ex;rw [oU] at k;dsimp only at k;have li:=ok.ins;obtain ⟨hpl,E6⟩:=ok.pt pt oU;refine ⟨_,rfl,h,_,dx,_,_,rfl,hh,T.bz,T.bA,fR,rfl,_,rfl,aQ ?_⟩;refine ⟨_,rfl,h,_,dx,_,_,rfl,hh,T.bz,T.bA,fR,p,_,vX,_,_,rfl,hp,T.bN,T.dH,tY,?_⟩;have JY:=g2;obtain ⟨pa,ps,rfl,hpa,Io⟩:=JY;have lp:=Io.length;refine ⟨_,rfl,_,rfl,⟨_,aP.of hpa⟩,fun D hD=>BR (R:=Fr K) aL (zs:=pt.map (Ex.cV z.toNat)) (j:=4) hD (lt_size (by rw [List.length_map];omega)) (aP.of hpa) (by rw [List.length_map];omega) (fun i x q B ys hx hq hB s Q2 k2=>?_) (fun B ys s hB oV=>?_)⟩
     . obtain ⟨q1,hq1,HV⟩:=Io.get hx;have ez:q=Ex.cV z.toNat q1:=by
        rw [List.getElem?_map,hq1] at hq;exact (Option.some.inj hq).symm
       have s1:aH H (upd B D (.lst ys)):=s.trans (ak hB);refine ⟨_,rfl,_,rfl,_,_,rfl,rfl,⟨by omega,by omega,by decide⟩,_,q1,z.toNat,?_,aL (kp s1) HV,Ex.Sz.xJ (E6 q1 (List.mem_of_getElem? hq1)),(by omega),fun v3 H3 s3 zK=>?_⟩
       . have:(1:Int)*2 ^ z.toNat=((2 ^ z.toNat:Nat):Int):=by rw [Int.one_mul];push_cast;rfl
         show [x,V.int (1*2 ^ z.toNat)]++[]=_;rw [this];rfl
       . obtain ⟨B',e',jQ,s',r'⟩:=kN kM hB s3 zK;rw [e'];exact k2 _ B' jQ s' (by rw [ez];exact r')
     . have s1:aH H (upd B D (.lst ys)):=s.trans (ak hB);have hfl:FL K (upd B D (.lst ys)) (.ref D) (pt.map (Ex.cV z.toNat)):=⟨D,ys,rfl,ao,aL.al (aS hB) oV⟩
       generalize T_:upd B D (.lst ys)=H1 at *;have xg:=hP.same s1;refine ⟨_,rfl,_,_,rfl,hfl,(by rw [List.length_map];omega),fun H2 s2=>⟨_,rfl,?_⟩⟩;have zQ:=xg.same s2;unfold Ex.gA at k;cases eh:Ex.heavy 2000 (pt.map (Ex.cV z.toNat)) with
       |
        true=>
        rw [if_pos eh] at k;exact aW ⟨(by show 1<=sizeLine;decide),fun r hr=>fin H2 (-6) r (kp (s1.trans s2)) (zQ.ji oU) hr k⟩
       |
        false=>
        have hnw:∀ q,q∈pt.map (Ex.cV z.toNat)->Ex.wt q<=2000:=Ex.vL (by rw [eh];decide);have hnt:Ex.heavy 6000 (List.zipWith (fun x y=>x-y) pt (pt.map (Ex.cV z.toNat)))=false:=by
         exact AU E6 hnw
        have JX:Ex.bQ [(pt.length:Int)] (List.zipWith (fun x y=>x-y) pt (pt.map (Ex.cV z.toNat)))≠[-6]:=by
         unfold Ex.bQ;rw [if_neg (by rw [hnt];decide)];intro e;injection e with e _
         omega
        rw [if_neg (by rw [eh];decide),if_neg JX] at k;refine aQ ?_;obtain ⟨LQ,l2,o2,Mu,_,_⟩:=zQ.held.ex;refine ⟨_,rfl,h,LQ,_,rfl,Mu,yL (by decide +kernel) (by decide +kernel) (by decide +kernel) (by decide +kernel),_,rfl,_,rfl,?_⟩;refine ⟨h,_,s0,pt.map (Ex.cV z.toNat),_,rfl,zQ.held,aL.ls (kp s2) hfl,ok,(by rw [List.length_map];exact hpl),fun p4 d4 H4 hp0 hd0 s4 Ow=>?_⟩;refine ⟨h,s0,_,_,rfl,zQ.held.same s4,fun H5 Ra kb=>?_⟩;obtain ⟨Qo,Rb⟩:=xh (zQ.held.same s4) Ow Ra kb;have k5:c8 H H5:=(kp (s1.trans (s2.trans s4))).trans Rb;have N6:=k5.lst hpa;have Tf:=aL.al k5 Io;have LY:=aL.ls ((kp (s2.trans s4)).trans Rb) hfl;obtain ⟨D',ys',e1,Uo,Qs⟩:=LY;have e1:D=D':=by injection e1
        subst e1;have ld:=Qs.length;rw [List.length_map] at ld;refine ⟨_,rfl,_,_,rfl,.inl (aP.of N6),(by show 1<=sizeLine;decide),fun r hr=>?_⟩;have s6:=ak (o:=.lst [.int (ps.length:Nat)]) hr;have lz:(List.zipWith (fun x y=>x-y) pt (pt.map (Ex.cV z.toNat))).length=pt.length:=by rw [List.length_zipWith,List.length_map];omega
        refine ⟨_,rfl,_,rfl,_,_,_,_,rfl,aP.of (s6 _ _ N6),aP.of (s6 _ _ Uo),fun D2 NU=>HQ (R:=Fr K) aL (zs:=List.zipWith (fun x y=>x-y) pt (pt.map (Ex.cV z.toNat))) (i:=5) (j:=6) (by decide) NU (lt_size (by omega)) (aP.of (s6 _ _ N6)) (aP.of (s6 _ _ Uo)) (by omega) (by omega) (fun i x y q B2 vW T1 H_ N2 hq2 hB2 s7 hT1 Q2 k2=>?_) (fun B2 vW s7 hB2 yY=>?_)⟩
        . obtain ⟨q1,hq1,HV⟩:=Tf.get H_;obtain ⟨q2,Qt,LH⟩:=Qs.get N2;have ez:q=q1-q2:=by
           rw [List.getElem?_zipWith,hq1,Qt] at hq2;exact (Option.some.inj hq2).symm
          have s9:aH (upd B2 D2 (.lst vW)) (upd (upd B2 D2 (.lst vW)) T1 (.tup [x,y])):=ak hT1;have A7:aH H5 (upd (upd B2 D2 (.lst vW)) T1 (.tup [x,y])):=(s6.trans (s7.trans (ak hB2))).trans s9;refine ⟨_,rfl,_,rfl,_,_,q1,q2,rfl,aL (kp A7) HV,aL (kp A7) LH,Ij (E6 q1 (List.mem_of_getElem? hq1)) (by decide),Ij (hnw q2 (List.mem_of_getElem? Qt)) (by decide),fun v11 Ql Kw N3=>?_⟩;obtain ⟨B',e',jQ,s',r'⟩:=kN kM hB2 (s9.trans Kw) N3;rw [e'];exact k2 _ B' jQ s' (by rw [ez];exact r')
        . have s8:aH (upd H5 r (.lst [.int (ps.length:Nat)])) (upd B2 D2 (.lst vW)):=s7.trans (ak hB2);refine ⟨_,_,[(pt.length:Int)],_,rfl,?_,⟨D2,vW,rfl,ao,aL.al (aS hB2) yY⟩,(by show 1<=10;decide),(by omega),fun x Ql Kw hx=>?_⟩
          . rw [<-lp];exact IL.of (ns:=[(ps.length:Int)]) (s8 _ _ ao)
          . have sG:=s6.trans (s8.trans Kw);exact k _ _ (k5.trans (kp sG)) ((Qo.same sG).pt) hx
end
end Pg
namespace Pg
open PySem PySem.Spec PyProof.Rows L2
noncomputable def stepK(d:List Rat)(k:Nat):List Rat:=d.map fun q=>mkRat 1 (2 ^ k)*q
theorem Fo(d:List Rat):stepK d 0=d:=by
 unfold stepK;have e:(fun q:Rat=>mkRat 1 (2 ^ 0)*q)=id:=by
  funext q;have:mkRat 1 (2 ^ 0)=1:=by decide +kernel
  rw [this,Rat.one_mul];rfl
 rw [e,List.map_id]
theorem Kn(k:Nat)(q:Rat):mkRat 1 (2 ^ k)*q*mkRat 1 2=mkRat 1 (2 ^ (k+1))*q:=by
 have e:mkRat 1 (2 ^ (k+1))=mkRat 1 (2 ^ k)*mkRat 1 2:=by
  rw [Rat.mkRat_mul_mkRat,Int.one_mul,Nat.pow_succ]
 rw [e];grind
theorem Fp(d:List Rat)(k:Nat):stepK d (k+1)=(stepK d k).map fun q=>q*mkRat 1 2:=by
 unfold stepK;rw [List.map_map];apply List.map_congr_left;intro q _;exact (Kn k q).symm
noncomputable def qj(pt d:List Rat)(k:Nat):List Rat:=List.zipWith (fun x y=>x+y) pt (stepK d k)
theorem yU(s:Ex.SR)(pt d:List Rat)(now:Rat)(f k:Nat):Ex.gB s pt d now (f+1) k=match (Ex.aO (qj pt d k) [] s.raws).2 with
 |some _=>Ex.gB s pt d now f (k+1)
 |none=>if Ex.oO (Ex.bP s (Ex.aO (qj pt d k) [] s.raws).1)<now then some (k,qj pt d k,Ex.oO (Ex.bP s (Ex.aO (qj pt d k) [] s.raws).1)) else Ex.gB s pt d now f (k+1):=rfl
theorem AV{s:Ex.SR}{pt d:List Rat}{now:Rat}{c:Nat}(hl:pt.length=d.length)(hc:c<d.length)(hp:Ex.wt (pt.getD c 0)<=2000)(hd:6100<Ex.wt (d.getD c 0))(hin:[0,(c:Int)]∈s.raws):∀ f k,f+k<=21->Ex.gB s pt d now f k=none
 |0,k,_=>rfl
 |
  f+1,k,h=>by
  rw [yU];have hy:(qj pt d k).getD c 0=pt.getD c 0+mkRat 1 (2 ^ k)*d.getD c 0:=by
   unfold qj stepK;rw [List.getD_eq_getElem?_getD,List.getElem?_zipWith,List.getElem?_map,List.getD_eq_getElem?_getD,List.getD_eq_getElem?_getD,List.getElem?_eq_getElem (by omega:c<pt.length),List.getElem?_eq_getElem hc];rfl
  have hw:2000<Ex.wt ((qj pt d k).getD c 0):=by
   rw [hy];apply Classical.byContradiction;intro hn;have:=Ex.Ln (by omega:k<=20) hp (by omega:Ex.wt (pt.getD c 0+mkRat 1 (2 ^ k)*d.getD c 0)<=2000);omega
  have hr:=Ex.AB (c:=c) (qj pt d k) hw s.raws [] hin;cases e:(Ex.aO (qj pt d k) [] s.raws).2 with
  |none=>exact absurd e hr
  |some _=>exact AV hl hc hp hd hin f (k+1) (by omega)
theorem Ko{p:Int × Int}{e:Nat}(hp:p.2≠0)(h1:Ex.Bd e p.1)(h2:Ex.Bd e p.2):Ex.Sz e (Ex.a_ p):=by
 unfold Ex.a_;by_cases h:0<p.2
 . rw [Ex.ko p.1 (by omega:1<=p.2)];refine Ex.kg (by omega) h1 ?_;have h2:p.2.natAbs<2 ^ e:=h2;omega
 . have e1:(p.1:Rat) / (p.2:Rat)=((-p.1:Int):Rat) / ((-p.2:Int):Rat):=by
    have:(p.2:Rat)≠0:=Ex.b_ hp;rw [Rat.intCast_neg,Rat.intCast_neg];grind
   rw [e1,Ex.ko (-p.1) (by omega:1<=-p.2)];refine Ex.kg (by omega) (by rw [Int.natAbs_neg];exact h1) ?_;have h2:p.2.natAbs<2 ^ e:=h2;omega
theorem Kp{d:List Rat}{e k:Nat}(h:∀ q,q∈d->Ex.Sz e q):∀ q,q∈stepK d k->Ex.Sz (k+1+e) q:=by
 intro q hq;unfold stepK at hq;obtain ⟨x,hx,rfl⟩:=List.mem_map.mp hq;have hp:=Nat.two_pow_pos k;have h1:Ex.Sz (k+1) (mkRat 1 (2 ^ k)):=Ex.kg (by omega) (by show 1<2 ^ (k+1);exact Nat.one_lt_two_pow (by omega)) (Nat.pow_lt_pow_right (by decide) (by omega));exact h1.mul (h x hx)
theorem My{l:List Rat}{n:Nat}(h:∀ q,q∈l->Ex.Sz n q):Ex.Sz ((n+n+1)*l.length+1) (Ex.oO l):=by
 have go:∀ (l:List Rat) (a:Rat) (m:Nat),(∀ q,q∈l->Ex.Sz n q)->Ex.Sz m a->Ex.Sz (m+(n+n+1)*l.length) ((l.map fun a=>a*a).foldl (fun x y=>x+y) a):=by
  intro l
  induction l with
  |nil=>intro a m _ ha;exact ha
  |
   cons x r ih=>
   intro a m hl ha;have hx:=hl x List.mem_cons_self;have:=ih (a+x*x) (m+(n+n)+1) (fun q hq=>hl q (List.mem_cons_of_mem _ hq)) (ha.add (hx.mul hx));refine this.mono ?_;rw [List.length_cons,Nat.mul_add];omega
 exact (go l 0 1 h (Ex.Sz.zero 1 (by decide))).mono (by omega)
theorem Fq{s:Ex.SR}(ok:s.Ok){ws:List Rat}{kind c:Nat}{ps:List (Int × Int)}{x:Int × Int}(hf:Ex.gp kind (dS s ws) (Ex.bP s ws) s.inputs=some ps)(hx:ps[c]?=some x)(hc:c<s.inputs)(hw:6100<Ex.wt (Ex.a_ x)):[0,(c:Int)]∈s.raws:=by
 apply Classical.byContradiction;intro hn;have hz:∀ r,r∈dS s ws->r.getD c 0=0:=by
  intro r hr;unfold dS at hr;obtain ⟨o,_,rfl⟩:=List.mem_map.mp hr;rw [tT ws s.raws o hc];exact Ex.vP s.raws [] ok.lines (fun t ht z=>hn (by rw [<-z];exact ht)) (fun i=>rfl) o
 have:=Ex.Ht hc (gG s ws) hz hf hx;subst this;have:Ex.wt (Ex.a_ (0,1))=1:=by decide +kernel
 omega
section
variable {P:Program}{w:World}{K:PySem.W.Frag}{mg:Str->Option Value}{base:Heap}{A:dP}
noncomputable def qk(K:PySem.W.Frag)(A:dP):Sp:=fun vs H Q _=>∃ (h p d:Addr) (s:Ex.SR) (pt:List Rat) (v bv:V) (ps:List (Int × Int)) (n:Nat) (now:Rat),vs=[.ref h,v,.int n,bv]/\iM K A H h p d s pt/\s.Ok/\s.point=some pt/\PL K H v ps/\ps.length=s.inputs/\
 (∀ x,x∈ps->x.2≠0/\Ex.Bd 16000000 x.1/\Ex.Bd 16000000 x.2)/\n<=20/\Fr K H bv now/\Ex.Sz M now/\(∀ (c:Nat) x,ps[c]?=some x->6100<Ex.wt (Ex.a_ x)->[0,(c:Int)]∈s.raws)/\
 (Ex.gB s pt (ps.map Ex.a_) now (n+1) 0=none->∀ H',aH H H'->Q .non H')/\
 (∀ y,Ex.gB s pt (ps.map Ex.a_) now (n+1) 0=some y->∀ t p2 d2 H',aH H H'->fG K H' t [.int (y.1:Nat),.ref p2]->dG K A H' p2 d2 s y.2.1->(Ex.aO y.2.1 [] s.raws).2=none->y.2.2=Ex.oO (Ex.bP s (Ex.aO y.2.1 [] s.raws).1)->y.2.1.length=s.inputs->Q (.ref t) H')
theorem yV(T:Txt K mg A)(D:Def K mg "first_lower" mC ["held","pairs","most_halvings","before"])(fF:Has P w K mg base "lowest_step" ["step"] 43 (kU K A))(cG:Has P w K mg base "place_at" ["held","point"] 47 (ia K A))(vo:Has P w K mg base "is_less" ["first","second"] 41 (yC K A))(cR:Has P w K mg base "times" ["first","second"] 42 (iI K A))(dm:Has P w K mg base "plus" ["first","second"] 42 (jY K A))(bB:Has P w K mg base "sum_of_squares" ["fractions"] 43 (eE K A))(cB:Has P w K mg base "results_at" ["held","place"] 41 (gH K A)):Has P w K mg base "first_lower" ["held","pairs","most_halvings","before"] 48 (qk K A):=by
 refine D.has cQ (fun vs H Q E h=>?_) (fun f cdv Ar outer s H vs Q E hr h=>?_)
 . obtain ⟨_,_,_,_,_,_,_,_,_,_,rfl,_⟩:=h;rfl
 . skip
   obtain ⟨h,p,d,s0,pt,v,bv,ps,n,now,rfl,hP,ok,oU,hv,Im,KA,hn,hbv,Tg,hin,k,k2⟩:=h;obtain ⟨hpl,E6⟩:=ok.pt pt oU;have li:=ok.ins;have lo:=ok.outs;have ld:(ps.map Ex.a_).length=s0.inputs:=by rw [List.length_map];exact Im
   have zd:∀ q,q∈ps.map Ex.a_->Ex.Sz 16000000 q:=fun q hq=>by
    obtain ⟨x,hx,rfl⟩:=List.mem_map.mp hq;exact Ko (KA x hx).1 (KA x hx).2.1 (KA x hx).2.2
   refine ⟨_,(ah (aI (i:=4) cQ.nd rfl (Or.inl rfl) (aG fF (hr.mono (by decide)) rfl (af (pv 1) ai)))
    (ah (aM (aC dW (pv 4) bF (aE _)) (au (aA bF))
    aF)
    (ah (eX PassesOwn.never rfl (f_ rfl T.jr (af (bC iU (pv 2) ay) ai)) (aN (i:=5) cQ.nd rfl (Or.inl rfl))
    (ah (aI (i:=6) cQ.nd rfl (Or.inl rfl) (aG cG (hr.mono (by decide)) rfl (af (pv 0) (af (mX rfl cQ.nd (nv rfl T.tD (af (aZ (K:=K) rfl (aZ (K:=K) rfl (pv 0) rfl) rfl) (af (pv 4) ai))) (cH (own:=[("start",7),("part",8)]) (by kernel_rfl)) (fun _ _ _ _ _=>(fq (K:=K) 2 rfl rfl (bG (aN (i:=7) cQ.nd rfl (Or.inl rfl)) (bG (aN (i:=8) cQ.nd rfl (Or.inl rfl)) ff)))) (fun _ _ _ _ _=>dg) (fun _ _ _ _ _=>(aG dm (hr.mono (by decide)) rfl (af (pv 7) (af (pv 8) ai))))) ai))))
    (ah (aM (PW.pt (Iv (aC dW (aZ (K:=K) rfl (pv 6) rfl) bF (aE _)) (FF (jB (aG vo (hr.mono (by decide)) rfl (af (aG bB (hr.mono (by decide)) rfl (af (aG cB (hr.mono (by decide)) rfl (af (pv 0) (af (pv 6) ai))) ai)) (af (pv 3) ai))))))) (au (aA (gq (af (pv 5) (af (pv 6) ai)))))
    aF)
    (au (j6 (i:=4) rfl cQ.nd rfl rfl (nu rfl rfl rfl rfl) (eW (pv 4)) (cH (own:=[("part",8)]) (by kernel_rfl)) (fun _ _ _ _ _=>(aN (i:=8) cQ.nd rfl (Or.inl rfl))) (fun _ _ _ _ _=>dg) (fun _ _ _ _ _=>(aG cR (hr.mono (by decide)) rfl (af (pv 8) (af (oz T.BA) ai)))))))))
    (au (aA bF))))),?_⟩
   refine ⟨_,rfl,_,ps,rfl,hv,fun x hx=>(KA x hx).1,(by omega),fun x H1 s1 hx=>?_,fun hh H1 s1=>?_⟩
   . refine ⟨_,rfl,rfl,_,rfl,?_⟩;rw [decide_eq_false (FL.nn hx)];refine aQ ?_;refine ⟨_,rfl,_,_,rfl,rfl,_,rfl,(by omega),(by omega),kQ (n:=((n:Int)+1).toNat) (j:=5)
      (fun i σ H'=>∃ st o5 o6,σ=[some (.ref h),some v,some (.int n),some bv,some st,o5,o6,none,none]/\aH H H'/\FL K H' st (stepK (ps.map Ex.a_) i)/\Ex.gB s0 pt (ps.map Ex.a_) now (n+1) 0=Ex.gB s0 pt (ps.map Ex.a_) now (n+1-i) i)
      ⟨x,none,none,rfl,s1,by rw [Fo];exact hx,rfl⟩ ?_ ?_⟩
     . rintro i σ H' hi ⟨st,o5,o6,rfl,s,hst,e⟩;have hi:i<n+1:=by omega
       have Qj:=hP.same s;have zk:=Kp (k:=i) zd;have lk:(stepK (ps.map Ex.a_) i).length=s0.inputs:=by unfold stepK;rw [List.length_map];exact ld
       rw [show n+1-i=(n+1-(i+1))+1 by omega] at e;have e:=e.trans (yU s0 pt (ps.map Ex.a_) now (n+1-(i+1)) i);obtain ⟨Qm,l1,o1,Qn,hl1,Kc⟩:=Qj.held.ex;obtain ⟨vX,vp,vl,vf,vt,hp,g2,g3,g4,g5⟩:=Qj.at_.ex;have Th:=hst;obtain ⟨sa,ss,rfl,HW,DX⟩:=Th;obtain ⟨pa,Kh,rfl,hpa,Io⟩:=g2;have l2:=DX.length;have l3:=Io.length;have lz:(qj pt (ps.map Ex.a_) i).length=s0.inputs:=by unfold qj;rw [List.length_zipWith];omega
       refine ⟨_,rfl,_,rfl,h,_,Qm,_,_,rfl,Qn,T.bz,T.bA,fR,p,_,vX,_,_,rfl,hp,T.bN,T.dH,tY,_,rfl,_,_,_,_,rfl,aP.of hpa,aP.of HW,
        fun D hD=>HQ (R:=Fr K) aL (zs:=qj pt (ps.map Ex.a_) i) (i:=7) (j:=8) (by decide) hD (lt_size (by omega)) (aP.of hpa) (aP.of HW) (by omega) (by omega) (fun j y1 y2 z B ys T1 H_ N2 hz2 hB sB hT1 Q2 S6=>?_) (fun B ys sB hB oV=>?_)⟩
       . obtain ⟨q1,hq1,HV⟩:=Io.get H_;obtain ⟨q2,hq2,LH⟩:=DX.get N2;have ez:z=q1+q2:=by
          unfold qj at hz2;rw [List.getElem?_zipWith,hq1,hq2] at hz2;exact (Option.some.inj hz2).symm
         have s2:aH (upd B D (.lst ys)) (upd (upd B D (.lst ys)) T1 (.tup [y1,y2])):=ak hT1;have s3:aH H' (upd (upd B D (.lst ys)) T1 (.tup [y1,y2])):=(sB.trans (ak hB)).trans s2;refine ⟨_,rfl,_,rfl,_,_,q1,q2,rfl,aL (kp s3) HV,aL (kp s3) LH,Ij (E6 q1 (List.mem_of_getElem? hq1)) (by decide),(zk q2 (List.mem_of_getElem? hq2)).mono (gu (by omega)),fun v4 H4 s4 Gs=>?_⟩;obtain ⟨B',e',jQ,s',r'⟩:=kN kM hB (s2.trans s4) Gs;rw [e'];exact S6 _ B' jQ s' (by rw [ez];exact r')
       . have s2:aH H' (upd B D (.lst ys)):=sB.trans (ak hB);have hfl:FL K (upd B D (.lst ys)) (.ref D) (qj pt (ps.map Ex.a_) i):=⟨D,ys,rfl,ao,aL.al (aS hB) oV⟩
         generalize Ss:upd B D (.lst ys)=H2 at *;have zQ:=Qj.same s2;refine ⟨h,_,s0,qj pt (ps.map Ex.a_) i,_,rfl,zQ.held,hfl,ok,lz,fun p2 d2 H3 hp2 hd2 s3 Ov=>?_⟩;have sA:=s.trans (s2.trans s3);have vY:=zQ.same s3;obtain ⟨LV,SS,SV,Qc,SW,hp3,r2,r3,r4,r5⟩:=Ov.ex;have next:∀ H4,aH H3 H4->Ex.gB s0 pt (ps.map Ex.a_) now (n+1) 0=Ex.gB s0 pt (ps.map Ex.a_) now (n+1-(i+1)) (i+1)->∀ (Dn:Ends),(∀ σ' H',(∃ st o5 o6,σ'=[some (.ref h),some v,some (.int n),some bv,some st,o5,o6,none,none]/\aH H H'/\FL K H' st (stepK (ps.map Ex.a_) (i+1))/\Ex.gB s0 pt (ps.map Ex.a_) now (n+1) 0=Ex.gB s0 pt (ps.map Ex.a_) now (n+1-(i+1)) (i+1))->Dn.nx σ' H')->
          KH (O2 (Ma K (KG 4)) (e9 8) A5 (IP (iI K A) [] E0 (IM (KG 8) (IM (tC (.ref A.JH)) KN))) [8]) (e9 4) Dn [some (.ref h),some v,some (.int n),some bv,some (.ref sa),some (.int (i:Int)),some (.ref p2),none,none] H4:=fun H4 s4 e4 Dn RV=>by
          have sH:aH H' H4:=(s2.trans s3).trans s4;have Ti:=aL.al (kp sH) DX;refine ⟨_,rfl,_,rfl,⟨_,aP.of (sH _ _ HW)⟩,fun D2 NU=>BR (R:=Fr K) aL (zs:=stepK (ps.map Ex.a_) (i+1)) (j:=8) NU (lt_size ?_) (aP.of (sH _ _ HW)) ?_ (fun j y z B5 Up V9 Uq Qu s5 Q5 k5=>?_) (fun B5 Up s5 Qu SJ=>?_)⟩
          . unfold stepK;rw [List.length_map,ld];omega
          . unfold stepK;rw [List.length_map,ld];omega
          . obtain ⟨q,hq,rq⟩:=Ti.get V9;have ez:z=q*mkRat 1 2:=by
             rw [Fp,List.getElem?_map,hq] at Uq;exact (Option.some.inj Uq).symm
            refine ⟨_,rfl,_,_,q,mkRat 1 2,rfl,aL (kp (s5.trans (ak Qu))) rq,Gx T _,(zk q (List.mem_of_getElem? hq)).mono (gu (by omega)),Gy,fun v6 H6 s6 Kz=>?_⟩;obtain ⟨B',e',jQ,s',r'⟩:=kN kM Qu s6 Kz;rw [e'];exact k5 _ B' jQ s' (by rw [ez];exact r')
          . exact RV _ _ ⟨.ref D2,_,_,rfl,(sA.trans s4).trans (s5.trans (ak Qu)),⟨D2,Up,rfl,ao,aL.al (aS Qu) SJ⟩,e4⟩
         refine ⟨_,rfl,p2,_,LV,_,_,rfl,hp3,T.bN,T.dI,tZ,rfl,_,rfl,?_⟩;unfold yM at r4;cases e2:(Ex.aO (qj pt (ps.map Ex.a_) i) [] s0.raws).2 with
         |
          some kk=>
          rw [e2] at r4 e;obtain ⟨c,rfl,hc⟩:=r4;exact aQ (aQ (next H3 (aH.refl _) e _ fun σ' H' hh=>hh))
         |
          none=>
          rw [e2] at r4 e;have r4:Qc=.non:=r4;subst r4;have W2:=valsOk ok e2;refine aW ?_;have zr:=qb (s:=s0) W2;refine ⟨_,rfl,_,rfl,h,p2,d2,s0,_,_,rfl,vY.held,Ov,ok,e2,fun v5 H5 s5 NS=>?_⟩;refine ⟨_,_,2000,rfl,NS,zr,(by rw [Ex.bH];omega),fun v6 H6 s6 Kz=>?_⟩;have N7:=s5.trans s6;refine ⟨_,rfl,_,_,_,now,rfl,Kz,aL (kp (sA.trans N7)) hbv,(My zr).mono (gu (by rw [Ex.bH];omega)),Tg,_,rfl,?_⟩;dsimp only at e;by_cases hlt:Ex.oO (Ex.bP s0 (Ex.aO (qj pt (ps.map Ex.a_) i) [] s0.raws).1)<now
          . rw [decide_eq_true hlt];rw [if_pos hlt] at e;refine aW ⟨_,rfl,_,rfl,(by show 2<=sizeLine;decide),fun t ht=>?_⟩;have s7:=ak (o:=.tup [.int (i:Int),.ref p2]) ht;exact k2 _ e t p2 d2 _ (sA.trans (N7.trans s7)) (fG.of ao) (Ov.same (N7.trans s7)) e2 rfl lz
          . rw [decide_eq_false hlt];rw [if_neg hlt] at e;exact aQ (next H6 N7 e _ fun σ' H' hh=>hh)
     . rintro σ H' ⟨st,o5,o6,rfl,s,hst,e⟩;rw [show ((n:Int)+1).toNat=n+1 by omega,Nat.sub_self] at e;exact k e _ s
   . refine ⟨_,rfl,rfl,_,rfl,aW (k ?_ _ s1)⟩;obtain ⟨x,hx,hw⟩:=hh;obtain ⟨c,hc,rfl⟩:=List.getElem_of_mem hx;have Qv:ps[c]?=some ps[c]:=List.getElem?_eq_getElem hc;refine AV (c:=c) (by rw [ld];exact hpl) (by rw [ld];omega) (E6 _ (Ex.getD_mem (by omega))) ?_ (hin c _ Qv hw) (n+1) 0 (by omega);rw [List.getD_eq_getElem?_getD,List.getElem?_map,Qv];exact hw
noncomputable def lT(K:PySem.W.Frag)(A:dP):Sp:=fun vs H Q _=>∃ (h:Addr) (s:Ex.SR) (z m:Int),vs=[.ref h,.int z,.int m]/\HeldAt K A H h s/\s.Ok/\DM K A H h (Ex.gC s z m) Q
theorem uf(T:Txt K mg A)(D:Def K mg "answer_descend" jd ["held","kind","most_halvings"])(aV:Has P w K mg base "place_refusal" ["held"] 41 (cZ K A))(eG:Has P w K mg base "step_here" ["held","kind"] 47 (jZ K A))(bB:Has P w K mg base "sum_of_squares" ["fractions"] 43 (eE K A))(mL:Has P w K mg base "first_lower" ["held","pairs","most_halvings","before"] 48 (qk K A))(dc:Has P w K mg base "told" ["head","fractions"] 42 (jt K A))(bD:Bt P w K mg base A.jI "hold_place" ["self","place"] 41 (dQ K A))(bE:Has P w K mg base "results_here" ["held"] 42 (dY K A))(gk:Has P w K mg base "is_kind" ["kind"] 41 (nX K A))(bS:Has P w K mg base "may_be_taken" ["point"] 42 (fE K A))(cB:Has P w K mg base "results_at" ["held","place"] 41 (gH K A)):Has P w K mg base "answer_descend" ["held","kind","most_halvings"] 49 (lT K A):=by
 refine D.has ck (fun vs H Q E h=>?_) (fun f cdv Ar outer s H vs Q E hr h=>?_)
 . obtain ⟨_,_,_,_,rfl,_⟩:=h;rfl
 . skip
   obtain ⟨h,s0,z,m,rfl,hA,ok,k⟩:=h;unfold Ex.gC at k;refine ⟨_,(ah (aM (PW.pt (ju (lU (jB (aG gk (hr.mono (by decide)) rfl (af (pv 1) ai)))) (ju (aC gX (pv 2) ay (aE _)) (ig (aC oY (pv 2) (aX T.wD) (aE _)))))) (au (aA (aR (af (aX T.eZ) ai))))
    aF)
    (ah (aI (i:=3) ck.nd rfl (Or.inl rfl) (aG aV (hr.mono (by decide)) rfl (af (pv 0) ai)))
    (ah (aM (aC lA (pv 3) (aX T.cA) (aE _)) (au (aA (aR (af (pv 3) ai))))
    aF)
    (ah (aI (i:=4) ck.nd rfl (Or.inl rfl) (aG eG (hr.mono (by decide)) rfl (af (pv 0) (af (pv 1) ai))))
    (ah (aM (aC dW (pv 4) bF (aE _)) (au (aA (aR (af ay ai))))
    aF)
    (ah (aI (i:=5) ck.nd rfl (Or.inl rfl) (aG bB (hr.mono (by decide)) rfl (af (aG bE (hr.mono (by decide)) rfl (af (pv 0) ai)) ai)))
    (ah (aI (i:=6) ck.nd rfl (Or.inl rfl) (aG mL (hr.mono (by decide)) rfl (af (pv 0) (af (pv 4) (af (pv 2) (af (pv 5) ai))))))
    (ah (aM (aC dW (pv 6) bF (aE _)) (au (aA (aR (af ay ai))))
    aF)
    (ah (aI (i:=7) ck.nd rfl (Or.inl rfl) (aD (az (K:=K) rfl) (pv 6) ay (fun _ _=>rfl)))
    (ah (aI (i:=8) ck.nd rfl (Or.inl rfl) (aD (az (K:=K) rfl) (pv 6) ay (fun _ _=>rfl)))
    (ah (aI (i:=9) ck.nd rfl (Or.inl rfl) (aG dc (hr.mono (by decide)) rfl (af (aR (af ay (af (pv 7) ai))) (af (aR (af (pv 5) (af (aG bB (hr.mono (by decide)) rfl (af (aG cB (hr.mono (by decide)) rfl (af (pv 0) (af (pv 8) ai))) ai)) ai))) ai))))
    (ah (aM (PW.pt (ju (aC cU (aD (az (K:=K) rfl) (pv 9) ay (fun _ _=>rfl)) (aX T.fZ) (aE _)) (ig (lU (jB (aG bS (hr.mono (by decide)) rfl (af (aZ (K:=K) rfl (pv 8) rfl) ai))))))) (au (aA (aR (af (aX T.fZ) ai))))
    aF)
    (ah (dD (Di bD (hr.mono (by decide)) (pv 0) (af (pv 8) ai)))
    (au (aA (pv 9)))))))))))))))),?_⟩
   have fin:∀ (H':Hp) (x:Int) (r:Addr),c8 H H'->HeldAt K A H' h s0->H' r=none->DM K A H h (s0,[x]) Q->Q (.ref r) (upd H' r (.lst [.int x])):=fun H' x r k1 h1 hr kk=>kk _ _ (k1.trans (aS hr)) (h1.same (ak hr)) IL.one;refine ⟨_,rfl,z,rfl,_,rfl,?_⟩;rcases r9 z with ⟨hz,e0⟩|⟨n,hn,rfl,e0⟩
   . rw [e0] at k;rw [decide_eq_false hz];exact aW (aW ⟨(by show 1<=sizeLine;decide),fun r hr=>fin H (-1) r (c8.refl _) hA hr k⟩)
   rw [e0] at k;dsimp only at k;rw [vh hn];unfold Ex.bT at k;refine aQ ⟨_,rfl,_,_,rfl,rfl,_,rfl,?_⟩;by_cases hm1:m<0
   . rw [decide_eq_true hm1];rw [if_neg (by omega)] at k;exact aW (aW ⟨(by show 1<=sizeLine;decide),fun r hr=>fin H (-1) r (c8.refl _) hA hr k⟩)
   rw [decide_eq_false hm1];refine aQ ⟨_,rfl,_,_,rfl,rfl,_,rfl,?_⟩;by_cases hm2:20<m
   . rw [decide_eq_true hm2];rw [if_neg (by omega)] at k;exact aW ⟨(by show 1<=sizeLine;decide),fun r hr=>fin H (-1) r (c8.refl _) hA hr k⟩
   rw [decide_eq_false hm2];rw [if_pos (by omega)] at k;dsimp only at k;refine aQ ?_;refine ⟨_,rfl,h,s0,rfl,hA,?_⟩;refine ⟨_,rfl,rfl,_,rfl,?_⟩;rw [cn];rcases j4 s0 with ⟨hz,e⟩|⟨hz,pt,oU,ic,e⟩
   . rw [e] at k;rw [decide_eq_false hz];exact aW ⟨_,rfl,(by show 1<=sizeLine;decide),fun r hr=>fin H _ r (c8.refl _) hA hr k⟩
   rw [e] at k;dsimp only at k;rw [decide_eq_true hz];refine aQ ?_;obtain ⟨p,d,hP⟩:=hA.p oU;have W:=valsOk ok ic;have li:=ok.ins;have lo:=ok.outs;obtain ⟨hpl,E6⟩:=ok.pt pt oU;obtain ⟨f1,f2⟩:=find_here ok n (Ex.aO pt [] s0.raws).1;rw [f1] at k;refine ⟨_,rfl,_,rfl,h,p,d,s0,pt,n,rfl,hP,ok,ic,hn,fun v1 H1 b1 xg hv1=>?_⟩;have k1:c8 H H1:=b1.keep hP.at_;refine ⟨_,rfl,rfl,_,rfl,?_⟩;cases ef:Ex.gp n (dS s0 (Ex.aO pt [] s0.raws).1) (Ex.bP s0 (Ex.aO pt [] s0.raws).1) s0.inputs with
   |
    none=>
    rw [ef] at k hv1;have hv1:v1=.non:=hv1;subst hv1;exact aW ⟨(by show 1<=sizeLine;decide),fun r hr=>fin H1 0 r k1 (xg.ji oU) hr k⟩
   |
    some ps=>
    obtain ⟨Im,nz⟩:=f2 ps ef;have KA:=GA ok W ef;rw [ef] at k hv1;have hv1:PL K H1 v1 ps:=hv1;rw [decide_eq_false (PL.nn hv1)];refine aQ ?_;have zr:=qb (s:=s0) W;have k:DM K A H h (match Ex.gB s0 pt (ps.map Ex.a_) (Ex.oO (Ex.bP s0 (Ex.aO pt [] s0.raws).1)) (m.toNat+1) 0 with
     |none=>(s0,[1])
     |some x=>Ex.gA s0 x.2.1 (Ex.bQ [2,(x.1:Int)] [Ex.oO (Ex.bP s0 (Ex.aO pt [] s0.raws).1),x.2.2])) Q:=k
    refine ⟨_,rfl,h,p,d,s0,pt,rfl,xg,ok,ic,fun v2 H2 s2 hv2=>?_⟩;refine ⟨_,_,2000,rfl,hv2,zr,(by rw [Ex.bH];omega),fun v3 H3 s3 zK=>?_⟩;have sA:=s2.trans s3;have vY:=xg.same sA;have k3:c8 H H3:=k1.trans (kp sA);refine ⟨_,rfl,_,rfl,_,rfl,_,rfl,h,p,d,s0,pt,_,_,ps,m.toNat,_,?_,vY,ok,oU,N5 (kp sA) hv1,Im,fun x hx=>⟨nz x hx,KA x hx⟩,(by omega),zK,(My zr).mono (gu (by rw [Ex.bH];omega)),fun c x Qv hw=>Fq ok ef Qv (by rw [<-Im];exact (List.getElem?_eq_some_iff.mp Qv).1) hw,fun en H4 s4=>?_,fun y ey t p2 d2 H4 s4 ht Ow Ur eq4 WU=>?_⟩
    . rw [show ((m.toNat:Nat):Int)=m by omega];rfl
    . rw [en] at k;refine ⟨_,rfl,rfl,_,rfl,aW ⟨(by show 1<=sizeLine;decide),fun r hr=>fin H4 1 r (k3.trans (kp s4)) ((vY.same s4).ji oU) hr k⟩⟩
    . rw [ey] at k;dsimp only at k;have Kf:=vY.same s4;have k4:c8 H H4:=k3.trans (kp s4);have W4:=valsOk ok Ur;have V_:=qb (s:=s0) W4;refine ⟨_,rfl,rfl,_,rfl,aQ ?_⟩;refine ⟨_,rfl,.inr ⟨_,_,_,_,rfl,rfl,ht,rfl,?_⟩⟩;refine ⟨_,rfl,.inr ⟨_,_,_,_,rfl,rfl,ht,rfl,?_⟩⟩;refine ⟨_,rfl,(by show 2<=sizeLine;decide),fun q hq=>?_⟩;have s5:=ak (o:=.lst [.int 2,.int (y.1:Nat)]) hq;refine ⟨_,rfl,_,rfl,_,rfl,h,p2,d2,s0,y.2.1,_,rfl,(Kf.same s5).held,Ow.same s5,ok,Ur,fun v6 H6 s6 Kz=>?_⟩;refine ⟨_,_,2000,rfl,Kz,V_,(by rw [Ex.bH];omega),fun v7 H7 s7 Td=>?_⟩;refine ⟨(by show 2<=sizeLine;decide),fun q2 hq2=>?_⟩;have s8:=ak (o:=.lst [v3,v7]) hq2;have sB:=s5.trans (s6.trans (s7.trans s8));rw [eq4] at k;refine ⟨_,_,[2,(y.1:Int)],[Ex.oO (Ex.bP s0 (Ex.aO pt [] s0.raws).1),Ex.oO (Ex.bP s0 (Ex.aO y.2.1 [] s0.raws).1)],rfl,IL.of (ns:=[2,(y.1:Int)]) ((s6.trans (s7.trans s8)) _ _ ao),⟨q2,_,rfl,ao,.cons (aL (kp (s4.trans sB)) zK) (.cons (aL (kp s8) Td) .nil)⟩,(by show 2<=10;decide),(by show 2<=100;decide),fun x H9 s9 hx=>?_⟩;have sC:=sB.trans s9;have Us:=Kf.same sC;have Ut:=Ow.same sC;have k9:c8 H H9:=k4.trans (kp sC);obtain ⟨xa,rfl,hxa⟩:=hx.at_;unfold Ex.gA at k;by_cases Uu:Ex.heavy 6000 [Ex.oO (Ex.bP s0 (Ex.aO pt [] s0.raws).1),Ex.oO (Ex.bP s0 (Ex.aO y.2.1 [] s0.raws).1)]=true
      . have et:Ex.bQ [2,(y.1:Int)] [Ex.oO (Ex.bP s0 (Ex.aO pt [] s0.raws).1),Ex.oO (Ex.bP s0 (Ex.aO y.2.1 [] s0.raws).1)]=[-6]:=by unfold Ex.bQ;rw [if_pos Uu]
        rw [et] at hxa k;have k:DM K A H h (s0,[-6]) Q:=by
         by_cases Mu:Ex.heavy 2000 y.2.1=true
         . rw [if_pos Mu] at k;exact k
         . rw [if_neg Mu,if_pos rfl] at k;exact k
        refine ⟨_,rfl,.inl ⟨_,_,_,_,rfl,rfl,aP.of hxa,rfl,rfl,_,rfl,aW (aW ⟨(by show 1<=sizeLine;decide),fun r hr=>fin H9 (-6) r k9 (Us.ji oU) hr k⟩)⟩⟩
      . have et:Ex.bQ [2,(y.1:Int)] [Ex.oO (Ex.bP s0 (Ex.aO pt [] s0.raws).1),Ex.oO (Ex.bP s0 (Ex.aO y.2.1 [] s0.raws).1)]=2::(y.1:Int)::Ex.jw [Ex.oO (Ex.bP s0 (Ex.aO pt [] s0.raws).1),Ex.oO (Ex.bP s0 (Ex.aO y.2.1 [] s0.raws).1)]:=by unfold Ex.bQ;rw [if_neg Uu];rfl
        rw [et] at hxa hx k;have hne:¬ (2::(y.1:Int)::Ex.jw [Ex.oO (Ex.bP s0 (Ex.aO pt [] s0.raws).1),Ex.oO (Ex.bP s0 (Ex.aO y.2.1 [] s0.raws).1)])=[-6]:=fun z=>by
         injection z with z _
         exact absurd z (by decide)
        rw [if_neg hne] at k;obtain ⟨Wa,WV,WW,WX,WY,Wb,r2,r3,r4,r5⟩:=Ut.ex;refine ⟨_,rfl,.inl ⟨_,_,_,.int 2,rfl,rfl,aP.of hxa,at_of (j:=0) rfl rfl,rfl,_,rfl,aQ ?_⟩⟩;refine ⟨_,rfl,p2,_,Wa,_,_,rfl,Wb,T.bN,T.dH,tY,_,y.2.1,rfl,r2,(by omega),fun RX A7=>⟨_,rfl,?_⟩⟩;have L1:=Us.same A7;have Uv:c8 H RX:=k9.trans (kp A7);cases eh:Ex.heavy 2000 y.2.1 with
        |
         true=>
         rw [if_pos eh] at k;exact aW ⟨(by show 1<=sizeLine;decide),fun r hr=>fin RX (-6) r Uv (L1.ji oU) hr k⟩
        |
         false=>
         rw [if_neg (by rw [eh];decide)] at k;refine aQ ?_;obtain ⟨Tj,WZ,Q_,Tn,_,_⟩:=L1.held.ex;refine ⟨_,rfl,h,Tj,_,rfl,Tn,yL (by decide +kernel) (by decide +kernel) (by decide +kernel) (by decide +kernel),_,rfl,?_⟩;refine ⟨h,s0,_,_,rfl,L1.held,fun Ql Tp kb=>?_⟩;obtain ⟨Tq,Qw⟩:=xh L1.held (Ut.same A7) Tp kb;exact ⟨_,rfl,k _ _ (Uv.trans Qw) Tq.pt (g_ ((kp A7).trans Qw) hx)⟩
end
end Pg
namespace Pg
open PySem PySem.Spec PyProof.Rows L2
noncomputable def del(H:Hp)(l:Addr):Hp:=fun b=>if b=l then none else H b
theorem DT{H:Hp}{l:Addr}:del H l l=none:=if_pos rfl
theorem n9{H:Hp}{l b:Addr}(h:b≠l):del H l b=H b:=if_neg h
theorem GB{H:Hp}{l:Addr}{o:HO}:upd (del H l) l o=upd H l o:=by
 funext b;unfold upd;by_cases h:b=l
 . rw [if_pos h,if_pos h]
 . rw [if_neg h,if_neg h,n9 h]
theorem Qx{B H1:Hp}{l:Addr}{o:HO}(hB:B l=none)(s:aH (upd B l o) H1):aH B (del H1 l):=fun b u e=>by
 have hn:=bg e hB;rw [n9 hn];exact s b u (by rw [aJ hn];exact e)
theorem Qy{B H1:Hp}{l:Addr}{o:HO}(hB:B l=none)(s:c8 (upd B l o) H1):c8 B (del H1 l):=fun b u e st=>by
 have hn:=bg e hB;rw [n9 hn];exact s b u (by rw [aJ hn];exact e) st
structure Fz{α:Type}(R:Hp->V->α->Prop):Prop where
 up:∀ {H:Hp} {l:Addr} {od:Obj} {acc:List V} {v:V} {x:α},H l=some (.n_ od (.lst acc))->R H v x->R (del H l) v x
section
variable {K:PySem.W.Frag}{H:Hp}{l a:Addr}{od:Obj}{acc xs:List V}
theorem GC(hl:H l=some (.n_ od (.lst acc)))(h:H a=some (.lst xs)):del H l a=some (.lst xs):=by
 rw [n9]
 . exact h
 . rintro rfl;rw [hl] at h;cases h
theorem GD(hl:H l=some (.n_ od (.lst acc)))(h:fG K H a xs):fG K (del H l) a xs:=by
 rcases h with (h|⟨ob,h⟩)|h
 . refine .inl (.inl ?_);rw [n9]
   . exact h
   . rintro rfl;rw [hl] at h;cases h
 . refine .inl (.inr ⟨ob,?_⟩);rw [n9]
   . exact h
   . rintro rfl;rw [hl] at h;cases h
 . exact .inr h
end
theorem Ft:Fz zE:=⟨fun _ h=>h⟩
theorem Ce{K:PySem.W.Frag}:Fz (qE K):=⟨fun hl ⟨a,e,h⟩=>⟨a,e,GD hl h⟩⟩
theorem Kq{K:PySem.W.Frag}:Fz (Fr K):=⟨fun hl h=>Ce.up hl h⟩
theorem Qz{K:PySem.W.Frag}:Fz (Pr K):=⟨fun hl h=>Ce.up hl h⟩
theorem Fz.ls{α:Type}{R:Hp->V->α->Prop}(m:Fz R):Fz (Ii R):=⟨fun hl ⟨a,vs,e,h,t⟩=>⟨a,vs,e,GC hl h,t.imp fun _ _ r=>m.up hl r⟩⟩
theorem Fz.opt{α:Type}{R:Hp->V->α->Prop}(m:Fz R):Fz (Cg R):=⟨fun {H l od acc v x} hl h=>by
 cases x with
 |none=>exact h
 |some x=>exact m.up hl h⟩
section
variable {P:Program}{w:World}{K:PySem.W.Frag}{mg:Str->Option Value}{base:Heap}{A:dP}
theorem fD.del{H:Hp}{l h:Addr}{od:Obj}{acc:List V}{s:Ex.SR}{qv:V}(hl:H l=some (.n_ od (.lst acc)))(a:fD K A H h s qv):fD K A (del H l) h s qv:=by
 obtain ⟨dx,l1,o,h1,h2,h3⟩:=a.ex;refine ⟨dx,l1,o,?_,Ce.ls.up hl h2,Ft.ls.up hl h3⟩;rw [n9]
 . exact h1
 . rintro rfl;rw [hl] at h1;cases h1
theorem dG.del{H:Hp}{l p d:Addr}{od:Obj}{acc:List V}{s:Ex.SR}{pt:List Rat}(hl:H l=some (.n_ od (.lst acc)))(a:dG K A H p d s pt):dG K A (del H l) p d s pt:=by
 obtain ⟨dx,vp,vl,vf,vt,h1,h2,h3,h4,h5⟩:=a.ex;obtain ⟨kvs,ks,g1,g2,g3,g4⟩:=a.steps.ex;refine ⟨⟨dx,vp,vl,vf,vt,?_,Kq.ls.up hl h2,Kq.ls.up hl h3,Ce.opt.up hl h4,h5.imp id fun z=>Kq.ls.ls.up hl z⟩,⟨kvs,ks,?_,g2,g3,fun k v e=>Qz.ls.opt.up hl (g4 k v e)⟩⟩
 . rw [n9]
   . exact h1
   . rintro rfl;rw [hl] at h1;cases h1
 . rw [n9]
   . exact g1
   . rintro rfl;rw [hl] at g1;cases g1
theorem HeldAt.del{H:Hp}{l h:Addr}{od:Obj}{acc:List V}{s:Ex.SR}(hl:H l=some (.n_ od (.lst acc)))(a:HeldAt K A H h s):HeldAt K A (del H l) h s:=by
 rcases a with ⟨e,a⟩|⟨pt,p,d,e,a⟩
 . exact .inl ⟨e,a.del hl⟩
 . exact .inr ⟨pt,p,d,e,a.held.del hl,a.at_.del hl⟩
noncomputable def ql(K:PySem.W.Frag)(A:dP):Sp:=fun vs H Q _=>∃ (h p:Addr) (s:Ex.SR) (C:Vagran.Call) (rs:List V),vs=[.ref h,.ref p]/\HeldAt K A H h s/\s.Ok/\Ex.ki C/\H p=some (.lst ((Ex.fN C).map V.int++rs))/\Al (IL H) rs (Ex.c_ C)/\DM K A H h (Ex.fL s C) Q
theorem yW(T:Txt K mg A)(D:Def K mg "answer_call" mD ["held","parts"])(kY:Has P w K mg base "answer_round" ["held","places"] 48 (oJ K A))(mO:Has P w K mg base "answer_code" ["held","inputs","numbers","outs"] 44 (qf K A))(kZ:Has P w K mg base "answer_point" ["held","numbers"] 48 (oE K A))(jj:Has P w K mg base "answer_results" ["held"] 44 (lR K A))(k7:Has P w K mg base "answer_table" ["held"] 47 (oF K A))(mP:Has P w K mg base "answer_step" ["held","kind"] 48 (qg K A))(mQ:Has P w K mg base "answer_take" ["held","kind","top","bottom"] 48 (qi K A))(jk:Has P w K mg base "answer_descend" ["held","kind","most_halvings"] 49 (lT K A))(k8:Has P w K mg base "answer_error" ["held","numbers"] 48 (oG K A))(k_:Has P w K mg base "answer_halve" ["held","result","many","numbers"] 50 (oH K A)):Has P w K mg base "answer_call" ["held","parts"] 51 (ql K A):=by
 refine D.has yd (fun vs H Q E h=>?_) (fun f cdv Ar outer s H vs Q E hr h=>?_)
 . obtain ⟨_,_,_,_,_,rfl,_⟩:=h;rfl
 . skip
   obtain ⟨h,p,s0,C,rs,rfl,hA,ok,as,hp,al,k⟩:=h;refine ⟨_,(ah (aM (aC cU (aD (az (K:=K) rfl) (pv 1) ay (fun _ _=>rfl)) (aX T.Ny) (aE _)) (au (aA (aG mO (hr.mono (by decide)) rfl (af (pv 0) (af (aD (az (K:=K) rfl) (pv 1) ay (fun _ _=>rfl)) (af (aD (az (K:=K) rfl) (pv 1) ay (fun _ _=>rfl)) (af (aD (az (K:=K) rfl) (pv 1) ay (fun _ _=>rfl)) ai)))))))
    aF)
    (ah (aM (aC cU (aD (az (K:=K) rfl) (pv 1) ay (fun _ _=>rfl)) (aX T.Lq) (aE _)) (au (aA (aG kZ (hr.mono (by decide)) rfl (af (pv 0) (af (aD (az (K:=K) rfl) (pv 1) ay (fun _ _=>rfl)) ai)))))
    aF)
    (ah (aM (aC cU (aD (az (K:=K) rfl) (pv 1) ay (fun _ _=>rfl)) (aX T.HC) (aE _)) (au (aA (aG jj (hr.mono (by decide)) rfl (af (pv 0) ai))))
    aF)
    (ah (aM (aC cU (aD (az (K:=K) rfl) (pv 1) ay (fun _ _=>rfl)) (aX T.Lr) (aE _)) (au (aA (aG k7 (hr.mono (by decide)) rfl (af (pv 0) ai))))
    aF)
    (ah (aM (aC cU (aD (az (K:=K) rfl) (pv 1) ay (fun _ _=>rfl)) (aX T.Nz) (aE _)) (au (aA (aG mP (hr.mono (by decide)) rfl (af (pv 0) (af (aD (az (K:=K) rfl) (pv 1) ay (fun _ _=>rfl)) ai)))))
    aF)
    (ah (aM (aC cU (aD (az (K:=K) rfl) (pv 1) ay (fun _ _=>rfl)) (aX T.NC) (aE _)) (au (aA (aG mQ (hr.mono (by decide)) rfl (af (pv 0) (af (aD (az (K:=K) rfl) (pv 1) ay (fun _ _=>rfl)) (af (aD (az (K:=K) rfl) (pv 1) ay (fun _ _=>rfl)) (af (aD (az (K:=K) rfl) (pv 1) ay (fun _ _=>rfl)) ai)))))))
    aF)
    (ah (aM (aC cU (aD (az (K:=K) rfl) (pv 1) ay (fun _ _=>rfl)) (aX T.HD) (aE _)) (au (aA (aG jk (hr.mono (by decide)) rfl (af (pv 0) (af (aD (az (K:=K) rfl) (pv 1) ay (fun _ _=>rfl)) (af (aD (az (K:=K) rfl) (pv 1) ay (fun _ _=>rfl)) ai))))))
    aF)
    (ah (aM (aC cU (aD (az (K:=K) rfl) (pv 1) ay (fun _ _=>rfl)) (aX T.Ls) (aE _)) (au (aA (aG k8 (hr.mono (by decide)) rfl (af (pv 0) (af (aD (az (K:=K) rfl) (pv 1) ay (fun _ _=>rfl)) ai)))))
    aF)
    (ah (aM (aC cU (aD (az (K:=K) rfl) (pv 1) ay (fun _ _=>rfl)) (aX T.Lu) (aE _)) (au (aA (aG k_ (hr.mono (by decide)) rfl (af (pv 0) (af (aD (az (K:=K) rfl) (pv 1) ay (fun _ _=>rfl)) (af (aD (az (K:=K) rfl) (pv 1) ay (fun _ _=>rfl)) (af (aD (az (K:=K) rfl) (pv 1) ay (fun _ _=>rfl)) ai)))))))
    aF)
    (au (aA (aG kY (hr.mono (by decide)) rfl (af (pv 0) (af (aD (az (K:=K) rfl) (pv 1) ay (fun _ _=>rfl)) ai)))))))))))))),?_⟩
   cases C with
   |
    code n l o=>
    cases al with
    |
     cons r1 t=>cases t with
     |
      cons r2 t=>cases t with
      |
       nil=>
       rename_i u v;have hp:H p=some (.lst [.int 0,.int n,u,v]):=hp;refine ⟨_,rfl,.inl ⟨_,_,_,.int 0,rfl,rfl,aP.of hp,at_of (j:=0) rfl rfl,rfl,_,rfl,aW ?_⟩⟩;refine ⟨_,rfl,_,rfl,.inl ⟨_,_,_,.int n,rfl,rfl,aP.of hp,at_of (j:=1) rfl rfl,?_⟩⟩;refine ⟨_,rfl,.inl ⟨_,_,_,u,rfl,rfl,aP.of hp,at_of (j:=2) rfl rfl,?_⟩⟩;refine ⟨_,rfl,.inl ⟨_,_,_,v,rfl,rfl,aP.of hp,at_of (j:=3) rfl rfl,?_⟩⟩;exact ⟨h,s0,n,u,v,l,o,rfl,hA,r1,r2,as.2.2.1,k⟩
   |
    point l=>
    cases al with
    |
     cons r1 t=>cases t with
     |
      nil=>
      rename_i u;have hp:H p=some (.lst [.int 1,u]):=hp;refine ⟨_,rfl,.inl ⟨_,_,_,.int 1,rfl,rfl,aP.of hp,at_of (j:=0) rfl rfl,rfl,_,rfl,aQ ?_⟩⟩;refine ⟨_,rfl,.inl ⟨_,_,_,.int 1,rfl,rfl,aP.of hp,at_of (j:=0) rfl rfl,rfl,_,rfl,aW ?_⟩⟩;refine ⟨_,rfl,_,rfl,.inl ⟨_,_,_,u,rfl,rfl,aP.of hp,at_of (j:=1) rfl rfl,?_⟩⟩;exact ⟨h,s0,u,l,rfl,hA,ok,r1,k⟩
   |
    results=>
    cases al;have hp:H p=some (.lst [.int 2]):=hp
    iterate 2 refine ⟨_,rfl,.inl ⟨_,_,_,.int 2,rfl,rfl,aP.of hp,at_of (j:=0) rfl rfl,rfl,_,rfl,aQ ?_⟩⟩
    refine ⟨_,rfl,.inl ⟨_,_,_,.int 2,rfl,rfl,aP.of hp,at_of (j:=0) rfl rfl,rfl,_,rfl,aW ?_⟩⟩;exact ⟨_,rfl,h,s0,rfl,hA,ok,k⟩
   |
    table=>
    cases al;have hp:H p=some (.lst [.int 3]):=hp
    iterate 3 refine ⟨_,rfl,.inl ⟨_,_,_,.int 3,rfl,rfl,aP.of hp,at_of (j:=0) rfl rfl,rfl,_,rfl,aQ ?_⟩⟩
    refine ⟨_,rfl,.inl ⟨_,_,_,.int 3,rfl,rfl,aP.of hp,at_of (j:=0) rfl rfl,rfl,_,rfl,aW ?_⟩⟩;exact ⟨_,rfl,h,s0,rfl,hA,ok,k⟩
   |
    step z=>
    cases al;have hp:H p=some (.lst [.int 4,.int z]):=hp
    iterate 4 refine ⟨_,rfl,.inl ⟨_,_,_,.int 4,rfl,rfl,aP.of hp,at_of (j:=0) rfl rfl,rfl,_,rfl,aQ ?_⟩⟩
    refine ⟨_,rfl,.inl ⟨_,_,_,.int 4,rfl,rfl,aP.of hp,at_of (j:=0) rfl rfl,rfl,_,rfl,aW ?_⟩⟩;refine ⟨_,rfl,_,rfl,.inl ⟨_,_,_,.int z,rfl,rfl,aP.of hp,at_of (j:=1) rfl rfl,?_⟩⟩;exact ⟨h,s0,z,rfl,hA,ok,k⟩
   |
    take z t b=>
    cases al;have hp:H p=some (.lst [.int 5,.int z,.int t,.int b]):=hp
    iterate 5 refine ⟨_,rfl,.inl ⟨_,_,_,.int 5,rfl,rfl,aP.of hp,at_of (j:=0) rfl rfl,rfl,_,rfl,aQ ?_⟩⟩
    refine ⟨_,rfl,.inl ⟨_,_,_,.int 5,rfl,rfl,aP.of hp,at_of (j:=0) rfl rfl,rfl,_,rfl,aW ?_⟩⟩;refine ⟨_,rfl,_,rfl,.inl ⟨_,_,_,.int z,rfl,rfl,aP.of hp,at_of (j:=1) rfl rfl,?_⟩⟩;refine ⟨_,rfl,.inl ⟨_,_,_,.int t,rfl,rfl,aP.of hp,at_of (j:=2) rfl rfl,?_⟩⟩;refine ⟨_,rfl,.inl ⟨_,_,_,.int b,rfl,rfl,aP.of hp,at_of (j:=3) rfl rfl,?_⟩⟩;exact ⟨h,s0,z,t,b,rfl,hA,ok,as,k⟩
   |
    descend z m=>
    cases al;have hp:H p=some (.lst [.int 6,.int z,.int m]):=hp
    iterate 6 refine ⟨_,rfl,.inl ⟨_,_,_,.int 6,rfl,rfl,aP.of hp,at_of (j:=0) rfl rfl,rfl,_,rfl,aQ ?_⟩⟩
    refine ⟨_,rfl,.inl ⟨_,_,_,.int 6,rfl,rfl,aP.of hp,at_of (j:=0) rfl rfl,rfl,_,rfl,aW ?_⟩⟩;refine ⟨_,rfl,_,rfl,.inl ⟨_,_,_,.int z,rfl,rfl,aP.of hp,at_of (j:=1) rfl rfl,?_⟩⟩;refine ⟨_,rfl,.inl ⟨_,_,_,.int m,rfl,rfl,aP.of hp,at_of (j:=2) rfl rfl,?_⟩⟩;exact ⟨h,s0,z,m,rfl,hA,ok,k⟩
   |
    error l=>
    cases al with
    |
     cons r1 t=>cases t with
     |
      nil=>
      rename_i u;have hp:H p=some (.lst [.int 7,u]):=hp
      iterate 7 refine ⟨_,rfl,.inl ⟨_,_,_,.int 7,rfl,rfl,aP.of hp,at_of (j:=0) rfl rfl,rfl,_,rfl,aQ ?_⟩⟩
      refine ⟨_,rfl,.inl ⟨_,_,_,.int 7,rfl,rfl,aP.of hp,at_of (j:=0) rfl rfl,rfl,_,rfl,aW ?_⟩⟩;refine ⟨_,rfl,_,rfl,.inl ⟨_,_,_,u,rfl,rfl,aP.of hp,at_of (j:=1) rfl rfl,?_⟩⟩;exact ⟨h,s0,u,l,rfl,hA,ok,r1,as.1,k⟩
   |
    halve i z l=>
    cases al with
    |
     cons r1 t=>cases t with
     |
      nil=>
      rename_i u;have hp:H p=some (.lst [.int 8,.int i,.int z,u]):=hp
      iterate 8 refine ⟨_,rfl,.inl ⟨_,_,_,.int 8,rfl,rfl,aP.of hp,at_of (j:=0) rfl rfl,rfl,_,rfl,aQ ?_⟩⟩
      refine ⟨_,rfl,.inl ⟨_,_,_,.int 8,rfl,rfl,aP.of hp,at_of (j:=0) rfl rfl,rfl,_,rfl,aW ?_⟩⟩;refine ⟨_,rfl,_,rfl,.inl ⟨_,_,_,.int i,rfl,rfl,aP.of hp,at_of (j:=1) rfl rfl,?_⟩⟩;refine ⟨_,rfl,.inl ⟨_,_,_,.int z,rfl,rfl,aP.of hp,at_of (j:=2) rfl rfl,?_⟩⟩;refine ⟨_,rfl,.inl ⟨_,_,_,u,rfl,rfl,aP.of hp,at_of (j:=3) rfl rfl,?_⟩⟩;exact ⟨h,s0,i,z,u,l,rfl,hA,ok,r1,as.2.1,k⟩
   |
    round z=>
    cases al;have hp:H p=some (.lst [.int 9,.int z]):=hp
    iterate 9 refine ⟨_,rfl,.inl ⟨_,_,_,.int 9,rfl,rfl,aP.of hp,at_of (j:=0) rfl rfl,rfl,_,rfl,aQ ?_⟩⟩
    refine ⟨_,rfl,_,rfl,.inl ⟨_,_,_,.int z,rfl,rfl,aP.of hp,at_of (j:=1) rfl rfl,?_⟩⟩;exact ⟨h,s0,z,rfl,hA,ok,k⟩
theorem Kr(T:Txt K mg A)(C:Vagran.Call):∃ (b:Addr) (xs:List V),xs.length=10/\xs[Ex.rF C]?=some (.ref b)/\∀ H,fG K H A.JI xs/\fG K H b [.int (((Ex.fN C).length:Int)-1),.int ((Ex.c_ C).length:Int)]:=by
 obtain ⟨ps,h1,h2⟩:=T.BE;have hn:=Ex.Gh C;have hlt:Ex.rF C<ps.length:=by omega
 refine ⟨ps[Ex.rF C],ps.map V.ref,by rw [List.length_map];exact h1,by rw [List.getElem?_map,List.getElem?_eq_getElem hlt];rfl,fun H=>⟨(h2 H).1,?_⟩⟩;exact (h2 H).2 _ _ (((Ex.fN C).length:Int)-1,((Ex.c_ C).length:Int)) (List.getElem?_eq_getElem hlt) (by cases C<;>rfl)
noncomputable def ug(K:PySem.W.Frag)(A:dP):Sp:=fun vs H Q _=>∃ (a:Addr) (ns rest:List Int) (i:Nat) (C:Vagran.Call),vs=[.ref a,.int i]/\aP K H a (ns.map V.int)/\ns.drop i=Ex.iz C++rest/\
 ∀ t p rs H',aH H H'->fG K H' t [.ref p,.int ((i+(Ex.iz C).length:Nat):Int)]->H' p=some (.lst ((Ex.fN C).map V.int++rs))->Al (IL H') rs (Ex.c_ C)->Q (.ref t) H'
theorem DU{ns:List Int}{i n:Nat}(h:i<=ns.length):qC (ns.map V.int) (some (i:Int)) (some (((i+n:Nat)):Int))=((ns.drop i).take n).map V.int:=by
 rw [show (((i+n:Nat)):Int)=(i:Int)+(n:Int) by omega,DB (by rw [List.length_map];exact h),<-List.map_drop,<-List.map_take]
theorem Cf(T:Txt K mg A)(D:Def K mg "read_call" pW ["calls","place"]) :Has P w K mg base "read_call" ["calls","place"] 41 (ug K A):=by
 refine D.has fk (fun vs H Q E h=>?_) (fun f cdv Ar outer s H vs Q E hr h=>?_)
 . obtain ⟨_,_,_,_,_,rfl,_⟩:=h;rfl
 . skip
   obtain ⟨a,ns,rest,i,C,rfl,ha,hd,k⟩:=h;obtain ⟨b,xs,Ml,H_,hF⟩:=Kr T C;obtain ⟨tl,hI⟩:=Ex.xZ C;have hn:=Ex.Gh C;have hz:ns[i]?=some (Ex.rF C:Int):=by
    have e:(ns.drop i)[0]?=some (Ex.rF C:Int):=by rw [hd,Ex.xY,hI];rfl
    rw [List.getElem?_drop] at e;exact e
   have hi:i<ns.length:=(List.getElem?_eq_some_iff.mp hz).1;rw [Ex.xY] at hd k;refine ⟨_,(ah (aI (i:=2) fk.nd rfl (Or.inl rfl) (aD (az (K:=K) rfl) (pv 0) (pv 1) (fun _ _=>rfl)))
    (ah (aM (PW.pt (ju (aC gX (pv 2) ay (aE _)) (ig (aC vz (pv 2) (bu (aY) (by rfl) T.gF bU (af (oz T.tF) ai)) (aE _))))) GK
    aF)
    (ah (aI (i:=3) fk.nd rfl (Or.inl rfl) (bC iU (bC iU (pv 1) ay) (aD (az (K:=K) rfl) (aD (az (K:=K) rfl) (oz T.tF) (pv 2) (fun _ _=>rfl)) ay (fun _ _=>rfl))))
    (ah (aI (i:=4) fk.nd rfl (Or.inl rfl) (mV (u5 (K:=K) rfl) (pv 0) (jR (pv 1)) (jR (pv 3))))
    (ah (eX PassesOwn.never rfl (f_ rfl T.jr (af (aD (az (K:=K) rfl) (aD (az (K:=K) rfl) (oz T.tF) (pv 2) (fun _ _=>rfl)) ay (fun _ _=>rfl)) ai)) (aN (i:=5) fk.nd rfl (Or.inl rfl))
    (ah (aI (i:=6) fk.nd rfl (Or.inl rfl) (bC iU (pv 3) ay))
    (ah (aI (i:=3) fk.nd rfl (Or.inl rfl) (bC iU (pv 6) (aD (az (K:=K) rfl) (pv 0) (pv 3) (fun _ _=>rfl))))
    (au (dD (lB PySem.F.plainAttrs_list PySem.F.slot_list_append PySem.F.type_list_append dX (pv 4) (af (mV (u5 (K:=K) rfl) (pv 0) (jR (pv 6)) (jR (pv 3))) ai)))))))
    (au (aA (gq (af (pv 4) (af (pv 3) ai)))))))))),?_⟩
   refine ⟨_,rfl,_,rfl,.inl ⟨_,_,_,_,rfl,rfl,ha,at_of (j:=i) rfl (gQ hz),?_⟩⟩;refine ⟨_,rfl,_,_,rfl,rfl,_,rfl,?_⟩;rw [decide_eq_false (by omega:¬ (Ex.rF C:Int)<0)];refine aQ ⟨_,rfl,_,_,rfl,.inr (hF H).1,_,_,rfl,rfl,_,rfl,?_⟩;rw [Ml,decide_eq_false (by omega:¬ ((10:Nat):Int)<=(Ex.rF C:Int))];refine aQ ?_;refine ⟨_,rfl,_,_,rfl,rfl,_,rfl,.inr ⟨_,_,_,_,rfl,rfl,(hF H).1,at_of (j:=Ex.rF C) rfl H_,.inr ⟨_,_,_,_,rfl,rfl,(hF H).2,at_of (j:=0) rfl rfl,_,_,rfl,rfl,?_⟩⟩⟩;have eB:(i:Int)+1+(((Ex.fN C).length:Int)-1)=((i+(Ex.fN C).length:Nat):Int):=by omega
   refine ⟨_,rfl,_,rfl,_,rfl,_,rfl,_,rfl,.inl ⟨_,_,rfl,ha,fun p hp=>?_⟩⟩;rw [eB,DU (by omega),hd,List.append_assoc,List.take_left];have s1:aH H (upd H p (.lst ((Ex.fN C).map V.int))):=ak hp;refine ⟨_,rfl,.inr ⟨_,_,_,_,rfl,rfl,(hF _).1,at_of (j:=Ex.rF C) rfl H_,.inr ⟨_,_,_,_,rfl,rfl,(hF _).2,at_of (j:=1) rfl rfl,?_⟩⟩⟩;have hrl:=Ex.Hw C;have e0:[some (V.ref a),some (.int i),some (.int (Ex.rF C)),some (.int ((i:Int)+1+(((Ex.fN C).length:Int)-1))),some (.ref p),none,none]=[some (.ref a),some (.int i),some (.int (Ex.rF C)),some (.int ((i+((Ex.fN C).length+(Ex.eY ((Ex.c_ C).take 0)).length):Nat):Int)),some (.ref p),none,none]:=by
    rw [eB];rfl
   refine ⟨_,rfl,(by omega),(by omega),kQ (n:=((Ex.c_ C).length:Int).toNat) (j:=5)
    (fun j σ H'=>∃ (o5 o6:Option V) (B:Hp) (rs:List V),σ=[some (.ref a),some (.int i),some (.int (Ex.rF C)),some (.int ((i+((Ex.fN C).length+(Ex.eY ((Ex.c_ C).take j)).length):Nat):Int)),some (.ref p),o5,o6]/\H'=upd B p (.lst ((Ex.fN C).map V.int++rs))/\B p=none/\aH H B/\Al (IL B) rs ((Ex.c_ C).take j))
    ⟨none,none,H,[],e0,by rw [List.append_nil],hp,aH.refl _,.nil⟩ ?_ ?_⟩
   . rintro j σ H' hj ⟨o5,o6,B,rs,rfl,rfl,hB,sB,al⟩;have hj:j<(Ex.c_ C).length:=by omega
     obtain ⟨r,hr1⟩:∃ r,(Ex.c_ C)[j]?=some r:=⟨_,List.getElem?_eq_getElem hj⟩
     have hR:Ex.c_ C=(Ex.c_ C).take j++(r::(Ex.c_ C).drop (j+1)):=by
      have e:=List.getElem?_eq_some_iff.mp hr1;rw [<-e.2,List.getElem_cons_drop,List.take_append_drop]
     have hm:ns.drop (i+((Ex.fN C).length+(Ex.eY ((Ex.c_ C).take j)).length))=(r.length:Int)::(r++(Ex.eY ((Ex.c_ C).drop (j+1))++rest)):=by
      have e:Ex.fN C++Ex.eY (Ex.c_ C)++rest=(Ex.fN C++Ex.eY ((Ex.c_ C).take j))++((r.length:Int)::(r++(Ex.eY ((Ex.c_ C).drop (j+1))++rest))):=by
       have e2:Ex.eY (Ex.c_ C)=Ex.eY ((Ex.c_ C).take j)++((r.length:Int)::(r++Ex.eY ((Ex.c_ C).drop (j+1)))):=by
        rw [<-Ex.EF,<-Ex.Hz,<-hR]
       rw [e2];simp only [List.append_assoc,List.cons_append]
      rw [<-List.drop_drop,hd,e,<-List.length_append,List.drop_left]
     have ht:(Ex.eY ((Ex.c_ C).take (j+1))).length=(Ex.eY ((Ex.c_ C).take j)).length+(1+r.length):=by
      rw [take_snoc hr1,Ex.EE,List.length_append,List.length_cons,Nat.add_comm 1]
     have hal:(Ex.c_ C).take (j+1)=(Ex.c_ C).take j++[r]:=take_snoc hr1;generalize em:i+((Ex.fN C).length+(Ex.eY ((Ex.c_ C).take j)).length)=m at *;have hm0:ns[m]?=some (r.length:Int):=by
      have e:(ns.drop m)[0]?=some (r.length:Int):=by rw [hm];rfl
      rw [List.getElem?_drop] at e;exact e
     have hml:m<ns.length:=(List.getElem?_eq_some_iff.mp hm0).1;have Tr:qC (ns.map V.int) (some ((m:Int)+1)) (some ((m:Int)+1+(r.length:Int)))=r.map V.int:=by
      rw [show (m:Int)+1+(r.length:Int)=((m+1+r.length:Nat):Int) by omega,show (m:Int)+1=((m+1:Nat):Int) by omega,DU (by omega),<-List.drop_drop,hm];show ((r++_).take r.length).map V.int=_;rw [List.take_left]
     have ha':aP K (upd B p (.lst ((Ex.fN C).map V.int++rs))) a (ns.map V.int):=(kp (sB.trans (ak hB))).JT ha;refine ⟨_,rfl,_,_,rfl,rfl,?_⟩;refine ⟨_,rfl,_,rfl,_,rfl,.inl ⟨_,_,_,_,rfl,rfl,ha',at_of (j:=m) rfl (gQ hm0),_,_,rfl,rfl,?_⟩⟩;refine ⟨_,rfl,.inl ⟨rfl,_,aP.of ao⟩,_,rfl,_,rfl,_,rfl,_,rfl,_,rfl,.inl ⟨_,_,rfl,ha',fun q hq=>?_⟩⟩;rw [Tr];have Tt:q≠p:=by
      rintro rfl;rw [ao] at hq;cases hq
     have Uw:B q=none:=by
      rw [aJ Tt] at hq;exact hq
     have hc:=Ex.Hx C;refine ⟨_,_,_,rfl,rfl,(aJ Tt.symm).trans ao,?_,?_⟩
     . have l1:=al.length;rw [List.length_take] at l1;rw [List.length_append,List.length_map];exact Nat.lt_of_le_of_lt (by omega:_<=10) (by decide)
     . refine ⟨some (.int (j:Nat)),some (.int ((m:Int)+1)),upd B q (.lst (r.map V.int)),rs++[.ref q],?_,?_,?_,?_,?_⟩
       . rw [show i+((Ex.fN C).length+(Ex.eY ((Ex.c_ C).take (j+1))).length)=m+1+r.length by omega];rfl
       . rw [List.append_assoc];funext c;unfold upd;by_cases h1:c=p
         . rw [if_pos h1,if_pos h1]
         . rw [if_neg h1,if_neg h1,if_neg h1]
       . rw [aJ Tt.symm];exact hB
       . exact sB.trans (ak Uw)
       . rw [hal];exact (jJ.ls.al (aS Uw) al).snoc (IL.of ao)
   . rintro σ H' ⟨o5,o6,B,rs,rfl,rfl,hB,sB,al⟩;rw [show (((Ex.c_ C).length:Int)).toNat=(Ex.c_ C).length by omega,List.take_length] at al ⊢;refine ⟨_,rfl,_,rfl,(by show 2<=sizeLine;decide),fun t ht=>?_⟩;have s2:aH (upd B p (.lst ((Ex.fN C).map V.int++rs))) _:=ak (o:=.tup [.ref p,.int ((i+((Ex.fN C).length+(Ex.eY (Ex.c_ C)).length):Nat):Int)]) ht;refine k t p rs _ ((sB.trans (ak hB)).trans s2) ?_ (s2 _ _ ao) (jJ.ls.al (kp ((ak hB).trans s2)) al);rw [List.length_append];exact fG.of ao
theorem Fv{f:Addr}{fd:FuncData}(T:Txt K mg A)(F:Ky K "answers" "answers" m6 f fd)(jN:EG P w K mg base A.jI "Held" ["self"] 41 (ni K A))(qm:Has P w K mg base "read_call" ["calls","place"] 41 (ug K A))(mR:Has P w K mg base "answer_call" ["held","parts"] 51 (ql K A)):nt P w K mg base Ih 52 f fd ["calls"] (rR K):=by
 refine F.ok gU (fun vs H Q E h=>?_) (fun cdv Ar outer s H vs Q E hr h=>?_)
 . obtain ⟨_,_,rfl,_⟩:=h;rfl
 . obtain ⟨a,ns,rfl,ha,hq,k⟩:=h;obtain ⟨Cs,e1,e2,e3,e4⟩:=Ex.due hq;rw [e4] at k;refine ⟨_,(ah (aI (i:=1) gU.nd rfl (Or.inl rfl) (Nt jN (hr.mono (by decide)) rfl))
    (ah (aI (i:=2) gU.nd rfl (Or.inl rfl) (aR ai))
    (ah (aI (i:=3) gU.nd rfl (Or.inl rfl) ay)
    (ah (sj PassesOwn.never (aC gX (pv 3) (bu (aY) (by rfl) T.gF bU (af (pv 0) ai)) (aE _)) (ah (aI (i:=4) gU.nd rfl (Or.inl rfl) (F0 (aG qm (hr.mono (by decide)) rfl (af (pv 0) (af (pv 3) ai)))))
    (ah (aI (i:=5) gU.nd rfl (Or.inl rfl) (F0 (aG mR (hr.mono (by decide)) rfl (af (pv 1) (af (aD (az (K:=K) rfl) (pv 4) ay (fun _ _=>rfl)) ai)))))
    (ah (dD (lB PySem.F.plainAttrs_list PySem.F.slot_list_append PySem.F.type_list_append dX (pv 2) (af (bu (aY) (by rfl) T.gF bU (af (pv 5) ai)) ai)))
    (ah (dD (lB PySem.F.plainAttrs_list PySem.F.slot_list_extend PySem.F.type_list_extend zZ (pv 2) (af (pv 5) ai)))
    (au (aI (i:=3) gU.nd rfl (Or.inl rfl) (aD (az (K:=K) rfl) (pv 4) ay (fun _ _=>rfl)))))))))
    (au (aA (pv 2))))))),?_⟩
   intro x dx hx hdx hne;have s0:aH H (upd (upd H dx (.own x)) x (.ins A.jI dx [])):=(ak hdx).trans (ak (by rw [aJ hne.symm];exact hx));refine ⟨x,dx,rfl,ao,fun H1 hF k1=>⟨rfl,?_⟩⟩;have s1:aH H H1:=fun b o hb=>k1 b o (s0 b o hb) (bg hb hx);refine ⟨Nat.zero_le _,fun l hl=>?_⟩;refine sr (fun σ H'=>∃ (o4 o5:Option V) (B:Hp) (acc:List Int) (left:List Vagran.Call) (s:Ex.SR),∃ i:Nat,σ=[some (.ref a),some (.ref x),some (.ref l),some (.int i),o4,o5]/\H'=upd B l (.lst (acc.map V.int))/\B l=none/\aP K B a (ns.map V.int)/\HeldAt K A B x s/\s.Ok/\
    i<=ns.length/\ns.drop i=left.flatMap Ex.iz/\(∀ C,C∈left->Ex.ki C)/\acc.length+61*left.length<=24400/\acc++PyFlat.told (Ex.vN s left)=PyFlat.told (Ex.vN Ex.SR.start Cs))
    (fun σ _=>match σ with | [_,_,_,some (.int i),_,_]=>ns.length-i.toNat|_=>0)
    ⟨none,none,H1,[],Cs,Ex.SR.start,0,rfl,rfl,hl,(kp s1).JT ha,.inl ⟨rfl,hF⟩,Ex.SR.Ok.start,Nat.zero_le _,e1,e3,by rw [List.length_nil];omega,rfl⟩ ?_ ?_
   . rintro σ H' ⟨o4,o5,B,acc,left,s,i,rfl,rfl,hB,hc,hA,ok,hi,hd,as,hlen,e⟩;have hc1:aP K (upd B l (.lst (acc.map V.int))) a (ns.map V.int):=(aS hB).JT hc;refine ⟨_,rfl,_,rfl,_,_,rfl,.inl hc1,_,_,rfl,rfl,_,rfl,?_⟩;rw [List.length_map];refine ny (fun hq=>?_) (fun hq=>?_)
     . have hq:(i:Int)<(ns.length:Int):=of_decide_eq_true hq;cases left with
       |
        nil=>
        have:(ns.drop i).length=0:=by rw [hd];rfl
        rw [List.length_drop] at this;omega
       |
        cons C left=>
        rw [List.flatMap_cons] at hd;refine ⟨l,_,ao,trivial,fun od=>?_⟩;rw [c6];have sB:aH B (upd B l (.n_ od (.lst (acc.map V.int)))):=ak hB;refine ⟨_,rfl,_,rfl,a,ns,left.flatMap Ex.iz,i,C,rfl,(kp sB).JT hc,hd,fun t p rs H2 s2 ht hp al=>⟨s2 _ _ ao,?_⟩⟩;have hz2:H2 l=some (.n_ od (.lst (acc.map V.int))):=s2 _ _ ao;rw [<-GB];have hB2:del H2 l l=none:=DT;have Ux:=GD hz2 ht;have hp2:=GC hz2 hp;have oV:Al (IL (del H2 l)) rs (Ex.c_ C):=al.imp fun _ _ r=>Ft.ls.up hz2 r;have N7:=Qx hB s2;generalize del H2 l=B2 at *;refine ⟨l,_,ao,trivial,fun Uy=>?_⟩;rw [c6];have s3:aH B2 (upd B2 l (.n_ Uy (.lst (acc.map V.int)))):=ak hB2;refine ⟨_,rfl,_,rfl,.inr ⟨_,_,_,.ref p,rfl,rfl,(kp s3).JS Ux,at_of (j:=0) rfl rfl,x,p,s,C,rs,rfl,hA.same (N7.trans s3),ok,as C List.mem_cons_self,s3 _ _ hp2,jJ.ls.al (kp s3) oV,fun u H3 k3 Wc QW=>⟨k3 _ _ ao trivial,?_⟩⟩⟩;have Uz:H3 l=some (.n_ Uy (.lst (acc.map V.int))):=k3 _ _ ao trivial;rw [<-GB];have Tu:del H3 l l=none:=DT;have Wd:=Wc.del Uz;have Wf:=Ft.ls.up Uz QW;have k4:=Qy hB2 k3;generalize del H3 l=B3 at *;have hal:=Ex.Dh ok C;have hok:=Ex.xR ok C;have e:acc++PyFlat.told ((Ex.fL s C).2::Ex.vN (Ex.fL s C).1 left)=PyFlat.told (Ex.vN Ex.SR.start Cs):=e;rw [Ex.Hy] at e;generalize Ex.fL s C=an at *;obtain ⟨ua,rfl,Tv⟩:=IL.at_ Wf;have QN:ua≠l:=bg Tv Tu;rw [List.length_cons] at hlen;refine ⟨_,rfl,.inl ⟨rfl,_,aP.of ao⟩,_,rfl,_,_,rfl,.inl (aP.of ((aJ QN).trans Tv)),_,_,_,rfl,rfl,ao,?_,?_⟩
        . rw [List.length_map];exact Nat.lt_of_le_of_lt (by omega:_<=24400) (by decide)
        rw [c6,List.length_map];refine ⟨_,rfl,.inl ⟨rfl,_,aP.of ao⟩,_,rfl,_,_,_,_,rfl,rfl,ao,(aJ QN).trans Tv,?_,?_⟩
        . rw [List.length_append,List.length_map,List.length_map];exact Nat.le_trans (by simp only [List.length_cons,List.length_nil];omega:_<=24400) (by decide)
        rw [c6];refine ⟨_,rfl,.inr ⟨_,_,_,.int ((i+(Ex.iz C).length:Nat):Int),rfl,rfl,(k4.trans (aS Tu)).JS Ux,at_of (j:=1) rfl rfl,?_⟩⟩;have hdl:(ns.drop i).length=(Ex.iz C).length+(left.flatMap Ex.iz).length:=by rw [hd,List.length_append]
        rw [List.length_drop] at hdl;have hpos:=Ex.AD C;refine ⟨⟨some (.ref t),some (.ref ua),B3,acc++((an.2.length:Int)::an.2),left,an.1,i+(Ex.iz C).length,rfl,?_,Tu,(k4.JT ((kp N7).JT hc)),Wd,hok,by omega,?_,fun C' Wg=>as C' (List.mem_cons_of_mem _ Wg),?_,?_⟩,?_⟩
        . congr 2;rw [List.map_append,List.map_cons,List.append_assoc];rfl
        . rw [<-List.drop_drop,hd,List.drop_left]
        . rw [List.length_append,List.length_cons];omega
        . rw [List.append_assoc];exact e
        . show ns.length-(((i+(Ex.iz C).length:Nat):Int)).toNat<ns.length-((i:Int)).toNat;omega
     . have hq:¬ (i:Int)<(ns.length:Int):=fun z=>hq (decide_eq_true z);have SM:(ns.drop i).length=0:=by rw [List.length_drop];omega
       cases left with
       |
        nil=>
        refine ⟨_,rfl,k _ l ?_⟩;rw [<-e,ao];show some (HO.lst (acc.map V.int))=some (HO.lst ((acc++[]).map V.int));rw [List.append_nil]
       |
        cons C left=>
        have hpos:=Ex.AD C;rw [hd,List.flatMap_cons,List.length_append] at SM;omega
   . rintro σ H' R R' hR ⟨v,e1,v2,e2,p,ys,e3,e4,i,j,e5,e6,c,e7,q⟩;exact ⟨v,e1,v2,e2,p,ys,e3,e4,i,j,e5,e6,c,e7,hR _ _ q⟩
end
end Pg
namespace Pg
open PySem PySem.Spec PyProof.Rows L2
noncomputable abbrev KOf{K:PySem.W.Frag}{h:Heap}(_:K.In h):PySem.W.Frag:=K
section
variable {K:PySem.W.Frag}{h:Heap}{mg:Str->Option Value}
noncomputable abbrev Rc(x qual:Str)(st:Stmt)(ps:List Str):Prop:=∀ (kV doc pm:Value) (an:Option Addr) (cdv ct:Value) (us:List Value),us.length=ps.length->bindArgs (PySem.W.fnOf x qual (lE st) (gK st) (aB st) .none kV doc pm an cdv ct) ⟨us,[]⟩=pure (ps.zip us)
theorem vq{x:Str}{st:Stmt}{ps:List Str}{f:Addr}{oc:Value}{od an:Option Addr}{osl:Array (Option Value)}{kV doc pm cdv ct:Value}(X:K.In h)(G:h.Ns mainGlobals mg)
 (a:PySem.W.nsIn K mainGlobals x=some (some (.ref f))) (l:K.lookup f=some ⟨oc,od,.func (PySem.W.fnOf x x (lE st) (gK st) (aB st) .none kV doc pm an cdv ct),osl⟩)
 (c:PySem.W.codeIn K cdv x=true) (k:PySem.W.keepIn K (.ref f)=true) (b:Rc x x st ps):Def K mg x st ps:=
 have F:=Ei (st:=st) l c k
 ⟨f,_,PySem.W.mg_of X G a,F,F.binds b⟩
theorem GF{C:Addr}{m qual:Str}{st:Stmt}{ps:List Str}{f:Addr}{oc:Value}{od an:Option Addr}{osl:Array (Option Value)}{kV doc pm cdv ct:Value}(cl:DW K C)
 (a:PySem.W.findIn K (.ref C) m=some (some (.ref f))) (i:PySem.W.isFn K (.ref f)=true) (l:K.lookup f=some ⟨oc,od,.func (PySem.W.fnOf m qual (lE st) (gK st) (aB st) .none kV doc pm an cdv ct),osl⟩)
 (c:PySem.W.codeIn K cdv qual=true) (k:PySem.W.keepIn K (.ref f)=true) (b:Rc m qual st ps):Br K C m qual st ps:=
 have F:=Ei (st:=st) l c k
 ⟨f,_,cl,⟨a,i,k⟩,F,F.binds b⟩
theorem GG{C:Addr}{x qual:Str}{st:Stmt}{ps:List Str}{f:Addr}{oc:Value}{od an:Option Addr}{osl:Array (Option Value)}{kV doc pm cdv ct:Value}(X:K.In h)(G:h.Ns mainGlobals mg)
 (mk:PySem.W.makesIn K C=true) (kc:PySem.W.keepIn K (.ref C)=true) (n:PySem.W.nsIn K mainGlobals x=some (some (.ref C)))
 (a:PySem.W.findIn K (.ref C) "__init__"=some (some (.ref f))) (i:PySem.W.isFn K (.ref f)=true) (l:K.lookup f=some ⟨oc,od,.func (PySem.W.fnOf "__init__" qual (lE st) (gK st) (aB st) .none kV doc pm an cdv ct),osl⟩)
 (c:PySem.W.codeIn K cdv qual=true) (k:PySem.W.keepIn K (.ref f)=true) (b:Rc "__init__" qual st ps):Bs K mg C x qual st ps:=
 have F:=Ei (st:=st) l c k
 ⟨f,_,⟨mk,a,i,kc⟩,PySem.W.mg_of X G n,F,F.binds b⟩
theorem int_mk{x:Str}{i:Int}{t:Tok}(X:K.In h)(G:h.Ns mainGlobals mg)(a:PySem.W.nsIn K mainGlobals x=some (some (.int i t))):∃ t,mg x=some (.int i t):=⟨t,PySem.W.mg_of X G a⟩
theorem lg{p:Addr}{xs:List V}{od:Option Addr}{its:Array Value}{n:Nat}{sl:Array (Option Value)}(l:K.lookup p=some ⟨.type "tuple",od,.seq its n,sl⟩)(hz:its.size<=sizeLine)(r:Vals xs its.toList):∀ H,fG K H p xs:=
 fun _=>.inr ⟨_,its,n,l,rfl,rfl,hz,r⟩
end
section
variable {P:List Value->Prop}
theorem Tw(h:∀ x0,P [x0]):∀ us:List Value,us.length=1->P us:=fun us hl=>match us,hl with | [_],_=>h _
theorem ln2(h:∀ x0 x1,P [x0,x1]):∀ us:List Value,us.length=2->P us:=fun us hl=>match us,hl with | [_,_],_=>h _ _
theorem Wh(h:∀ x0 x1 x2,P [x0,x1,x2]):∀ us:List Value,us.length=3->P us:=fun us hl=>match us,hl with | [_,_,_],_=>h _ _ _
theorem Tz(h:∀ x0 x1 x2 x3,P [x0,x1,x2,x3]):∀ us:List Value,us.length=4->P us:=fun us hl=>match us,hl with | [_,_,_,_],_=>h _ _ _ _
theorem Wi(h:∀ x0 x1 x2 x3 x4,P [x0,x1,x2,x3,x4]):∀ us:List Value,us.length=5->P us:=fun us hl=>match us,hl with | [_,_,_,_,_],_=>h _ _ _ _ _
theorem Wj(h:∀ x0 x1 x2 x3 x4 x5,P [x0,x1,x2,x3,x4,x5]):∀ us:List Value,us.length=6->P us:=fun us hl=>match us,hl with | [_,_,_,_,_,_],_=>h _ _ _ _ _ _
end
theorem Fw:Rc "answers" "answers" m6 ["calls"]:=fun _ _ _ _ _ _=>Tw fun _=>rfl
noncomputable abbrev Due(P:Program):Prop:=∀ (w:World) (K:PySem.W.Frag) (mg:Str->Option Value) (A:dP) (f:Addr) (fd:FuncData) (base:Heap),Txt K mg A->T8 K mg->Bs K mg A.Place "Place" "Place.__init__" gc ["self","point","line_values","fault"]->Bs K mg A.jI "Held" "Held.__init__" gO ["self"]->Br K A.jI "hold_code" "Held.hold_code" gf ["self","inputs","lines","outs"]->Br K A.jI "hold_place" "Held.hold_place" fP ["self","place"]->Ky K "answers" "answers" m6 f fd->nt P w K mg base Ih 60 f fd ["calls"] (rR K)
end Pg
namespace Pg
open PySem PySem.Spec PyProof.Rows L2
theorem due(P:Program):Due P:=fun w K mg A f fd base T D jl jO jm iO F=>by
 have bh:=tN (P:=P) (w:=w) (base:=base) T D.uW;have jL:=u6 (P:=P) (w:=w) (base:=base) T D.wG;have gg:=E2 (P:=P) (w:=w) (base:=base) T D.HJ;have iJ:=HR (P:=P) (w:=w) (base:=base) T D.JO gg bh;have e8:=wJ (P:=P) (w:=w) (base:=base) T D.yo jL gg;have fC:=HS (P:=P) (w:=w) (base:=base) T D.JN;have dw:=DA (P:=P) (w:=w) (base:=base) T D.ER;have dm:=Lz (P:=P) (w:=w) (base:=base) T D.ND bh;have gh:=JV (P:=P) (w:=w) (base:=base) T D.Lv dm dw;have cR:=JW (P:=P) (w:=w) (base:=base) T D.Lw bh;have u7:=LA (P:=P) (w:=w) (base:=base) T D.NF cR gg;have vo:=E3 (P:=P) (w:=w) (base:=base) T D.HG;have vn:=E4 (P:=P) (w:=w) (base:=base) T D.HH iJ;have bB:=tO (P:=P) (w:=w) (base:=base) T D.uU dm cR;have bZ:=tP (P:=P) (w:=w) (base:=base) T D.uX iJ;have mG:=yE (P:=P) (w:=w) (base:=base) T D.zo;have p8:=BU (P:=P) (w:=w) (base:=base) T D.Dr mG;have n6:=zF (P:=P) (w:=w) (base:=base) T D.BF p8;have r6:=DC (P:=P) (w:=w) (base:=base) T D.ES;have iL:=rV (P:=P) (w:=w) (base:=base) T D.tG dm gh cR u7;have nV:=zG (P:=P) (w:=w) (base:=base) T D.BK iL iJ dw;have AQ:=NN (P:=P) (w:=w) (base:=base) T D.Pu nV fC;have nW:=zI (P:=P) (w:=w) (base:=base) T D.BL u7 dw dm gh cR;have rZ:=DF (P:=P) (w:=w) (base:=base) T D.EW nW;have c5:=qF (P:=P) (w:=w) (base:=base) T D.rS dm cR;have gk:=E8 (P:=P) (w:=w) (base:=base) T D.HE;have f6:=oQ (P:=P) (w:=w) (base:=base) T D.pY bh;have p9:=BV (P:=P) (w:=w) (base:=base) T D.Ds;have nZ:=zL (P:=P) (w:=w) (base:=base) T D.BI f6 p9 dw;have jf:=tW (P:=P) (w:=w) (base:=base) T D.uZ;have u_:=E_ (P:=P) (w:=w) (base:=base) T D.HK;have cJ:=oR (P:=P) (w:=w) (base:=base) T D.p5 jf u_;have h_:=BY (P:=P) (w:=w) (base:=base) T D.Dv;have je:=tV (P:=P) (w:=w) (base:=base) T D.uY;have kT:=wK (P:=P) (w:=w) (base:=base) T D.yp je;have f7:=oS (P:=P) (w:=w) (base:=base) T D.pZ cJ h_ kT;have mJ:=yH (P:=P) (w:=w) (base:=base) T D.zy cJ h_;have qe:=BZ (P:=P) (w:=w) (base:=base) T D.Dy nZ f7 mJ;have fF:=yI (P:=P) (w:=w) (base:=base) T D.zu e8;have jg:=t7 (P:=P) (w:=w) (base:=base) T jl;have jN:=ve (P:=P) (w:=w) (base:=base) T jO;have jh:=t8 (P:=P) (w:=w) (base:=base) T jm;have bD:=rY (P:=P) (w:=w) (base:=base) T iO;have cG:=DK (P:=P) (w:=w) (base:=base) T D.ET AQ jg;have cB:=zO (P:=P) (w:=w) (base:=base) T D.BJ;have bE:=wL (P:=P) (w:=w) (base:=base) T D.yk cB;have cC:=zP (P:=P) (w:=w) (base:=base) T D.BG rZ;have eG:=B_ (P:=P) (w:=w) (base:=base) T D.Dt qe cC bE;have dc:=LX (P:=P) (w:=w) (base:=base) T D.NG fC;have gj:=zR (P:=P) (w:=w) (base:=base) T D.BH;have aV:=vg (P:=P) (w:=w) (base:=base) T D.wF;have bS:=wM (P:=P) (w:=w) (base:=base) T D.yl fC;have r8:=DL (P:=P) (w:=w) (base:=base) T D.EU;have kW:=wN (P:=P) (w:=w) (base:=base) T D.yu r6 r8;have mO:=yO (P:=P) (w:=w) (base:=base) T D.zB n6 kW jh;have kZ:=wO (P:=P) (w:=w) (base:=base) T D.yq bZ bD gj bS cG;have jj:=t_ (P:=P) (w:=w) (base:=base) T D.uV aV bE dc bB;have k7:=wQ (P:=P) (w:=w) (base:=base) T D.ym aV cC dc;have mP:=yP (P:=P) (w:=w) (base:=base) T D.zz aV eG fF c5 dc gk cC bE bB fC;have k8:=wR (P:=P) (w:=w) (base:=base) T D.yr bZ aV cG c5 dc cC bE gh dm cB;have jM:=vj (P:=P) (w:=w) (base:=base) T D.wH;have gW:=DQ (P:=P) (w:=w) (base:=base) T D.EV AQ;have yR:=Ib (P:=P) (w:=w) (base:=base) T D.JP dc cR gW dm;have vm:=Fi (P:=P) (w:=w) (base:=base) T D.HL gW yR dc;have k_:=wU (P:=P) (w:=w) (base:=base) T D.yw bZ jM vm;have r_:=DR (P:=P) (w:=w) (base:=base) T D.EX e8;have mQ:=yT (P:=P) (w:=w) (base:=base) T D.zC aV eG r_ bD cG gj gk bS;have mL:=yV (P:=P) (w:=w) (base:=base) T D.zD fF cG vo cR dm bB cB;have jk:=uf (P:=P) (w:=w) (base:=base) T D.u0 aV eG bB mL dc bD bE gk bS cB;have kY:=wV (P:=P) (w:=w) (base:=base) T D.yt bD dc vn bS cG gh;have qm:=Cf (P:=P) (w:=w) (base:=base) T D.Du;have mR:=yW (P:=P) (w:=w) (base:=base) T D.zA kY mO kZ jj k7 mP mQ jk k8 k_;exact (Fv T F jN qm mR).mono (by decide)
end Pg
open Pg PySem PySem.Spec PyProof.Rows L2 PySem.W
namespace PySem.W.Fast
theorem tw8554054034383998476:True:=trivial
theorem tw423275990305582304:True:=trivial
theorem tw11984824794979396055:True:=trivial
theorem tw16461612990743086068:True:=trivial
theorem tw7593857736558099515:True:=trivial
theorem tw2459545161014403095:True:=trivial
theorem tw3985061563334015269:True:=trivial
theorem tw1649891856834121665:True:=trivial
theorem tw12996895743787526624:True:=trivial
theorem tw8428540076279294599:True:=trivial
theorem tw9211697900087063795:True:=trivial
theorem tw3808588456811109801:True:=trivial
theorem tw15097695875178625433:True:=trivial
theorem tw9877596742155933381:True:=trivial
theorem tw7786223031179147197:True:=trivial
theorem tw15442016882563520657:True:=trivial
theorem tw5694426073969415264:True:=trivial
theorem tw8346792969017758104:True:=trivial
theorem tw13936240913778188622:True:=trivial
theorem tw12324289735919998855:True:=trivial
theorem tw2522085951751672595:True:=trivial
theorem tw5201611511955654304:True:=trivial
theorem tw14227169007371281019:True:=trivial
theorem tw15243589840534680133:True:=trivial
theorem tw237903198694075424:True:=trivial
theorem tw18194969291124330899:True:=trivial
theorem tw15119781048403995901:True:=trivial
theorem tw17207284928594730778:True:=trivial
theorem tw6257233341677899842:True:=trivial
theorem tw5501096222912383341:True:=trivial
theorem tw12724790454633790605:True:=trivial
theorem tw12597399248006722336:True:=trivial
theorem tw6317223862589158064:True:=trivial
theorem tw527309616007096973:True:=trivial
theorem tw12906417368335599704:True:=trivial
theorem tw14386939502582720675:True:=trivial
theorem tw132494652525433240:True:=trivial
theorem tw13395240071994827805:True:=trivial
theorem tw4092722787335019363:True:=trivial
theorem tw12443414190093837935:True:=trivial
theorem tw10309815011194592240:True:=trivial
theorem tw1438531713591220134:True:=trivial
theorem tw10247401446469354263:True:=trivial
theorem tw7536831266342848635:True:=trivial
theorem tw3305354564305142582:True:=trivial
theorem tw14437608667018016122:True:=trivial
theorem tw13038521144655062213:True:=trivial
theorem tw5997513730606888278:True:=trivial
theorem tw13480747364440752564:True:=trivial
theorem tw179101523960783768:True:=trivial
theorem tw15208352666066662199:True:=trivial
theorem tw16019272257793795476:True:=trivial
theorem tw11352896509490201153:True:=trivial
theorem tw7272823096594872767:True:=trivial
theorem tw12204232838213219678:True:=trivial
theorem tw12689705395523872403:True:=trivial
theorem tw16442617478007443731:True:=trivial
theorem tw17850076853829269158:True:=trivial
theorem tw634686985047372598:True:=trivial
theorem tw6202441469450307165:True:=trivial
theorem tw11862935241769726002:True:=trivial
theorem tw5215319209504603636:True:=trivial
theorem tw15787849632080669002:True:=trivial
theorem tw14770960245900389171:True:=trivial
theorem tw9957381520940116667:True:=trivial
theorem tw17202041147483445235:True:=trivial
theorem tw7411640830853777310:True:=trivial
theorem tw14976866644123753928:True:=trivial
theorem tw17643383923601417612:True:=trivial
theorem tw13976304869101716786:True:=trivial
theorem tw16415698325839498398:True:=trivial
theorem tw14716449650409680870:True:=trivial
theorem tw11928283136426352062:True:=trivial
theorem tw186178264471402574:True:=trivial
theorem tw2330703008830420130:True:=trivial
theorem tw16953404942720927983:True:=trivial
theorem tw11400246790436215945:True:=trivial
theorem tw4291809338622838943:True:=trivial
theorem tw8616337409673249748:True:=trivial
theorem tw4296400077495794554:True:=trivial
theorem tw6129633331031498035:True:=trivial
theorem tw10021537657906316666:True:=trivial
theorem tw10279495001911568347:True:=trivial
theorem tw17399371631263417882:True:=trivial
theorem tw17972224119628843328:True:=trivial
theorem tw13315468085424049440:True:=trivial
theorem tw417870986166979095:True:=trivial
theorem tw11961013778206818834:True:=trivial
theorem tw4608851588509493193:True:=trivial
theorem tw15081103554938007393:True:=trivial
theorem tw16263129754470033600:True:=trivial
theorem tw4038688178023047343:True:=trivial
theorem tw11844245196488752732:True:=trivial
theorem tw6457983624802566251:True:=trivial
theorem tw815506482720266515:True:=trivial
theorem tw6775242841990675101:True:=trivial
theorem tw2568184344469992544:True:=trivial
theorem tw4278377495918049728:True:=trivial
theorem tw977120205433540499:True:=trivial
theorem tw112173119558784992:True:=trivial
theorem tw14357680251393624363:True:=trivial
theorem tw1869765272695911744:True:=trivial
theorem tw17457536099050876731:True:=trivial
theorem tw9891497492793155138:True:=trivial
theorem tw14088076016071253963:True:=trivial
theorem tw5158401060054602185:True:=trivial
theorem tw9421580093953196405:True:=trivial
theorem tw8865876823914753087:True:=trivial
theorem tw10576063222522479985:True:=trivial
theorem tw823682026141797874:True:=trivial
theorem tw5043658200642453856:True:=trivial
theorem tw17154806767302167882:True:=trivial
theorem tw2109698120121324105:True:=trivial
theorem tw10883577938572518437:True:=trivial
theorem tw13522438655604676948:True:=trivial
theorem tw4800839251748753902:True:=trivial
theorem tw6934977846721978421:True:=trivial
theorem tw14151063761012017149:True:=trivial
theorem tw3945993974841260108:True:=trivial
theorem tw5264932216162679990:True:=trivial
theorem tw3456631869609101905:True:=trivial
theorem tw5926517016496642848:True:=trivial
theorem tw176074148059848042:True:=trivial
theorem tw8304928715033834582:True:=trivial
theorem tw419150512593436503:True:=trivial
theorem tw4435455906391643455:True:=trivial
theorem tw954295379376717210:True:=trivial
theorem tw15666659301622722915:True:=trivial
theorem tw9963849354302596648:True:=trivial
theorem tw14519929731364423456:True:=trivial
theorem tw14119489430679425036:True:=trivial
theorem tw14772587510988598342:True:=trivial
theorem tw1965500439471862081:True:=trivial
theorem tw10253616542120056005:True:=trivial
theorem tw16006336129970758953:True:=trivial
theorem tw12521620857026647886:True:=trivial
theorem tw3359034676241807641:True:=trivial
theorem tw4986086846812498265:True:=trivial
theorem tw14128390450476015192:True:=trivial
theorem tw16971542846249468747:True:=trivial
theorem tw16113256208453536357:True:=trivial
theorem tw11586819581119683540:True:=trivial
theorem tw12929496926743430290:True:=trivial
theorem tw13077154268200131977:True:=trivial
theorem tw7802727844272156371:True:=trivial
theorem tw542602717603855828:True:=trivial
theorem tw8389264181376263907:True:=trivial
theorem tw8329534991475602448:True:=trivial
theorem tw11284351894705904834:True:=trivial
theorem tw15706119209926518243:True:=trivial
theorem tw9852276992578418574:True:=trivial
theorem tw10223721094845848916:True:=trivial
theorem tw14276971022910926242:True:=trivial
theorem tw10547922575624747321:True:=trivial
theorem tw2796157130298377560:True:=trivial
theorem tw12542569167468542098:True:=trivial
theorem tw17895573490834674024:True:=trivial
theorem tw826966240883627184:True:=trivial
theorem tw12036945004908355601:True:=trivial
theorem tw15897251192212559863:True:=trivial
theorem tw15487537444668328164:True:=trivial
theorem tw18429182505588809609:True:=trivial
theorem tw3370933626046062045:True:=trivial
theorem tw13281257610224572075:True:=trivial
theorem tw9501485317450328755:True:=trivial
theorem tw17242822273363432278:True:=trivial
theorem tw13601160001836332929:True:=trivial
theorem tw3741069788408221889:True:=trivial
theorem tw15819092638155835855:True:=trivial
theorem tw15596202673268404418:True:=trivial
theorem tw10595279015292991727:True:=trivial
theorem tw11220590134212206881:True:=trivial
theorem tw17331129816879935661:True:=trivial
theorem tw7966575758614497712:True:=trivial
theorem tw440489328002915908:True:=trivial
theorem tw8568775898345606676:True:=trivial
theorem tw3382308472397413485:True:=trivial
theorem tw10421182305919289564:True:=trivial
theorem tw8680753221661587631:True:=trivial
theorem tw14341239093815530758:True:=trivial
theorem tw5431887380724444046:True:=trivial
theorem tw14293343702561452476:True:=trivial
theorem tw2397266431210381239:True:=trivial
theorem tw9364491734480158594:True:=trivial
theorem tw11883325150878794552:True:=trivial
theorem tw12019317905642519806:True:=trivial
theorem tw3174675748256198516:True:=trivial
theorem tw8283356517078870280:True:=trivial
theorem tw1614071582414926927:True:=trivial
theorem tw4960182048744835290:True:=trivial
theorem tw15426469791726009479:True:=trivial
theorem tw4574852687721849016:True:=trivial
theorem tw5120879127042800184:True:=trivial
theorem tw13398152754811626353:True:=trivial
theorem tw14024970230044519065:True:=trivial
theorem tw318146997433731133:True:=trivial
theorem tw10451618397147479872:True:=trivial
theorem tw8576217670799336784:True:=trivial
theorem tw6559586772946011563:True:=trivial
theorem tw15951128472051240192:True:=trivial
theorem tw6188292590770086173:True:=trivial
theorem tw11893627925568937686:True:=trivial
theorem tw1683687888485641101:True:=trivial
theorem tw3152251279323976935:True:=trivial
theorem tw16351795001795077607:True:=trivial
theorem tw14824992832027688590:True:=trivial
theorem tw1250620078112408700:True:=trivial
theorem tw2267140135532903196:True:=trivial
theorem tw1130877044412372610:True:=trivial
theorem tw5769696874777794357:True:=trivial
theorem tw13530929177220721207:True:=trivial
theorem tw14121441026587880921:True:=trivial
theorem tw5625395179394720505:True:=trivial
theorem tw11485737591962484816:True:=trivial
theorem tw7886049087673666183:True:=trivial
theorem tw4082510675902833155:True:=trivial
theorem tw11117442233781263828:True:=trivial
theorem tw10512722319549336327:True:=trivial
theorem tw15997088937159822928:True:=trivial
theorem tw4580360041570030065:True:=trivial
theorem tw13201240646958929749:True:=trivial
theorem tw17489556136491576013:True:=trivial
theorem tw15828213022920386995:True:=trivial
theorem tw13703984579878796318:True:=trivial
theorem tw1428210424157934875:True:=trivial
theorem tw15444802520831776037:True:=trivial
theorem tw2453144174776479685:True:=trivial
theorem tw17529607529041910157:True:=trivial
theorem tw3583210389903050157:True:=trivial
theorem tw8518177102576634858:True:=trivial
theorem tw4003561536142614408:True:=trivial
theorem tw3397977481998824771:True:=trivial
theorem tw13095838707877413047:True:=trivial
theorem tw6107802323060180124:True:=trivial
theorem tw14879132702608998213:True:=trivial
theorem tw3810786111214033248:True:=trivial
theorem tw15747947614350200518:True:=trivial
theorem tw2170520996178392291:True:=trivial
theorem tw11127976993813003233:True:=trivial
theorem tw11802811253211500409:True:=trivial
theorem tw1510950386901019609:True:=trivial
theorem tw11578827817396996389:True:=trivial
theorem tw2230575600723083927:True:=trivial
theorem tw15988225914621402475:True:=trivial
theorem tw3671508777962825573:True:=trivial
theorem tw6924469739743906403:True:=trivial
theorem tw6605595993430375605:True:=trivial
theorem tw5974781318312719025:True:=trivial
theorem tw67296916435224650:True:=trivial
theorem tw6239256929122960213:True:=trivial
theorem tw15636790419975812697:True:=trivial
theorem tw1897457021117409929:True:=trivial
theorem tw15509515400170904715:True:=trivial
theorem tw10784241422601027285:True:=trivial
theorem tw15181300428029277321:True:=trivial
theorem tw7131675653175370406:True:=trivial
theorem tw5068780804489189752:True:=trivial
theorem tw332641457280156829:True:=trivial
theorem tw16008134533846975912:True:=trivial
theorem tw3579752461608793966:True:=trivial
theorem tw15866672421736790424:True:=trivial
theorem tw17805389921865965086:True:=trivial
theorem tw606931905597197578:True:=trivial
theorem tw18366078934305985556:True:=trivial
theorem tw13093039244308882571:True:=trivial
theorem tw9252368175210651016:True:=trivial
theorem tw17781545387281798589:True:=trivial
theorem tw7952714489902111689:True:=trivial
theorem tw9692057997776348253:True:=trivial
theorem tw10114946774685996235:True:=trivial
theorem tw3401560313208896671:True:=trivial
theorem tw10074740229327013921:True:=trivial
theorem tw1295376956920848292:True:=trivial
theorem tw5784359215689210114:True:=trivial
theorem tw2404185648807926521:True:=trivial
theorem tw2858610772638801382:True:=trivial
theorem tw10654599352059258305:True:=trivial
theorem tw12650943239093247196:True:=trivial
theorem tw14099502619994921098:True:=trivial
theorem tw46692368708818424:True:=trivial
theorem tw15820991339635986055:True:=trivial
theorem tw16576735631232068623:True:=trivial
theorem tw2446190556666238926:True:=trivial
theorem tw2991602115544633225:True:=trivial
theorem tw12804093155822875787:True:=trivial
theorem tw15082524362757964386:True:=trivial
theorem tw2500570905828595745:True:=trivial
theorem tw14078395991354335424:True:=trivial
theorem tw12310564389938739224:True:=trivial
theorem tw3517004548398856804:True:=trivial
theorem tw7112278632471408899:True:=trivial
theorem tw12704905691856982229:True:=trivial
theorem tw9540665009676608101:True:=trivial
theorem tw13077213647440109004:True:=trivial
theorem tw902139931970831875:True:=trivial
theorem tw17856209624336780093:True:=trivial
theorem tw16071537882411158884:True:=trivial
theorem tw17028216030765326720:True:=trivial
theorem tw5542723310371055569:True:=trivial
theorem tw14619785814385059473:True:=trivial
theorem tw1707794171130674355:True:=trivial
theorem tw1792359824099563273:True:=trivial
theorem tw3595748154029822584:True:=trivial
theorem tw3637356095603119365:True:=trivial
theorem tw15989617344653321746:True:=trivial
theorem tw9588502587114317961:True:=trivial
theorem tw18026966482841010589:True:=trivial
theorem tw8768862902980184795:True:=trivial
theorem tw5486244418885496033:True:=trivial
theorem tw3934295477670813486:True:=trivial
theorem tw7891032549459042300:True:=trivial
theorem tw4455936023701065215:True:=trivial
theorem tw2017769500359631556:True:=trivial
theorem tw1935024181538098230:True:=trivial
theorem tw536924518663576599:True:=trivial
theorem tw2944782744285007746:True:=trivial
theorem tw18371268032081471314:True:=trivial
theorem tw18272666802014487011:True:=trivial
theorem tw17909488733830138721:True:=trivial
theorem tw1482384361623505014:True:=trivial
theorem tw6527646087869685889:True:=trivial
theorem tw11565115144768185556:True:=trivial
theorem tw1290509720581473251:True:=trivial
theorem tw17561832168618645225:True:=trivial
theorem tw4760633893168938197:True:=trivial
theorem tw1753649601117078919:True:=trivial
theorem tw7258099202383905838:True:=trivial
end PySem.W.Fast
set_option maxRecDepth 100000 in
set_option maxHeartbeats 0 in
theorem PySem.Challenge.cw_exactstep_s01_answers_holds : PySem.Challenge.rw_exactstep_s01_answers.Holds := by
 w_on;k_headS;(case hw=>exact ⟨[.list [.int 2]],by decide +kernel,by decide +kernel⟩)
 k_fillS
 refine L2.Eh (r:=PySem.Challenge.rw_exactstep_s01_answers) (k:=60) (CX:=L2.Ih) (ps:=["calls"]) (sp:=rR) (by decide +kernel) (by decide +kernel) rfl rfl rfl ⟨rfl,by decide,by decide⟩ (fun w h Y=>PySem.W.kIn_of Y) ?F ?S (fun _ _ _ _ z=>z)
 case F=>
  intro w mg fa h Y KX G hmg;obtain ⟨N8,ye,yg⟩:∃ a,mg "ZERO"=some (.ref a)/\∀ H,fG (KOf KX) H a [.int 0,.int 1]:=by
   dsimp only [KOf];refine' ⟨_,PySem.W.mg_of KX G ?n,lg ?l ?z ?v⟩
   (case n=>k_is);(case l=>k_is);(case z=>show 2<=sizeLine;decide);(case v=>exact .cons ⟨_,rfl⟩ (.cons ⟨_,rfl⟩ (.nil)))
  obtain ⟨QA,JK,JL⟩:∃ a,mg "ONE"=some (.ref a)/\∀ H,fG (KOf KX) H a [.int 1,.int 1]:=by
   dsimp only [KOf];refine' ⟨_,PySem.W.mg_of KX G ?n,lg ?l ?z ?v⟩
   (case n=>k_is);(case l=>k_is);(case z=>show 2<=sizeLine;decide);(case v=>exact .cons ⟨_,rfl⟩ (.cons ⟨_,rfl⟩ (.nil)))
  obtain ⟨N9,BA,EO⟩:∃ a,mg "HALF"=some (.ref a)/\∀ H,fG (KOf KX) H a [.int 1,.int 2]:=by
   dsimp only [KOf];refine' ⟨_,PySem.W.mg_of KX G ?n,lg ?l ?z ?v⟩
   (case n=>k_is);(case l=>k_is);(case z=>show 2<=sizeLine;decide);(case v=>exact .cons ⟨_,rfl⟩ (.cons ⟨_,rfl⟩ (.nil)))
  obtain ⟨Ic,m7,uS⟩:∃ a,mg "LENGTHS"=some (.ref a)/\∀ H,fG (KOf KX) H a [.int 2,.int 3,.int 3,.int 3,.int 3,.int 3,.int 2]:=by
   dsimp only [KOf];refine' ⟨_,PySem.W.mg_of KX G ?n,lg ?l ?z ?v⟩
   (case n=>k_is);(case l=>k_is);(case z=>show 7<=sizeLine;decide);(case v=>exact .cons ⟨_,rfl⟩ (.cons ⟨_,rfl⟩ (.cons ⟨_,rfl⟩ (.cons ⟨_,rfl⟩ (.cons ⟨_,rfl⟩ (.cons ⟨_,rfl⟩ (.cons ⟨_,rfl⟩ (.nil))))))))
  obtain ⟨L3,b0,b1,b2,b3,b4,b5,b6,b7,b8,b9,tF,BE,Wk,Wl,Wm,Wn,Wo,Wq,Wr,Ws,Wt,Wu⟩:∃ a b0 b1 b2 b3 b4 b5 b6 b7 b8 b9,mg "FORMS"=some (.ref a)/\(∀ H,fG (KOf KX) H a [.ref b0,.ref b1,.ref b2,.ref b3,.ref b4,.ref b5,.ref b6,.ref b7,.ref b8,.ref b9])/\(∀ H,fG (KOf KX) H b0 [.int 1,.int 2])/\(∀ H,fG (KOf KX) H b1 [.int 0,.int 1])/\(∀ H,fG (KOf KX) H b2 [.int 0,.int 0])/\(∀ H,fG (KOf KX) H b3 [.int 0,.int 0])/\(∀ H,fG (KOf KX) H b4 [.int 1,.int 0])/\(∀ H,fG (KOf KX) H b5 [.int 3,.int 0])/\(∀ H,fG (KOf KX) H b6 [.int 2,.int 0])/\(∀ H,fG (KOf KX) H b7 [.int 0,.int 1])/\(∀ H,fG (KOf KX) H b8 [.int 2,.int 1])/\(∀ H,fG (KOf KX) H b9 [.int 1,.int 0]):=by
   dsimp only [KOf];refine' ⟨_,_,_,_,_,_,_,_,_,_,_,PySem.W.mg_of KX G ?n,lg ?l ?z ?v,lg ?l0 ?z0 ?v0,lg ?l1 ?z1 ?v1,lg ?l2 ?z2 ?v2,lg ?l3 ?z3 ?v3,lg ?l4 ?z4 ?v4,lg ?l5 ?z5 ?v5,lg ?l6 ?z6 ?v6,lg ?l7 ?z7 ?v7,lg ?l8 ?z8 ?v8,lg ?l9 ?z9 ?v9⟩
   (case n=>k_is);(case l=>k_is);(case z=>show 10<=sizeLine;decide);(case v=>exact .cons rfl (.cons rfl (.cons rfl (.cons rfl (.cons rfl (.cons rfl (.cons rfl (.cons rfl (.cons rfl (.cons rfl (.nil)))))))))))
   (case l0=>k_is);(case z0=>show 2<=sizeLine;decide);(case v0=>exact .cons ⟨_,rfl⟩ (.cons ⟨_,rfl⟩ (.nil)))
   (case l1=>k_is);(case z1=>show 2<=sizeLine;decide);(case v1=>exact .cons ⟨_,rfl⟩ (.cons ⟨_,rfl⟩ (.nil)))
   (case l2=>k_is);(case z2=>show 2<=sizeLine;decide);(case v2=>exact .cons ⟨_,rfl⟩ (.cons ⟨_,rfl⟩ (.nil)))
   (case l3=>k_is);(case z3=>show 2<=sizeLine;decide);(case v3=>exact .cons ⟨_,rfl⟩ (.cons ⟨_,rfl⟩ (.nil)))
   (case l4=>k_is);(case z4=>show 2<=sizeLine;decide);(case v4=>exact .cons ⟨_,rfl⟩ (.cons ⟨_,rfl⟩ (.nil)))
   (case l5=>k_is);(case z5=>show 2<=sizeLine;decide);(case v5=>exact .cons ⟨_,rfl⟩ (.cons ⟨_,rfl⟩ (.nil)))
   (case l6=>k_is);(case z6=>show 2<=sizeLine;decide);(case v6=>exact .cons ⟨_,rfl⟩ (.cons ⟨_,rfl⟩ (.nil)))
   (case l7=>k_is);(case z7=>show 2<=sizeLine;decide);(case v7=>exact .cons ⟨_,rfl⟩ (.cons ⟨_,rfl⟩ (.nil)))
   (case l8=>k_is);(case z8=>show 2<=sizeLine;decide);(case v8=>exact .cons ⟨_,rfl⟩ (.cons ⟨_,rfl⟩ (.nil)))
   (case l9=>k_is);(case z9=>show 2<=sizeLine;decide);(case v9=>exact .cons ⟨_,rfl⟩ (.cons ⟨_,rfl⟩ (.nil)))
  obtain ⟨L4,bN,dH,dz,dI,eO,eT,jl⟩:∃ C,DW (KOf KX) C/\dF (KOf KX) C "point"/\dF (KOf KX) C "line_values"/\dF (KOf KX) C "fault"/\dF (KOf KX) C "table"/\dF (KOf KX) C "steps"/\Bs (KOf KX) mg C "Place" "Place.__init__" gc ["self","point","line_values","fault"]:=by
   dsimp only [KOf];refine' ⟨_,⟨?pg,?hd,?po,?sa⟩,?f0,?f1,?f2,?f3,?f4,GG KX G ?mk ?kc ?n ?a ?i ?l ?c ?k (fun _ _ _ _ _ _=>Tz fun _ _ _ _=>rfl)⟩
   (case n=>k_is);(case pg=>k_is);(case hd=>k_is);(case po=>k_is);(case sa=>k_is);(case f0=>show PySem.W.findIn _ _ _=some none;k_is);(case f1=>show PySem.W.findIn _ _ _=some none;k_is);(case f2=>show PySem.W.findIn _ _ _=some none;k_is);(case f3=>show PySem.W.findIn _ _ _=some none;k_is);(case f4=>show PySem.W.findIn _ _ _=some none;k_is);(case mk=>k_is);(case kc=>k_is);(case a=>k_is);(case i=>k_is);(case l=>k_is);(case c=>k_is);(case k=>k_is)
  obtain ⟨N_,bz,cN,fm,d9,bA,jO,jm,iO⟩:∃ C,DW (KOf KX) C/\dF (KOf KX) C "inputs"/\dF (KOf KX) C "lines"/\dF (KOf KX) C "outs"/\dF (KOf KX) C "place"/\Bs (KOf KX) mg C "Held" "Held.__init__" gO ["self"]/\Br (KOf KX) C "hold_code" "Held.hold_code" gf ["self","inputs","lines","outs"]/\Br (KOf KX) C "hold_place" "Held.hold_place" fP ["self","place"]:=by
   dsimp only [KOf];refine' ⟨_,⟨?pg,?hd,?po,?sa⟩,?f0,?f1,?f2,?f3,GG KX G ?mk ?kc ?n ?a ?i ?l ?c ?k (fun _ _ _ _ _ _=>Tw fun _=>rfl),GF ⟨?Wv,?hd0,?Ww,?QX⟩ ?a0 ?i0 ?l0 ?c0 ?k0 (fun _ _ _ _ _ _=>Tz fun _ _ _ _=>rfl),GF ⟨?Wx,?hd1,?Wy,?Wz⟩ ?a1 ?i1 ?l1 ?c1 ?k1 (fun _ _ _ _ _ _=>ln2 fun _ _=>rfl)⟩
   (case n=>k_is);(case pg=>k_is);(case hd=>k_is);(case po=>k_is);(case sa=>k_is);(case f0=>show PySem.W.findIn _ _ _=some none;k_is);(case f1=>show PySem.W.findIn _ _ _=some none;k_is);(case f2=>show PySem.W.findIn _ _ _=some none;k_is);(case f3=>show PySem.W.findIn _ _ _=some none;k_is);(case mk=>k_is);(case kc=>k_is);(case a=>k_is);(case i=>k_is);(case l=>k_is);(case c=>k_is);(case k=>k_is);(case Wv=>k_is);(case hd0=>k_is);(case Ww=>k_is);(case QX=>k_is);(case a0=>k_is);(case i0=>k_is);(case l0=>k_is);(case c0=>k_is);(case k0=>k_is);(case Wx=>k_is);(case hd1=>k_is);(case Wy=>k_is);(case Wz=>k_is);(case a1=>k_is);(case i1=>k_is);(case l1=>k_is);(case c1=>k_is);(case k1=>k_is)
  have D:T8 (KOf KX) mg:=by
   dsimp only [KOf];constructor
   iterate 16 (refine' vq KX G ?a ?l ?c ?k (fun _ _ _ _ _ _=>Tw fun _=>rfl);(case a=>k_is);(case l=>k_is);(case c=>k_is);(case k=>k_is))
   iterate 31 (refine' vq KX G ?a ?l ?c ?k (fun _ _ _ _ _ _=>ln2 fun _ _=>rfl);(case a=>k_is);(case l=>k_is);(case c=>k_is);(case k=>k_is))
   iterate 10 (refine' vq KX G ?a ?l ?c ?k (fun _ _ _ _ _ _=>Wh fun _ _ _=>rfl);(case a=>k_is);(case l=>k_is);(case c=>k_is);(case k=>k_is))
   iterate 9 (refine' vq KX G ?a ?l ?c ?k (fun _ _ _ _ _ _=>Tz fun _ _ _ _=>rfl);(case a=>k_is);(case l=>k_is);(case c=>k_is);(case k=>k_is))
   iterate 2 (refine' vq KX G ?a ?l ?c ?k (fun _ _ _ _ _ _=>Wi fun _ _ _ _ _=>rfl);(case a=>k_is);(case l=>k_is);(case c=>k_is);(case k=>k_is))
   iterate 1 (refine' vq KX G ?a ?l ?c ?k (fun _ _ _ _ _ _=>Wj fun _ _ _ _ _ _=>rfl);(case a=>k_is);(case l=>k_is);(case c=>k_is);(case k=>k_is))
  have T:Txt (KOf KX) mg ⟨N8,QA,N9,Ic,L3,L4,N_⟩:=by
   refine' ⟨?_,?_,?_,?_,?_,?_,?_,?_,?_,?_,?_,?_,ye,yg,JK,JL,BA,EO,?_,?_,?_,?_,?_,?_,?_,?_,m7,uS,?_,?_,?_,?_,?_,?_,?_,?_,?_,?_,?_,?_,?_,?_,?_,?_,?_,?_,?_,?_,?_,?_,?_,?_,?_,?_,?_,?_,?_,?_,tF,⟨[b0,b1,b2,b3,b4,b5,b6,b7,b8,b9],rfl,fun H=>⟨BE H,fun i p f hp hf=>by match i,hp,hf with|0,hp,hf=>(cases hp;cases hf;exact Wk H)|1,hp,hf=>(cases hp;cases hf;exact Wl H)|2,hp,hf=>(cases hp;cases hf;exact Wm H)|3,hp,hf=>(cases hp;cases hf;exact Wn H)|4,hp,hf=>(cases hp;cases hf;exact Wo H)|5,hp,hf=>(cases hp;cases hf;exact Wq H)|6,hp,hf=>(cases hp;cases hf;exact Wr H)|7,hp,hf=>(cases hp;cases hf;exact Ws H)|8,hp,hf=>(cases hp;cases hf;exact Wt H)|9,hp,hf=>(cases hp;cases hf;exact Wu H)|n+10,hp,_=>cases hp⟩⟩,bN,dH,dz,dI,eO,eT,bz,cN,fm,d9,bA⟩
   iterate 12 (refine' PySem.W.mg_none_of KX G ?n;(case n=>k_is))
   iterate 38 (refine' int_mk KX G ?n;(case n=>k_is))
  obtain ⟨f,fd,hf,F,hb⟩:=D.HF.ex;have e0:=hmg.symm.trans hf;cases e0;have F2:=F;obtain ⟨oc,od,kV,doc,pm,an,cdv,ct,osl,rfl,lk,hcd⟩:=F2.ex;exact ⟨_,fun s us hu=>.of_eq (Fw kV doc pm an cdv ct us hu),fun base _ _=>Pg.due _ w _ mg _ _ _ base T D jl jO jm iO F⟩
 case S=>
  intro K H xs a hO hwi TF hx;cases hx with
  |
   cons h1 h2=>
   cases h2;cases h1 with
   |
    lst hs ha=>
    have e:=L2.F3 a.1 _ ha;subst e;exact ⟨_,a.1,rfl,hs,TF,fun H' p hp=>.lst (L2.aP.of hp) (L2.F1 _)⟩
