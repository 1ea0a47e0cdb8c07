import PyProof.Rows.All
import Wide.All
import OpenK.AllK
import Wide.FinOn
import PyProof.EqAt
import PyProof.EqKinds
import PyProof.TupleCall
import KE.BitLaws
import Open.SpecLaws
import KE.OsHead
import KE.OsGo
import PySem.Challenge.RW_foldedstrand_s01_answers
set_option Elab.async false
set_option linter.all false
set_option maxRecDepth 100000
set_option maxHeartbeats 4000000
section
namespace L2
open PySem PySem.Spec PyProof.Rows
abbrev Key:=Sum Int Str
def keyIs:Key->Value->Bool
 |.inl k,v=>Value.isInt k v
 |.inr x,v=>Value.isStrOf x v
def keyH(w:World):Key->Int
 |.inl k=>hashInt k
 |.inr x=>hashStr w x
theorem bD:∀{k:Key} {v:Value},keyIs k v=true->(∃i t,k=Sum.inl i/\v=Value.int i t)\/(∃x t,k=Sum.inr x/\v=Value.str x t)
 |.inl i,v,h=>by
  obtain⟨t,e⟩:=Value.isInt_shape (k:=i) (v:=v) h
  exact .inl ⟨i,t,rfl,e⟩
 |.inr x,v,h=>by
  obtain⟨t,e⟩:=Value.isStrOf_shape (x:=x) (v:=v) h
  exact .inr ⟨x,t,rfl,e⟩
theorem pK(i:Int)(t:Tok):keyIs (.inl i) (.int i t)=true:=by simp [keyIs,Value.isInt]
theorem pZ(x:Str)(t:Tok):keyIs (.inr x) (.str x t)=true:=by simp [keyIs,Value.isStrOf]
theorem vk(a b:Int):decide ((Sum.inl a:Key)=Sum.inl b)=(a==b):=by
 by_cases e:a=b
 ·subst e;simp
 ·have h:¬(Sum.inl a:Key)=Sum.inl b:=fun q=>e (Sum.inl.inj q)
  rw [decide_eq_false h]
  exact (beq_eq_false_iff_ne.mpr e).symm
theorem vg(a b:Str):decide ((Sum.inr a:Key)=Sum.inr b)=decide (a=b):=by
 by_cases e:a=b
 ·subst e;simp
 ·have h:¬(Sum.inr a:Key)=Sum.inr b:=fun q=>e (Sum.inr.inj q)
  rw [decide_eq_false h,decide_eq_false e]
theorem ve(a:Int)(b:Str):decide ((Sum.inl a:Key)=Sum.inr b)=false:=decide_eq_false (fun q=>nomatch q)
theorem uW(a:Str)(b:Int):decide ((Sum.inr a:Key)=Sum.inl b)=false:=decide_eq_false (fun q=>nomatch q)
def mixKind(prog:Program)(w:World):PySem.KeyKind prog w Key where
 is:=keyIs
 hash:=keyH w
 inj:=fun v a b ha hb=>by
  rcases bD ha with⟨i,t,rfl,rfl⟩|⟨x,t,rfl,rfl⟩
  ·rcases bD hb with⟨j,u,rfl,e⟩|⟨y,u,rfl,e⟩
   ·injection e with e1 _;rw [e1]
   ·exact nomatch e
  ·rcases bD hb with⟨j,u,rfl,e⟩|⟨y,u,rfl,e⟩
   ·exact nomatch e
   ·injection e with e1 _;rw [e1]
 byValue:=fun k v h=>by
  rcases bD h with⟨i,t,rfl,rfl⟩|⟨x,t,rfl,rfl⟩ <;> rfl
 pyHash:=fun hv h=>by
  rcases bD hv with⟨i,t,rfl,rfl⟩|⟨x,t,rfl,rfl⟩
  ·exact wpAny_pyHash_int h
  ·exact wpAny_pyHash_str h
 eqBool:=fun hu hv h=>by
  rcases bD hu with⟨i,t,rfl,rfl⟩|⟨x,t,rfl,rfl⟩
  ·rcases bD hv with⟨j,u,rfl,rfl⟩|⟨y,u,rfl,rfl⟩
   ·rw [vk] at h;exact wpAny_eqBool_int h
   ·rw [ve] at h;exact SeqAt.EqAt.int_str i t y u _ _ _ _ h
  ·rcases bD hv with⟨j,u,rfl,rfl⟩|⟨y,u,rfl,rfl⟩
   ·rw [uW] at h;exact SeqAt.EqAt.str_int x t j u _ _ _ _ h
   ·rw [vg] at h;exact wpAny_eqBool_str h
 «strs»:=fun k x t v h=>by
  rcases bD h with⟨i,u,rfl,e⟩|⟨y,u,rfl,e⟩
  ·exact nomatch e
  ·injection e with e1 _
   subst e1
   cases v <;> rfl
theorem eE(prog:Program)(w:World)(i:Int)(t:Tok):(mixKind prog w).is (.inl i) (.int i t)=true:=pK i t
theorem lS(prog:Program)(w:World)(x:Str)(t:Tok):(mixKind prog w).is (.inr x) (.str x t)=true:=pZ x t
end L2
namespace L2
open PySem PySem.Spec PyProof.Rows
inductive V where
 |non |bl (b:Bool)|int (i:Int)|str (x:Str)|byt (b:Array UInt8)|flt (b:UInt64)|ref (a:Addr)|ty (n:String)
 deriving DecidableEq
def RelV:V->Value->Prop
 |.non,u=>u=Value.none
 |.bl b,u=>u=Value.bool b
 |.int i,u=>∃t,u=Value.int i t
 |.str x,u=>∃t,u=Value.str x t
 |.byt b,u=>∃t,u=Value.bytes b t
 |.flt b,u=>∃t,u=Value.float b t
 |.ref a,u=>u=Value.ref a
 |.ty n,u=>u=Value.type n
abbrev Vals:List V->List Value->Prop:=Paired RelV
theorem Vals.length{xs:List V}{us:List Value}(r:Vals xs us):xs.length=us.length:=Paired.length r
theorem Vals.get:∀{xs:List V} {us:List Value} {i:Nat} {x:V},Vals xs us->xs[i]?=some x->∃u,us[i]?=some u/\RelV x u
 |_,_,_,_,.nil,e=>by simp at e
 |_,_,0,_,.cons r _,e=>by simp at e;subst e;exact⟨_,rfl,r⟩
 |_,_,i+1,x,.cons _ t,e=>by
  obtain⟨u,h1,h2⟩:=Vals.get (i:=i) (x:=x) t (by simpa using e)
  exact⟨u,by simpa using h1,h2⟩
theorem Vals.set{x:V}{u:Value}(r:RelV x u):∀{xs:List V} {us:List Value} (i:Nat),Vals xs us->Vals (xs.set i x) (us.set i u)
 |_,_,_,.nil=>.nil
 |_,_,0,.cons _ t=>.cons r t
 |_,_,i+1,.cons q t=>.cons q (Vals.set r i t)
theorem Vals.append:∀{xs ys:List V} {us ws:List Value},Vals xs us->Vals ys ws->Vals (xs++ys) (us++ws)
 |_,_,_,_,.nil,s=>s
 |_,_,_,_,.cons r t,s=>.cons r (Vals.append t s)
theorem Vals.take:∀{xs:List V} {us:List Value} (n:Nat),Vals xs us->Vals (xs.take n) (us.take n)
 |_,_,0,_=>.nil
 |_,_,_+1,.nil=>.nil
 |_,_,n+1,.cons r t=>.cons r (Vals.take n t)
theorem Vals.drop:∀{xs:List V} {us:List Value} (n:Nat),Vals xs us->Vals (xs.drop n) (us.drop n)
 |_,_,0,r=>r
 |_,_,_+1,.nil=>.nil
 |_,_,n+1,.cons _ t=>Vals.drop n t
def RelO:Option V->Option Value->Prop
 |some v,some u=>RelV v u
 |none,none=>True
 |_,_=>False
def KV{κ:Type}:List (κ × V)->List (κ × Value)->Prop:=Paired fun (p:κ × V) (q:κ × Value)=>p.1=q.1/\RelV p.2 q.2
def kV:Key->V
 |.inl i=>.int i
 |.inr x=>.str x
inductive HO where
 |lst (xs:List V)
 |tup (xs:List V)
 |dK (kvs:List (Key × V))|dT (kvs:List (List Key × V))
 |set (S:Int->Bool) (n:Nat)
 |ins (C dx:Addr) (fs:List (Str × V))
 |own (x:Addr)
 |xd (fs:List (Str × V))
 |met (f x:Addr)
 |rng (lo hi:Int)
 |frz (o:Obj) (u:HO)
 |tbl (ps:Array Value)
 |ext (φ:Heap->Prop)
abbrev Hp:=Addr->Option HO
def upd(H:Hp)(a:Addr)(o:HO):Hp:=fun b=>if b=a then some o else H b
theorem ae{H:Hp}{a:Addr}{o:HO}:upd H a o a=some o:=by unfold upd;rw [if_pos rfl]
theorem aM{H:Hp}{a b:Addr}{o:HO}(h:b≠a):upd H a o b=H b:=by unfold upd;rw [if_neg h]
theorem aD{H:Hp}{a b:Addr}{o:HO}(h:H a=some o)(h':H b=none):a≠b:=by
 intro e;subst e;rw [h] at h';cases h'
section
variable (P:Program)(w:World)
def ObjOk(H:Hp)(h:Heap)(a:Addr):HO->Prop
 |.lst xs=>xs.length<=sizeLine/\∃(its:List Value) (n:Nat),Vals xs its/\h.get? a=some {cls:=.type "list",data:=.seq its.toArray n}
 |.tup xs=>xs.length<=sizeLine/\∃its:List Value,Vals xs its/\IsTup h a its.toArray
 |.dK kvs=>kvs.length<=sizeLine/\(a==sysModules)=false/\∃vs,KV kvs vs/\h.DictOf (mixKind P w) a vs
 |.dT kvs=>kvs.length<=sizeLine/\(a==sysModules)=false/\∃xs:List (List Key × Addr × Value),
   Paired (fun (p:List Key × V) (q:List Key × Addr × Value)=>p.1=q.1/\H q.2.1=some (.tup (p.1.map kV))/\RelV p.2 q.2.2) kvs xs/\
   ∃o es ep,h.get? a=some o/\o.ExactDict/\o.data=.dict es ep/\es.toList=xs.map (entryOfKey (tupleKind (mixKind P w)))/\(xs.map (·.1)).Nodup
 |.set S n=>h.SetOf (intKind P w) a S n
 |.ins C dx fs=>H dx=some (.own a)/\fs.length<=1000/\dx≠a/\h.get? a=some (PySem.W.instObj C dx)/\
   ∃mA,h.Ns1 dx mA/\(∀f,RelO (fs.lookup f) (mA f))/\PySem.Within mA (fs.map (·.1))
 |.own _=>∃o,h.get? a=some o
 |.xd fs=>∃mA,h.Ns1 a mA/\∀f,RelO (fs.lookup f) (mA f)
 |.rng lo hi=>∃t u v,h.get? a=some {cls:=.type "range",data:=.fields #[.int lo t,.int hi u,.int 1 v]}
 |.frz o u=>h.get? a=some o/\ObjOk H h a u
 |.tbl ps=>h.get? a=some {cls:=.none,data:=.fields ps}
 |.met f x=>h.get? a=some (PySem.W.methodObj (.ref f) (.ref x))
 |.ext φ=>φ h/\(∃o,h.get? a=some o)/\∀h1 h2:Heap,φ h1->(∀o,h1.get? a=some o->h2.get? a=some o)->φ h2
def HOk(H:Hp)(h:Heap):Prop:=∀a o,H a=some o->ObjOk P w H h a o
end
section
variable {P:Program}{w:World}{H H':Hp}{h h':Heap}{a:Addr}{o:HO}
theorem ObjOk.lt(x:ObjOk P w H h a o):a<h.objs.size:=by
 cases o with
 |lst xs=>obtain⟨_,_,_,_,e⟩:=x;exact Heap.lt_size e
 |tup xs=>obtain⟨_,_,_,p⟩:=x;exact p.lt
 |dK kvs=>obtain⟨_,_,_,_,o,_,_,e,_⟩:=x;exact Heap.lt_size e
 |dT kvs=>obtain⟨_,_,_,_,o,_,_,e,_⟩:=x;exact Heap.lt_size e
 |set S n=>obtain⟨o,_,_,_,e,_⟩:=x;exact Heap.lt_size e
 |ins C dx fs=>obtain⟨_,_,_,e,_⟩:=x;exact Heap.lt_size e
 |own y=>obtain⟨_,e⟩:=x;exact Heap.lt_size e
 |xd fs=>obtain⟨_,⟨_,_,_,e,_⟩,_⟩:=x;exact Heap.lt_size e
 |rng lo hi=>obtain⟨_,_,_,e⟩:=x;exact Heap.lt_size e
 |frz ob u=>obtain⟨e,_⟩:=x;exact Heap.lt_size e
 |tbl ps=>exact Heap.lt_size (show h.get? a=some _ from x)
 |met f y=>exact Heap.lt_size (show h.get? a=some _ from x)
 |ext φ=>obtain⟨_,⟨_,e⟩,_⟩:=x;exact Heap.lt_size e
theorem Paired.mapP{α β:Type}{F G:α->β->Prop}:∀{l₁:List α} {l₂:List β},Paired F l₁ l₂->(∀a b,F a b->G a b)->Paired G l₁ l₂
 |_,_,.nil,_=>.nil
 |_,_,.cons r t,f=>.cons (f _ _ r) (Paired.mapP t f)
theorem ObjOk.stay(x:ObjOk P w H h a o)(k:∀b u,(b=a\/H b=some (.own a))->h.get? b=some u->h'.get? b=some u)
  (ho:∀b,H b=some (.own a)->H' b=some (.own a)) (ht:∀b xs,H b=some (.tup xs)->H' b=some (.tup xs)):ObjOk P w H' h' a o:=by
 induction o with
 |lst xs=>obtain⟨z,its,n,r,e⟩:=x;exact⟨z,its,n,r,k _ _ (.inl rfl) e⟩
 |tup xs=>obtain⟨z,its,r,ob,e,c⟩:=x;exact⟨z,its,r,ob,k _ _ (.inl rfl) e,c⟩
 |dK kvs=>obtain⟨z,y,vs,r,ob,es,ep,e,c⟩:=x;exact⟨z,y,vs,r,ob,es,ep,k _ _ (.inl rfl) e,c⟩
 |dT kvs=>
  obtain⟨z,y,xs,r,ob,es,ep,e,c⟩:=x
  exact⟨z,y,xs,Paired.mapP r fun p q z=>⟨z.1,ht _ _ z.2.1,z.2.2⟩,ob,es,ep,k _ _ (.inl rfl) e,c⟩
 |set S n=>obtain⟨ob,es,ep,t,e,c⟩:=x;exact⟨ob,es,ep,t,k _ _ (.inl rfl) e,c⟩
 |ins C dx fs=>
  obtain⟨d,z,ne,e,mA,⟨od,es,ep,e2,c⟩,r⟩:=x
  exact⟨ho _ d,z,ne,k _ _ (.inl rfl) e,mA,⟨od,es,ep,k _ _ (.inr d) e2,c⟩,r⟩
 |own y=>obtain⟨ob,e⟩:=x;exact⟨ob,k _ _ (.inl rfl) e⟩
 |xd fs=>obtain⟨mA,⟨od,es,ep,e,c⟩,r⟩:=x;exact⟨mA,⟨od,es,ep,k _ _ (.inl rfl) e,c⟩,r⟩
 |rng lo hi=>obtain⟨t,u,v,e⟩:=x;exact⟨t,u,v,k _ _ (.inl rfl) e⟩
 |frz ob u ih=>obtain⟨e,q⟩:=x;exact⟨k _ _ (.inl rfl) e,ih q⟩
 |tbl ps=>
  have e:h.get? a=some {cls:=.none,data:=.fields ps}:=x
  show h'.get? a=some {cls:=.none,data:=.fields ps}
  exact k a _ (.inl rfl) e
 |met f y=>
  have e:h.get? a=some (PySem.W.methodObj (.ref f) (.ref y)):=x
  show h'.get? a=some (PySem.W.methodObj (.ref f) (.ref y))
  exact k a _ (.inl rfl) e
 |ext φ=>obtain⟨p,⟨o,e⟩,st⟩:=x;exact⟨st _ _ p fun o q=>k _ _ (.inl rfl) q,⟨o,k _ _ (.inl rfl) e⟩,st⟩
theorem HOk.lt(x:HOk P w H h)(e:H a=some o):a<h.objs.size:=(x a o e).lt
theorem HOk.fresh(x:HOk P w H h)(e:h.objs.size<=a):H a=none:=by
 cases q:H a with
 |none=>rfl
 |some u=>exact absurd (Nat.lt_of_lt_of_le (x.lt q) e) (Nat.lt_irrefl _)
theorem HOk.kept(x:HOk P w H h)(k:∀b u,h.get? b=some u->h'.get? b=some u):HOk P w H h':=fun a o e=>
 (x a o e).stay (fun b u _ q=>k b u q) (fun _ q=>q) fun _ _ q=>q
theorem HOk.laid(x:HOk P w H h)(k:∀b u,h.get? b=some u->h'.get? b=some u)(hp:h.objs.size<=a)(new:ObjOk P w (upd H a o) h' a o):HOk P w (upd H a o) h':=fun b u e=>by
 have hn:=x.fresh hp
 by_cases hb:b=a
 ·subst hb;rw [ae] at e;cases e;exact new
 ·rw [aM hb] at e
  exact (x b u e).stay (fun c v _ q=>k c v q) (fun c q=>by rw [aM (aD q hn)];exact q) fun c xs q=>by rw [aM (aD q hn)];exact q
end
def Rd(H:Hp)(a:Addr)(u:HO):Prop:=H a=some u\/∃o,H a=some (.frz o u)
theorem Rd.ok{P:Program}{w:World}{H:Hp}{h:Heap}{a:Addr}{u:HO}(r:Rd H a u)(x:HOk P w H h):ObjOk P w H h a u:=by
 rcases r with r |⟨o,r⟩
 ·exact x a u r
 ·obtain⟨_,q⟩:=x a _ r
  exact q
def Mut:Option HO->Prop
 |some (.lst _)=>True
 |some (.dK _)=>True
 |some (.dT _)=>True
 |some (.set _ _)=>True
 |some (.ins _ _ _)=>True
 |some (.ext _)=>True
 |_=>False
section
variable {P:Program}{w:World}{H:Hp}{h h':Heap}{x e:Addr}{o':HO}
theorem HOk.write(ok:HOk P w H h)(mu:Mut (H x))(he:e=x\/H e=some (.own x))(k:∀b u,b≠e->h.get? b=some u->h'.get? b=some u)(heo:∃u,h'.get? e=some u)
  (new:ObjOk P w (upd H x o') h' x o'):HOk P w (upd H x o') h':=fun b u q=>by
 have nown:∀c y,H c=some (.own y)->c≠x:=fun c y r z=>by subst z;rw [r] at mu;exact mu
 have ntup:∀c xs,H c=some (.tup xs)->c≠x:=fun c xs r z=>by subst z;rw [r] at mu;exact mu
 by_cases hb:b=x
 ·subst hb;rw [ae] at q;cases q;exact new
 ·rw [aM hb] at q
  by_cases hbe:b=e
  ·have q':H b=some (.own x):=by
    rcases he with z |z
    ·exact absurd (hbe.trans z) hb
    ·rw [hbe];exact z
   rw [q] at q';cases q'
   obtain⟨v,hv⟩:=heo
   exact⟨v,by rw [hbe];exact hv⟩
  ·refine (ok b u q).stay (fun c v hc r=>k c v ?_ r) (fun c r=>by rw [aM (nown c b r)];exact r) fun c xs r=>by rw [aM (ntup c xs r)];exact r
   rcases hc with rfl |hc
   ·exact hbe
   ·rintro rfl
    rcases he with z |z
    ·exact nown c b hc z
    ·rw [hc] at z;cases z;exact hb rfl
end
structure Un(fs ex:List Addr)(H H':Hp)(h h':Heap):Prop where
 keep:∀b o,h.get? b=some o->H b=none->b∉fs->b∉ex->h'.get? b=some o
 slot:∀b o,h.get? b=some o->H b=none->b∈fs->b∉ex->∃sl,h'.get? b=some {o with slots:=sl}
 free:∀b o,h.get? b=some o->H b=none->b∉ex->H' b=none
 there:∀b o,h.get? b=some o->b∉ex->∃o',h'.get? b=some o'
 tups:∀b xs,H b=some (.tup xs)->H' b=some (.tup xs)
 frzs:∀b o u,H b=some (.frz o u)->H' b=some (.frz o u)
 tbls:∀b ps,H b=some (.tbl ps)->∃more,H' b=some (.tbl (ps++more))
section
variable {fs fs' ex ex':List Addr}{H H1 H2:Hp}{h h1 h2 h':Heap}{a x e:Addr}{o:HO}
theorem Un.any(u:Un fs ex H H1 h h1){b:Addr}{ob:Obj}(q:h.get? b=some ob)(n:H b=none)(hx:b∉ex):∃sl,h1.get? b=some {ob with slots:=sl}:=by
 by_cases hb:b∈fs
 ·exact u.slot b ob q n hb hx
 ·exact⟨ob.slots,u.keep b ob q n hb hx⟩
theorem Un.kept(k:∀b u,h.get? b=some u->h'.get? b=some u):Un fs ex H H h h':=
 ⟨fun b ob q _ _ _=>k b ob q,fun b ob q _ _ _=>⟨ob.slots,k b ob q⟩,fun _ _ _ n _=>n,fun b ob q _=>⟨ob,k b ob q⟩,fun _ _ q=>q,fun _ _ _ q=>q,fun _ ps q=>⟨#[],by rw [q];simp⟩⟩
theorem Un.refl:Un fs ex H H h h:=Un.kept fun _ _ q=>q
theorem Un.laid(k:∀b u,h.get? b=some u->h'.get? b=some u)(hp:h.objs.size<=a)(hn:H a=none):Un fs ex H (upd H a o) h h' where
 keep:=fun b u q _ _ _=>k b u q
 slot:=fun b u q _ _ _=>⟨u.slots,k b u q⟩
 free:=fun b u q n _=>by rw [aM (Nat.ne_of_lt (Nat.lt_of_lt_of_le (Heap.lt_size q) hp))];exact n
 there:=fun b u q _=>⟨u,k b u q⟩
 tups:=fun b xs q=>by rw [aM (aD q hn)];exact q
 frzs:=fun b u xs q=>by rw [aM (aD q hn)];exact q
 tbls:=fun b ps q=>⟨#[],by rw [aM (aD q hn),q];simp⟩
theorem Un.write(mu:Mut (H x))(he:e=x\/H e=some (.own x))(k:∀b u,b≠e->h.get? b=some u->h'.get? b=some u)(heo:∃u,h'.get? e=some u):Un fs ex H (upd H x o) h h':=by
 have hx:∀b,H b=none->b≠x:=fun b n z=>by subst z;rw [n] at mu;exact mu
 have hb:∀b,H b=none->b≠e:=fun b n z=>by
  subst z
  rcases he with r |r
  ·exact hx b n r
  ·rw [n] at r;cases r
 have hm:∀b u,H b=some u->¬Mut (some u)->b≠x:=fun b u q nm z=>by subst z;rw [q] at mu;exact nm mu
 refine⟨fun b u q n _ _=>k b u (hb b n) q,fun b u q n _ _=>⟨u.slots,k b u (hb b n) q⟩,fun b u q n _=>by rw [aM (hx b n)];exact n,fun b u q _=>?_,
  fun b xs q=>by rw [aM (hm b _ q fun z=>z)];exact q,fun b u xs q=>by rw [aM (hm b _ q fun z=>z)];exact q,fun b ps q=>⟨#[],by rw [aM (hm b _ q fun z=>z),q];simp⟩⟩
 by_cases hbe:b=e
 ·subst hbe;exact heo
 ·exact⟨u,k b u hbe q⟩
end
def trk(h:Heap)(H:Hp):List Addr:=(List.range h.objs.size).filter fun a=>(H a).isSome
def hidT(h:Heap)(H:Hp):Heap:=PySem.W.hideAll h (trk h H)
theorem ph(h:Heap)(H:Hp):(hidT h H).objs.size=h.objs.size:=PySem.W.hideAll_size _ _
theorem rB{h:Heap}{H:Hp}{b:Addr}{o:Obj}(e:h.get? b=some o)(n:H b=none):(hidT h H).get? b=some o:=
 PySem.W.hideAll_get _ e fun hm=>by
  have q:(H b).isSome=true:=(List.mem_filter.mp hm).2
  rw [n] at q;simp at q
theorem tS{h:Heap}{H:Hp}{b:Addr}{o:Obj}(e:(hidT h H).get? b=some o):h.get? b=some o/\H b=none:=by
 have e':h.get? b=some o:=PySem.W.of_hideAll (trk h H) e
 refine⟨e',?_⟩
 cases q:H b with
 |none=>rfl
 |some x=>
  have hm:b∈trk h H:=List.mem_filter.mpr ⟨List.mem_range.mpr (Heap.lt_size e'),by simp [q]⟩
  have z:(hidT h H).get? b=none:=PySem.W.hideAll_none (trk h H) hm
  rw [z] at e;cases e
end L2
namespace L2
open PySem PySem.Spec PyProof.Rows
structure Mod(K:PySem.W.Frag)(mg:Str->Option Value)(base:Heap):Prop where
 kin:K.In base
 glob:base.Ns mainGlobals mg
 blt:∃mb,base.Ns builtinsNs mb/\∀x:Str,x≠"__name__"->mb x=bootBuiltins x
 nolimit:base.NoLimit
structure Cx where
 prog:Program
 w:World
 K:PySem.W.Frag
 mg:Str->Option Value
 base:Heap
 A:Around
 N:List Str
 s_0:Shared
 H_0:Hp
 env:Env
 outer:List Env
 stack:List Env
 ex:List Addr
 fn:Str->Bool
 calm:Bool
 pn:List (Addr × Obj)
 xe:Value->Shared->Prop
def frs(l:List Env):List Addr:=l.filterMap (·.frame)
abbrev Cx.fs(X:Cx):List Addr:=frs X.outer
def Vis(sc:Scope)(x:Str):Prop:=sc.names.lookup x=some .local\/sc.names.lookup x=some .cell\/sc.names.lookup x=some .free
def Loc(sc:Scope)(x:Str):Prop:=sc.names.lookup x=some .local\/sc.names.lookup x=some .cell
def Look(env:Env)(h:Heap)(m:Str->Option Value)(x:Str)(u:Value):Prop:=
 (env.kindOf x=some .local/\m x=some u)\/((env.kindOf x=some .cell\/env.kindOf x=some .free)/\∃c,env.cells.lookup x=some c/\h.IsCell c (some u))
structure Cx.Ok(X:Cx):Prop where
 mod:Mod X.K X.mg X.base
 kind:X.env.scope.kind=.function
 glob:X.env.globals=mainGlobals
 blt:X.env.builtins=builtinsNs
 above:X.s_0.heap.objs.size<=X.env.locals
 inj:∀x y c,X.env.cells.lookup x=some c->X.env.cells.lookup y=some c->x=y
 has:∀x,(X.env.kindOf x=some .cell\/X.env.kindOf x=some .free)->∃c,X.env.cells.lookup x=some c
 cab:∀x c,X.fn x=true->X.env.cells.lookup x=some c->X.s_0.heap.objs.size<=c
 hd:X.calm=true->X.A.handled=none
 frames:X.A.frames=some X.stack
 stk:X.stack=X.outer\/(X.stack=X.env::X.outer/\X.env.frame=some X.env.locals)
 exf:∀b∈X.ex,b≠X.env.locals/\∀x c,X.env.cells.lookup x=some c->c≠b
 bs:∀b o,X.base.get? b=some o->X.s_0.heap.get? b=some o/\X.H_0 b=none
 bsz:X.base.objs.size<=X.s_0.heap.objs.size
 noex:∀b o,X.base.get? b=some o->b∉X.ex
 exfs:∀b∈X.ex,b∉X.fs
 funs:X.s_0.heap.FunFrames X.base X.outer
 frf:∀b∈X.fs,X.H_0 b=none
structure Inv(X:Cx)(pins:List (Addr × Obj))(σ:List (Option V))(H:Hp)(s:Shared):Prop where
 ok:X.Ok
 os:s.os=X.s_0.os
 bare:AllBare s.gens
 base:Un X.fs X.ex X.H_0 H X.s_0.heap s.heap
 loc:∃m,s.heap.Ns X.env.locals m/\∀(i:Nat) (x:Str) (v:V),X.N[i]?=some x->σ[i]?=some (some v)->Vis X.env.scope x->∃u,RelV v u/\Look X.env s.heap m x u
 cell:∀x c,X.env.cells.lookup x=some c->∃v,s.heap.IsCell c v
 free:H X.env.locals=none
 freeC:∀x c,X.env.cells.lookup x=some c->H c=none
 pin:∀p∈X.pn++pins,s.heap.get? p.1=some p.2/\H p.1=none/\p.1≠X.env.locals/\p.1∉X.fs/\∀v,p.2.data≠.cell v
 hok:HOk X.prog X.w H s.heap
 len:σ.length=X.N.length
section
variable {X:Cx}{pins:List (Addr × Obj)}{σ:List (Option V)}{H H':Hp}{s:Shared}{h':Heap}
theorem Cx.Ok.nofr(ok:X.Ok){b:Addr}{o:Obj}(e:X.base.get? b=some o):b∉X.fs:=fun hb=>by
 have:=(ok.funs.mem hb).1
 rw [e] at this;cases this
theorem Inv.bs(I:Inv X pins σ H s):∀b o,X.base.get? b=some o->s.heap.get? b=some o/\H b=none:=fun b o e=>
 ⟨I.base.keep b o (I.ok.bs b o e).1 (I.ok.bs b o e).2 (I.ok.nofr e) (I.ok.noex b o e),I.base.free b o (I.ok.bs b o e).1 (I.ok.bs b o e).2 (I.ok.noex b o e)⟩
theorem Inv.bk(I:Inv X pins σ H s):∀b o,X.base.get? b=some o->s.heap.get? b=some o:=fun b o e=>(I.bs b o e).1
theorem Inv.mod(I:Inv X pins σ H s):Mod X.K X.mg X.base:=I.ok.mod
theorem Inv.kIn(I:Inv X pins σ H s):X.K.In s.heap:=I.ok.mod.kin.keeps I.bk
theorem Inv.lt(I:Inv X pins σ H s):X.env.locals<s.heap.objs.size:=let ⟨_,hn,_⟩:=I.loc;hn.lt
theorem Inv.sz(I:Inv X pins σ H s):X.s_0.heap.objs.size<=s.heap.objs.size:=Nat.le_trans I.ok.above (Nat.le_of_lt I.lt)
theorem Inv.nofs(I:Inv X pins σ H s){a:Addr}(h:s.heap.objs.size<=a):a∉X.fs:=fun hb=>by
 obtain⟨_,o,ho,_⟩:=I.ok.funs.mem hb
 exact absurd (Nat.lt_of_lt_of_le (Heap.lt_size ho) (Nat.le_trans I.sz h)) (Nat.lt_irrefl _)
theorem Inv.cne(I:Inv X pins σ H s):∀x c,X.env.cells.lookup x=some c->c≠X.env.locals:=fun x c e z=>by
 obtain⟨v,o,ho,hd⟩:=I.cell x c e
 obtain⟨m,⟨o',es,ep,ho',hd',_⟩,_⟩:=I.loc
 rw [z,ho'] at ho;cases ho;rw [hd'] at hd;cases hd
theorem Inv.funs(I:Inv X pins σ H s):s.heap.FunFrames X.base X.outer:=by
 have all:∀(l:List Env),(∀b∈frs l,b∈X.fs)->X.s_0.heap.FunFrames X.base l->s.heap.FunFrames X.base l:=by
  intro l
  induction l with
  |nil=>intro _ _;trivial
  |cons env r ih=>
   intro hs hl
   obtain⟨hk,⟨L,o,hf,hn,ho,hd⟩,hr⟩:=hl
   have hL:L∈X.fs:=hs L (by unfold frs;rw [List.filterMap_cons,hf];exact List.mem_cons_self)
   obtain⟨sl,e⟩:=I.base.slot L o ho (I.ok.frf L hL) hL fun z=>I.ok.exfs L z hL
   exact⟨hk,⟨L,_,hf,hn,e,hd⟩,ih (fun b hb=>hs b (by unfold frs;rw [List.filterMap_cons,hf];exact List.mem_cons_of_mem _ hb)) hr⟩
 exact all X.outer (fun _ hb=>hb) I.ok.funs
theorem Inv.stack(I:Inv X pins σ H s):s.heap.FunFrames X.base X.stack:=by
 rcases I.ok.stk with e |⟨e,hf⟩
 ·rw [e];exact I.funs
 ·rw [e]
  obtain⟨m,hn,_⟩:=I.loc
  refine .cons (by rw [I.ok.kind];decide) hf hn ?_ I.funs
  exact Heap.get?_none_of_le (Nat.le_trans I.ok.bsz I.ok.above)
theorem Inv.stkSub(I:Inv X pins σ H s):∀b∈frs X.stack,b∈X.env.locals::X.fs:=fun b hb=>by
 rcases I.ok.stk with e |⟨e,hf⟩
 ·rw [e] at hb;exact List.mem_cons_of_mem _ hb
 ·rw [e] at hb
  unfold frs at hb
  rw [List.filterMap_cons,hf] at hb
  exact hb
theorem Inv.stkFree(I:Inv X pins σ H s):∀b∈frs X.stack,H b=none:=fun b hb=>by
 rcases List.mem_cons.mp (I.stkSub b hb) with e |hb
 ·rw [e];exact I.free
 ·obtain⟨_,o,ho,_⟩:=I.ok.funs.mem hb
  exact I.base.free b o ho (I.ok.frf b hb) fun z=>I.ok.exfs b z hb
theorem Inv.step{g':Array GenState}{t':Nat}{d':Drawn}{ch:List Addr}(I:Inv X pins σ H s)
  (hch:∀b∈ch,(b∈X.ex\/X.s_0.heap.objs.size<=b)/\b≠X.env.locals/\(∀x c,X.env.cells.lookup x=some c->c≠b)/\∀p∈X.pn++pins,p.1≠b)
  (keep:∀b o,b≠X.env.locals->b∉X.fs->b∉ch->s.heap.get? b=some o->H b=none->h'.get? b=some o)
  (slot:∀b o,b≠X.env.locals->b∈X.fs->b∉ch->s.heap.get? b=some o->H b=none->∃sl,h'.get? b=some {o with slots:=sl}) (free:∀b o,b∉ch->s.heap.get? b=some o->H b=none->H' b=none)
  (there:∀b o,b∉ch->s.heap.get? b=some o->∃o',h'.get? b=some o')
  (tups:∀b xs,H b=some (.tup xs)->H' b=some (.tup xs)) (frzs:∀b o u,H b=some (.frz o u)->H' b=some (.frz o u)) (tbls:∀b ps,H b=some (.tbl ps)->∃more,H' b=some (.tbl (ps++more)))
  (ns:∀m,s.heap.Ns X.env.locals m->h'.Ns X.env.locals m) (hok:HOk X.prog X.w H' h') (hg:AllBare g'):
  Inv X pins σ H' {s with heap:=h',gens:=g',drawn:=d',toks:=t'}:=by
 have neL:∀b o,X.s_0.heap.get? b=some o->b≠X.env.locals:=fun b o e=>Nat.ne_of_lt (Nat.lt_of_lt_of_le (Heap.lt_size e) I.ok.above)
 have neC:∀b o,X.s_0.heap.get? b=some o->b∉X.ex->b∉ch:=fun b o e hx hb=>by
  rcases (hch b hb).1 with z |z
  ·exact hx z
  ·exact absurd (Nat.lt_of_lt_of_le (Heap.lt_size e) z) (Nat.lt_irrefl _)
 have cellK:∀x c,X.env.cells.lookup x=some c->∀v,s.heap.IsCell c v->h'.IsCell c v:=fun x c e v ⟨o,ho,hd⟩=>by
  have nch:c∉ch:=fun z=>(hch c z).2.2.1 x c e rfl
  by_cases hc:c∈X.fs
  ·obtain⟨sl,q⟩:=slot c o (I.cne x c e) hc nch ho (I.freeC x c e)
   exact⟨_,q,hd⟩
  ·exact⟨o,keep c o (I.cne x c e) hc nch ho (I.freeC x c e),hd⟩
 refine⟨I.ok,I.os,hg,⟨fun b o e n hb hx=>?_,fun b o e n hb hx=>?_,fun b o e n hx=>?_,fun b o e hx=>?_,fun b xs e=>tups b xs (I.base.tups b xs e),fun b o xs e=>frzs b o xs (I.base.frzs b o xs e),fun b ps e=>?_⟩,?_,fun x c e=>?_,?_,fun x c e=>?_,fun p hp=>?_,hok,I.len⟩
 ·exact keep b o (neL b o e) hb (neC b o e hx) (I.base.keep b o e n hb hx) (I.base.free b o e n hx)
 ·obtain⟨sl,e1⟩:=I.base.slot b o e n hb hx
  obtain⟨sl',e2⟩:=slot b _ (neL b o e) hb (neC b o e hx) e1 (I.base.free b o e n hx)
  exact⟨sl',e2⟩
 ·obtain⟨o',e1⟩:=I.base.there b o e hx
  exact free b o' (neC b o e hx) e1 (I.base.free b o e n hx)
 ·obtain⟨o',e1⟩:=I.base.there b o e hx
  exact there b o' (neC b o e hx) e1
 ·obtain⟨m1,e1⟩:=I.base.tbls b ps e
  obtain⟨m2,e2⟩:=tbls b _ e1
  exact⟨m1++m2,by rw [e2,Array.append_assoc]⟩
 ·obtain⟨m,hn,hl⟩:=I.loc
  refine⟨m,ns m hn,fun i x v e1 e2 e3=>?_⟩
  obtain⟨u,r,l⟩:=hl i x v e1 e2 e3
  refine⟨u,r,?_⟩
  rcases l with l |⟨k,c,e,z⟩
  ·exact .inl l
  ·exact .inr ⟨k,c,e,cellK x c e _ z⟩
 ·obtain⟨v,z⟩:=I.cell x c e
  exact⟨v,cellK x c e v z⟩
 ·obtain⟨m,⟨o,_,_,ho,_⟩,_⟩:=I.loc
  exact free _ o (fun z=>(hch _ z).2.1 rfl) ho I.free
 ·obtain⟨v,o,ho,hd⟩:=I.cell x c e
  exact free c o (fun z=>(hch c z).2.2.1 x c e rfl) ho (I.freeC x c e)
 ·obtain⟨e,n,ne,nf,d⟩:=I.pin p hp
  have nch:p.1∉ch:=fun z=>(hch p.1 z).2.2.2 p hp rfl
  exact⟨keep p.1 p.2 ne nf nch e n,free p.1 p.2 nch e n,ne,nf,d⟩
theorem Inv.un{t':Nat}(I:Inv X pins σ H s)(u:Un X.fs [] H H' s.heap h')(hok:HOk X.prog X.w H' h'):Inv X pins σ H' {s with heap:=h',toks:=t'}:=by
 obtain⟨m,⟨o,es,ep,ho,r⟩,_⟩:=id I.loc
 obtain⟨sl,hL⟩:=u.any ho I.free (by simp)
 exact I.step (g':=s.gens) (d':=s.drawn) (ch:=[]) (fun _ z=>nomatch z) (fun b o _ hb _ e n=>u.keep b o e n hb (by simp)) (fun b o _ hb _ e n=>u.slot b o e n hb (by simp)) (fun b o _ e n=>u.free b o e n (by simp)) (fun b o _ e=>u.there b o e (by simp)) u.tups u.frzs u.tbls (fun m' hm=>by
  obtain⟨o',es',ep',ho',r'⟩:=hm
  rw [ho] at ho';cases ho'
  exact⟨_,es',ep',hL,r'⟩) hok I.bare
theorem Inv.call{g':Array GenState}{t':Nat}{d':Drawn}{ch:List Addr}(I:Inv X pins σ H s)(u:Un (frs X.stack) ch H H' s.heap h')(hok:HOk X.prog X.w H' h')(hg:AllBare g')
  (hch:∀b∈ch,(b∈X.ex\/X.s_0.heap.objs.size<=b)/\b≠X.env.locals/\(∀x c,X.env.cells.lookup x=some c->c≠b)/\∀p∈X.pn++pins,p.1≠b):
  Inv X pins σ H' {s with heap:=h',gens:=g',drawn:=d',toks:=t'}:=by
 obtain⟨m,⟨o,es,ep,ho,r⟩,_⟩:=id I.loc
 obtain⟨sl,hL⟩:=u.any ho I.free fun z=>(hch _ z).2.1 rfl
 exact I.step (ch:=ch) hch (fun b o hL hb hc e n=>u.keep b o e n (fun z=>(List.mem_cons.mp (I.stkSub b z)).elim hL hb) hc) (fun b o _ _ hc e n=>u.any e n hc) (fun b o hc e n=>u.free b o e n hc) (fun b o hc e=>u.there b o e hc) u.tups u.frzs u.tbls (fun m' hm=>by
  obtain⟨o',es',ep',ho',r'⟩:=hm
  rw [ho] at ho';cases ho'
  exact⟨_,es',ep',hL,r'⟩) hok hg
theorem Inv.turned{t':Nat}{it:Addr}(I:Inv X pins σ H s)(k:∀b o,b≠it->s.heap.get? b=some o->h'.get? b=some o)(hn:H it=none)(hL:it≠X.env.locals)
  (h1:it∈X.ex\/X.s_0.heap.objs.size<=it) (h2:∀x c,X.env.cells.lookup x=some c->c≠it) (h3:∀p∈X.pn++pins,p.1≠it):Inv X pins σ H {s with heap:=h',toks:=t'}:=by
 have nit:∀b u,H b=some u->b≠it:=fun b u e z=>by rw [z,hn] at e;cases e
 refine I.step (g':=s.gens) (d':=s.drawn) (ch:=[it]) (fun b hb=>?_) (fun b o _ _ hc e _=>k b o (fun z=>hc (by simp [z])) e) (fun b o _ _ hc e _=>⟨o.slots,k b o (fun z=>hc (by simp [z])) e⟩) (fun _ _ _ _ n=>n)
  (fun b o hc e=>⟨o,k b o (fun z=>hc (by simp [z])) e⟩) (fun _ _ e=>e) (fun _ _ _ e=>e) (fun b ps e=>⟨#[],by rw [e];simp⟩) (fun m hm=>?_) (fun b u e=>?_) I.bare
 ·have e:b=it:=by simpa using hb
  subst e
  exact⟨h1,hL,h2,h3⟩
 ·obtain⟨o,es,ep,ho,r⟩:=hm
  exact⟨o,es,ep,k _ o (Ne.symm hL) ho,r⟩
 ·refine (I.hok b u e).stay (fun c v hc q=>k c v ?_ q) (fun _ q=>q) fun _ _ q=>q
  rcases hc with z |z
  ·rw [z];exact nit b u e
  ·exact nit c _ z
theorem Inv.tok(I:Inv X pins σ H s)(t:Nat):Inv X pins σ H {s with toks:=t}:=I.un (h':=s.heap) (t':=t) Un.refl I.hok
theorem Inv.kept{t':Nat}(I:Inv X pins σ H s)(k:∀b u,s.heap.get? b=some u->h'.get? b=some u):Inv X pins σ H {s with heap:=h',toks:=t'}:=I.un (Un.kept k) (I.hok.kept k)
theorem Inv.laid{a:Addr}{o:HO}{t':Nat}(I:Inv X pins σ H s)(k:∀b u,s.heap.get? b=some u->h'.get? b=some u)(hp:s.heap.objs.size<=a)(new:ObjOk X.prog X.w (upd H a o) h' a o):
  Inv X pins σ (upd H a o) {s with heap:=h',toks:=t'}:=I.un (Un.laid k hp (I.hok.fresh hp)) (I.hok.laid k hp new)
theorem Inv.write{x e:Addr}{o:HO}{t':Nat}(I:Inv X pins σ H s)(mu:Mut (H x))(he:e=x\/H e=some (.own x))(k:∀b u,b≠e->s.heap.get? b=some u->h'.get? b=some u)(heo:∃u,h'.get? e=some u)
  (new:ObjOk X.prog X.w (upd H x o) h' x o):Inv X pins σ (upd H x o) {s with heap:=h',toks:=t'}:=I.un (Un.write mu he k heo) (I.hok.write mu he k heo new)
theorem Inv.weak{σ':List (Option V)}(I:Inv X pins σ H s)(hl:σ'.length=σ.length)(w:∀(i:Nat) v,σ'[i]?=some (some v)->σ[i]?=some (some v)):Inv X pins σ' H s:=
 ⟨I.ok,I.os,I.bare,I.base,let ⟨m,hn,hl'⟩:=I.loc;⟨m,hn,fun i x v e1 e2 e3=>hl' i x v e1 (w i v e2) e3⟩,I.cell,I.free,I.freeC,I.pin,I.hok,hl.trans I.len⟩
theorem Inv.pins_of{pins':List (Addr × Obj)}(I:Inv X pins σ H s)(h:∀p∈pins',s.heap.get? p.1=some p.2/\H p.1=none/\p.1≠X.env.locals/\p.1∉X.fs/\∀v,p.2.data≠.cell v):Inv X pins' σ H s:=
 ⟨I.ok,I.os,I.bare,I.base,I.loc,I.cell,I.free,I.freeC,fun p hp=>(List.mem_append.mp hp).elim (fun z=>I.pin p (List.mem_append_left _ z)) (h p),I.hok,I.len⟩
theorem jk{N:List Str}(hN:N.Nodup){i j:Nat}{x:Str}(a:N[i]?=some x)(b:N[j]?=some x):i=j:=by
 obtain⟨h1,e1⟩:=List.getElem?_eq_some_iff.mp a
 obtain⟨h2,e2⟩:=List.getElem?_eq_some_iff.mp b
 exact (List.getElem_inj hN).mp (e1.trans e2.symm)
theorem j4{M:Model}{A:Around}{E:Value->Shared->Prop}{i:Nat}{x:Str}{v:V}{u:Value}{Q:Unit->Shared->Prop}(I:Inv X pins σ H s)(hN:X.N.Nodup)(hi:X.N[i]?=some x)(hx:Loc X.env.scope x)(r:RelV v u)
  (h:∀s',Inv X pins (σ.set i (some v)) H s'->(∃a,Heap.SameBut a s.heap s'.heap/\(a=X.env.locals\/X.env.cells.lookup x=some a))->Q () s') (hf:X.fn x=true\/X.env.scope.names.lookup x=some .local:=by first |exact .inl rfl |exact .inr rfl |assumption):wpAny M A (storeName X.env x u) Q E s:=by
 obtain⟨m,hn,hl⟩:=id I.loc
 have hcls:(X.env.scope.kind==.class || (X.env.scope.kind==.module && X.env.locals !=X.env.globals))=false:=by rw [I.ok.kind];rfl
 have hiσ:i<σ.length:=by rw [I.len];exact (List.getElem?_eq_some_iff.mp hi).1
 have cne:=I.cne
 have tracked:∀{a:Addr} {h':Heap},(∃o,s.heap.get? a=some o/\H a=none)->Heap.SameBut a s.heap h'->HOk X.prog X.w H h':=fun {a h'} ha hs b ob e=>by
  obtain⟨_,_,hfree⟩:=ha
  refine (I.hok b ob e).stay (fun c w' hc q=>(hs.2 c ?_).trans q) (fun _ q=>q) fun _ _ q=>q
  rintro rfl
  rcases hc with rfl |hc
  ·rw [hfree] at e;cases e
  ·rw [hfree] at hc;cases hc
 rcases hx with hk |hk
 ·refine wpAny_storeName_local hk hn (fun h' hn' hs=>?_) hcls
  obtain⟨oL,_,_,hoL,_⟩:=id hn
  refine h _ ⟨I.ok,I.os,I.bare,⟨fun b o e n hb hx=>?_,fun b o e n hb hx=>?_,I.base.free,fun b o e hx=>?_,I.base.tups,I.base.frzs,I.base.tbls⟩,⟨_,hn',fun j y v' e1 e2 e3=>?_⟩,fun y c e=>?_,I.free,I.freeC,fun p hp=>?_,tracked ⟨oL,hoL,I.free⟩ hs,by simpa using I.len⟩ ⟨_,hs,.inl rfl⟩
  ·exact (hs.2 b (Nat.ne_of_lt (Nat.lt_of_lt_of_le (Heap.lt_size e) I.ok.above))).trans (I.base.keep b o e n hb hx)
  ·obtain⟨sl,e1⟩:=I.base.slot b o e n hb hx
   exact⟨sl,(hs.2 b (Nat.ne_of_lt (Nat.lt_of_lt_of_le (Heap.lt_size e) I.ok.above))).trans e1⟩
  ·obtain⟨o',e1⟩:=I.base.there b o e hx
   exact⟨o',(hs.2 b (Nat.ne_of_lt (Nat.lt_of_lt_of_le (Heap.lt_size e) I.ok.above))).trans e1⟩
  ·by_cases hj:j=i
   ·subst hj
    rw [hi] at e1;cases e1
    rw [List.getElem?_set_self hiσ] at e2
    cases e2
    exact⟨u,r,.inl ⟨hk,by simp⟩⟩
   ·rw [List.getElem?_set_ne (Ne.symm hj)] at e2
    obtain⟨u',r',q⟩:=hl j y v' e1 e2 e3
    refine⟨u',r',?_⟩
    rcases q with⟨k,e⟩|⟨k,c,e,z⟩
    ·refine .inl ⟨k,?_⟩
     have:y≠x:=fun e=>hj (jk hN e1 (e ▸ hi))
     simp [this,e]
    ·exact .inr ⟨k,c,e,z.sameBut hs (cne y c e)⟩
  ·obtain⟨w',z⟩:=I.cell y c e
   exact⟨w',z.sameBut hs (cne y c e)⟩
  ·obtain⟨e,n,ne,nf,d⟩:=I.pin p hp
   exact⟨(hs.2 p.1 ne).trans e,n,ne,nf,d⟩
 ·have hfn:X.fn x=true:=by
   rcases hf with z |z
   ·exact z
   ·rw [z] at hk;cases hk
  obtain⟨c,hc⟩:=I.ok.has x (.inl hk)
  obtain⟨w',z⟩:=I.cell x c hc
  refine wpAny_storeName_cell I.ok.kind hk hc z (fun h' hc' hs=>?_)
  obtain⟨oc,hoc,hocd⟩:=id z
  refine h {s with heap:=h'} ⟨I.ok,I.os,I.bare,⟨fun b o e n hb hx=>?_,fun b o e n hb hx=>?_,I.base.free,fun b o e hx=>?_,I.base.tups,I.base.frzs,I.base.tbls⟩,⟨m,hn.sameBut hs (Ne.symm (cne x c hc)),fun j y v' e1 e2 e3=>?_⟩,fun y c' e=>?_,I.free,I.freeC,fun p hp=>?_,tracked ⟨oc,hoc,I.freeC x c hc⟩ hs,by simpa using I.len⟩ ⟨c,hs,.inr hc⟩
  ·exact (hs.2 b (Nat.ne_of_lt (Nat.lt_of_lt_of_le (Heap.lt_size e) (I.ok.cab x c hfn hc)))).trans (I.base.keep b o e n hb hx)
  ·obtain⟨sl,e1⟩:=I.base.slot b o e n hb hx
   exact⟨sl,(hs.2 b (Nat.ne_of_lt (Nat.lt_of_lt_of_le (Heap.lt_size e) (I.ok.cab x c hfn hc)))).trans e1⟩
  ·obtain⟨o',e1⟩:=I.base.there b o e hx
   exact⟨o',(hs.2 b (Nat.ne_of_lt (Nat.lt_of_lt_of_le (Heap.lt_size e) (I.ok.cab x c hfn hc)))).trans e1⟩
  ·by_cases hj:j=i
   ·subst hj
    rw [hi] at e1;cases e1
    rw [List.getElem?_set_self hiσ] at e2
    cases e2
    exact⟨u,r,.inr ⟨.inl hk,c,hc,hc'⟩⟩
   ·rw [List.getElem?_set_ne (Ne.symm hj)] at e2
    obtain⟨u',r',q⟩:=hl j y v' e1 e2 e3
    refine⟨u',r',?_⟩
    rcases q with q |⟨k,c',e,z'⟩
    ·exact .inl q
    ·refine .inr ⟨k,c',e,z'.sameBut hs ?_⟩
     rintro rfl
     exact hj (jk hN e1 (I.ok.inj _ _ _ e hc ▸ hi))
  ·by_cases hcc:c'=c
   ·subst hcc;exact⟨_,hc'⟩
   ·obtain⟨w2,z2⟩:=I.cell y c' e
    exact⟨w2,z2.sameBut hs hcc⟩
  ·obtain⟨e,n,ne,nf,d⟩:=I.pin p hp
   refine⟨(hs.2 p.1 ?_).trans e,n,ne,nf,d⟩
   intro q
   rw [q,hoc] at e
   have q':oc=p.2:=Option.some.inj e
   exact d w' (by rw [<-q'];exact hocd)
theorem iy{M:Model}{A:Around}{E:Value->Shared->Prop}{i:Nat}{x:Str}{v:V}{u:Value}{Q:Unit->Shared->Prop}(I:Inv X pins σ H s)(hN:X.N.Nodup)(hi:X.N[i]?=some x)(hx:Loc X.env.scope x)(r:RelV v u)
  (h:∀s',Inv X pins (σ.set i (some v)) H s'->Q () s') (hf:X.fn x=true\/X.env.scope.names.lookup x=some .local:=by first |exact .inl rfl |exact .inr rfl |assumption):wpAny M A (storeName X.env x u) Q E s:=
 j4 I hN hi hx r (fun s' I' _=>h s' I') hf
theorem Inv.call'{s':Shared}{ch:List Addr}(I:Inv X pins σ H s)(ho:s'.os=s.os)(u:Un (frs X.stack) ch H H' s.heap s'.heap)(hok:HOk X.prog X.w H' s'.heap)(hg:AllBare s'.gens)
  (hch:∀b∈ch,(b∈X.ex\/X.s_0.heap.objs.size<=b)/\b≠X.env.locals/\(∀x c,X.env.cells.lookup x=some c->c≠b)/\∀p∈X.pn++pins,p.1≠b):Inv X pins σ H' s':=by
 obtain⟨h',g',d',t',o'⟩:=s'
 have e:o'=s.os:=ho
 subst e
 exact I.call (g':=g') (t':=t') (d':=d') u hok hg hch
end
abbrev XK:=Value->Option Addr->Hp->Prop
abbrev St:=List (Option V)
abbrev VK:=V->Hp->Prop
abbrev TE:=St->Hp->VK->Prop
abbrev TT:=St->Hp->(Bool->Hp->Prop)->Prop
abbrev TA:=St->Hp->(List V->Hp->Prop)->Prop
structure Ends where
 nx:St->Hp->Prop
 rt:VK
 bk:St->Hp->Prop:=fun _ _=>False
 ct:St->Hp->Prop:=fun _ _=>False
abbrev TS:=Ends->St->Hp->Prop
def EP(X:Cx)(pins:List (Addr × Obj))(σ:St)(Q:VK)(u:Value)(s':Shared):Prop:=∃v H',Inv X pins σ H' s'/\RelV v u/\Q v H'
def TP(X:Cx)(pins:List (Addr × Obj))(σ:St)(Q:Bool->Hp->Prop)(b:Bool)(s':Shared):Prop:=∃H',Inv X pins σ H' s'/\Q b H'
def AP(X:Cx)(pins:List (Addr × Obj))(σ:St)(Q:List V->Hp->Prop)(us:List Value)(s':Shared):Prop:=∃vs H',Inv X pins σ H' s'/\Vals vs us/\Q vs H'
def SP(X:Cx)(pins:List (Addr × Obj))(D:Ends)(f:Flow)(s':Shared):Prop:=
 match f with
 |.next=>∃σ' H',Inv X pins σ' H' s'/\D.nx σ' H'
 |.brk=>∃σ' H',Inv X pins σ' H' s'/\D.bk σ' H'
 |.cont=>∃σ' H',Inv X pins σ' H' s'/\D.ct σ' H'
 |.ret u=>∃v σ' H',Inv X pins σ' H' s'/\RelV v u/\D.rt v H'
def PE(X:Cx)(e:Expr)(t:TE):Prop:=
 ∀(pins:List (Addr × Obj)) (s:Shared) (σ:St) (H:Hp) (Q:VK),Inv X pins σ H s->t σ H Q->wpAny (model X.prog X.w) X.A (eval e X.env) (EP X pins σ Q) X.xe s
def PT(X:Cx)(e:Expr)(t:TT):Prop:=
 ∀(pins:List (Addr × Obj)) (s:Shared) (σ:St) (H:Hp) (Q:Bool->Hp->Prop),Inv X pins σ H s->t σ H Q->wpAny (model X.prog X.w) X.A (isTrue e X.env (eval e X.env)) (TP X pins σ Q) X.xe s
def PW(X:Cx)(e:Expr)(t:TT):Prop:=
 ∀(whole:Sem Value) (pins:List (Addr × Obj)) (s:Shared) (σ:St) (H:Hp) (Q:Bool->Hp->Prop),Inv X pins σ H s->t σ H Q->wpAny (model X.prog X.w) X.A (isTrue e X.env whole) (TP X pins σ Q) X.xe s
theorem PW.pt{X:Cx}{e:Expr}{t:TT}(h:PW X e t):PT X e t:=h _
def PA(X:Cx)(es:List Expr)(t:TA):Prop:=
 ∀(pos:Pos) (pins:List (Addr × Obj)) (s:Shared) (σ:St) (H:Hp) (Q:List V->Hp->Prop),Inv X pins σ H s->t σ H Q->wpAny (model X.prog X.w) X.A (spliced (backTo pos (starEach es X.env))) (AP X pins σ Q) X.xe s
def PS(X:Cx)(st:Stmt)(t:TS):Prop:=
 ∀(pins:List (Addr × Obj)) (s:Shared) (σ:St) (H:Hp) (D:Ends),Inv X pins σ H s->t D σ H->wpAny (model X.prog X.w) X.A (exec st X.env) (SP X pins D) X.xe s
def PSs(X:Cx)(st:List Stmt)(t:TS):Prop:=
 ∀(pins:List (Addr × Obj)) (s:Shared) (σ:St) (H:Hp) (D:Ends),Inv X pins σ H s->t D σ H->wpAny (model X.prog X.w) X.A (execs st X.env) (SP X pins D) X.xe s
theorem thn{α:Type}{t:Sem α}{Q Q':α->Shared->Prop}{M:Model}{A:Around}{E:Value->Shared->Prop}{s:Shared}(h:wpAny M A t Q E s)(hQ:∀a s,Q a s->Q' a s):wpAny M A t Q' E s:=wpAny_mono h hQ fun _ _ x=>x
end L2
namespace L2
open PySem PySem.Spec PyProof.Rows
section
variable {X:Cx}
inductive rT(i:Nat)(σ:St)(H:Hp)(Q:VK):Prop
 |mk:∀v,(σ[i]?=some (some v))->(Q v H)->rT i σ H Q
def tVar(i:Nat):TE:=fun σ H Q=>rT i σ H Q
def tC(v:V):TE:=fun _ H Q=>Q v H
theorem uI{i:Nat}{x:Str}{pos:Pos}(hN:X.N[i]?=some x)(hv:Vis X.env.scope x)(hd:(x==("__debug__":Str))=false:=by decide)(hcd:(x==("__classdict__":Str))=false:=by decide):PE X (.Name x pos) (tVar i):=by
 intro pins s σ H Q I h
 obtain⟨v,e,h⟩:=h
 obtain⟨m,hn,hl⟩:=I.loc
 obtain⟨u,r,l⟩:=hl i x v hN e hv
 have fin:EP X pins σ Q u s:=⟨v,H,I,r,h⟩
 rcases l with⟨hk,hm⟩|⟨hk,c,hc,hcell⟩
 ·exact wpAny_Name (wpAny_loadName_local I.ok.kind hk hn hm fin) hd
 ·rcases hk with hk |hk
  ·exact wpAny_Name (wpAny_loadName_cell I.ok.kind hk hc hcell fin) hd
  ·exact wpAny_Name (wpAny_loadName_free I.ok.kind hk hc hcell fin hcd) hd
theorem af{i j pos}:PE X (.Constant (.int i) j pos) (tC (.int i)):=fun _ _ _ H _ I h=>wpAny_Constant_int ⟨.int i,H,I.tok _,⟨_,rfl⟩,h⟩
theorem vP{b j pos}:PE X (.Constant (.bool b) j pos) (tC (.bl b)):=fun _ _ _ H _ I h=>Constant_bool ⟨.bl b,H,I,rfl,h⟩
theorem gI{j pos}:PE X (.Constant .none j pos) (tC .non):=fun _ _ _ H _ I h=>Constant_none ⟨.non,H,I,rfl,h⟩
def Gl(X:Cx)(x:Str):Prop:=X.env.kindOf x=some .globalImplicit
theorem fM{E:Value->Shared->Prop}{pins:List (Addr × Obj)}{s:Shared}{σ:St}{H:Hp}{x:Str}{u:Value}{pos:Pos}{Q:Value->Shared->Prop}(I:Inv X pins σ H s)(hg:Gl X x)(hm:X.mg x=some u)(h:Q u s)
  (hd:(x==("__debug__":Str))=false:=by decide):wpAny (model X.prog X.w) X.A (eval (.Name x pos) X.env) Q E s:=
 Calls.Name_function_global I.ok.kind hg (Calls.loadGlobal_global (by rw [I.ok.glob];exact I.mod.glob.keeps I.bk) hm h) hd
theorem eG{E:Value->Shared->Prop}{pins:List (Addr × Obj)}{s:Shared}{σ:St}{H:Hp}{x:Str}{u:Value}{pos:Pos}{Q:Value->Shared->Prop}(I:Inv X pins σ H s)(hg:Gl X x)(hm:X.mg x=none)(hv:bootBuiltins x=some u)(h:Q u s)
  (hn:x≠"__name__":=by decide) (hd:(x==("__debug__":Str))=false:=by decide):wpAny (model X.prog X.w) X.A (eval (.Name x pos) X.env) Q E s:=by
 obtain⟨mb,h1,h2⟩:=I.mod.blt
 exact Calls.Name_function_global I.ok.kind hg (Calls.loadGlobal_builtin (by rw [I.ok.glob];exact I.mod.glob.keeps I.bk) hm (by rw [I.ok.blt];exact h1.keeps I.bk) ((h2 x hn).trans hv) h) hd
theorem iu{x:Str}{v:V}{u:Value}{pos:Pos}(hg:Gl X x)(hm:X.mg x=some u)(r:RelV v u)(hd:(x==("__debug__":Str))=false:=by decide):PE X (.Name x pos) (tC v):=
 fun _ _ _ H _ I h=>fM I hg hm ⟨v,H,I,r,h⟩ hd
variable {a b:Expr}{ta tb:TE}{pos:Pos}
def PC(X:Cx)(op:CmpOp)(a b:Expr)(t:TE):Prop:=
 ∀(pins:List (Addr × Obj)) (s:Shared) (σ:St) (H:Hp) (Q:VK),Inv X pins σ H s->t σ H Q->
  wpAny (model X.prog X.w) X.A (eval a X.env) (fun v s₁=>wpAny (model X.prog X.w) X.A (eval b X.env) (fun u s₂=>wpAny (model X.prog X.w) X.A (compareOp op v u) (EP X pins σ Q) X.xe s₂) X.xe s₁) X.xe s
theorem nobehind(b:Expr){op:CmpOp}(h:op≠.In)(h2:op≠.NotIn):behindInMarks op b=false:=by
 have e1:(op==CmpOp.In)=false:=by cases op <;> first |rfl |exact absurd rfl h
 have e2:(op==CmpOp.NotIn)=false:=by cases op <;> first |rfl |exact absurd rfl h2
 cases b <;> simp [behindInMarks,e1,e2]
def tIsN(ta:TE):TE:=fun σ H Q=>ta σ H fun x H1=>Q (.bl (decide (x=.non))) H1
theorem RelV.none_iff{x:V}{v:Value}(r:RelV x v):(v==Value.none)=decide (x=.non):=by
 cases x with
 |non=>cases r;rfl
 |bl _=>cases r;rfl
 |int _=>obtain⟨t,rfl⟩:=r;rfl
 |str _=>obtain⟨t,rfl⟩:=r;rfl
 |byt _=>obtain⟨t,rfl⟩:=r;rfl
 |flt _=>obtain⟨t,rfl⟩:=r;rfl
 |ref _=>cases r;rfl
 |ty _=>cases r;rfl
theorem uP{j pos'}(ha:PE X a ta):PC X .Is a (.Constant .none j pos') (tIsN ta):=by
 intro pins s σ H Q I h
 refine thn (ha pins s σ H _ I h) fun v s1 ⟨x,H1,I1,r1,q1⟩=>?_
 exact Constant_none (is_none_gen ⟨.bl _,H1,I1,by rw [r1.none_iff];rfl,q1⟩)
inductive vJ(Q:Bool->Hp->Prop)(x:V)(H1:Hp):Prop
 |mk:∀c,(x=.bl c)->(Q c H1)->vJ Q x H1
def tB(t:TE):TT:=fun σ H Q=>t σ H fun x H1=>vJ Q x H1
theorem uQ{op:CmpOp}{t:TE}(h:PC X op a b t)(h1:behindInMarks op b=false:=by first |exact nobehind _ (by decide) (by decide)|rfl):PT X (.Compare a [op] [b] pos) (tB t):=by
 intro pins s σ H Q I hw
 refine wpAny_isTrue_Compare1 (thn (h pins s σ H _ I hw) fun v s1 h1=>thn h1 fun u s2 h2=>thn h2 fun c s3 ⟨x,H1,I1,r1,q1⟩=>?_) h1
 obtain⟨d,rfl,q⟩:=q1
 cases r1
 exact wpAny_truthy_bool ⟨H1,I1,q⟩
theorem iO{e:Expr}{t:TE}(h:PE X e t)(he:∀whole,isTrue e X.env whole=(do let v <-whole;standAt e.pos;holding [v] (truthy v)):=by intro _;rfl):PT X e (tB t):=by
 intro pins s σ H Q I hw
 refine isTrue_plain (thn (h pins s σ H _ I hw) fun v s1 ⟨x,H1,I1,r1,q1⟩=>?_) (he _)
 obtain⟨d,rfl,q⟩:=q1
 cases r1
 exact wpAny_truthy_bool ⟨H1,I1,q⟩
variable {tA tB':TT}{rest:List Expr}
def tOr(t u:TT):TT:=fun σ H Q=>t σ H fun c H1=>if c=true then Q true H1 else u σ H1 Q
def tNot(t:TT):TT:=fun σ H Q=>t σ H fun c H1=>Q (!c) H1
theorem mJ(ha:PT X a tA):PW X (.BoolOp .Or [a] pos) tA:=by
 intro wh pins s σ H Q I h
 refine isTrue_or (thn (ha pins s σ H Q I h) fun c s1 e=>?_)
 cases c with
 |false=>exact isTrue_or_nil e
 |true=>exact e
theorem qF(ha:PT X a tA)(hb:PW X (.BoolOp .Or (b::rest) pos) tB'):PW X (.BoolOp .Or (a::b::rest) pos) (tOr tA tB'):=by
 intro wh pins s σ H Q I h
 refine isTrue_or (thn (ha pins s σ H _ I h) fun c s1 ⟨H1,I1,q1⟩=>?_)
 cases c with
 |true=>exact⟨H1,I1,q1⟩
 |false=>exact hb wh pins s1 σ H1 Q I1 q1
theorem dH(ha:PT X a tA):PT X (.UnaryOp .Not a pos) (tNot tA):=by
 intro pins s σ H Q I h
 exact isTrue_not (ha pins s σ H (fun c H1=>Q (!c) H1) I h)
def tIf(t:TT)(ta tb:TE):TE:=fun σ H Q=>t σ H fun c H1=>if c=true then ta σ H1 Q else tb σ H1 Q
theorem iH{c:Expr}(hc:PT X c tA)(ha:PE X a ta)(hb:PE X b tb):PE X (.IfExp c a b pos) (tIf tA ta tb):=by
 intro pins s σ H Q I h
 refine wpAny_IfExp (thn (hc pins s σ H _ I h) fun d s1 ⟨H1,I1,q1⟩=>?_)
 cases d with
 |true=>exact ha pins s1 σ H1 Q I1 q1
 |false=>exact hb pins s1 σ H1 Q I1 q1
end
end L2
namespace L2
open PySem PySem.Spec PyProof.Rows
def SqL(K:PySem.W.Frag)(H:Hp)(a:Addr)(xs:List V):Prop:=
 Rd H a (.lst xs)\/
  ∃(o:Obj) (its:Array Value) (n:Nat),K.lookup a=some o/\o.cls=.type "list"/\o.dict=none/\o.data=.seq its n/\its.size<=sizeLine/\Vals xs its.toList
def SqT(K:PySem.W.Frag)(H:Hp)(a:Addr)(xs:List V):Prop:=
 Rd H a (.tup xs)\/
  ∃(o:Obj) (its:Array Value) (n:Nat),K.lookup a=some o/\o.cls=.type "tuple"/\o.data=.seq its n/\its.size<=sizeLine/\Vals xs its.toList
def absV:Value->Option V
 |.none=>some .non
 |.bool b=>some (.bl b)
 |.int i _=>some (.int i)
 |.str x _=>some (.str x)
 |.bytes b _=>some (.byt b)
 |.float b _=>some (.flt b)
 |.ref a=>some (.ref a)
 |.type n=>some (.ty n)
 |_=>none
theorem RelV.abs{x:V}{u:Value}(r:RelV x u):absV u=some x:=by
 cases x with
 |non=>cases r;rfl
 |bl _=>cases r;rfl
 |int _=>obtain⟨t,rfl⟩:=r;rfl
 |str _=>obtain⟨t,rfl⟩:=r;rfl
 |byt _=>obtain⟨t,rfl⟩:=r;rfl
 |flt _=>obtain⟨t,rfl⟩:=r;rfl
 |ref _=>cases r;rfl
 |ty _=>cases r;rfl
theorem RelV.inj{x y:V}{u:Value}(r:RelV x u)(q:RelV y u):x=y:=Option.some.inj (r.abs.symm.trans q.abs)
theorem Vals.inj:∀{xs ys:List V} {us:List Value},Vals xs us->Vals ys us->xs=ys
 |_,_,_,.nil,.nil=>rfl
 |_,_,_,.cons r t,.cons r' t'=>by rw [r.inj r',Vals.inj t t']
section
variable {X:Cx}{pins:List (Addr × Obj)}{σ:St}{H:Hp}{s:Shared}{a:Addr}{xs ys:List V}
theorem SqL.of{K:PySem.W.Frag}(h:H a=some (.lst xs)):SqL K H a xs:=.inl (.inl h)
theorem SqT.of{K:PySem.W.Frag}(h:H a=some (.tup xs)):SqT K H a xs:=.inl (.inl h)
theorem Inv.list(I:Inv X pins σ H s)(h:SqL X.K H a xs):∃its:List Value,Vals xs its/\PlainL s.heap a its.toArray/\xs.length<=sizeLine:=by
 rcases h with h |⟨o,its,n,hk,hc,hd,hs,hz,r⟩
 ·obtain⟨z,its,n,r,e⟩:=h.ok I.hok
  exact⟨its,r,⟨_,n,e,rfl,rfl,rfl⟩,z⟩
 ·refine⟨its.toList,r,⟨o,n,I.kIn a o hk,hc,hd,by simpa using hs⟩,?_⟩
  have e:=r.length
  simp only [Array.length_toList] at e
  omega
theorem Inv.tuple(I:Inv X pins σ H s)(h:SqT X.K H a xs):∃its:List Value,Vals xs its/\IsTup s.heap a its.toArray/\xs.length<=sizeLine:=by
 rcases h with h |⟨o,its,n,hk,hc,hs,hz,r⟩
 ·obtain⟨z,its,r,p⟩:=h.ok I.hok
  exact⟨its,r,p,z⟩
 ·refine⟨its.toList,r,⟨o,I.kIn a o hk,hc,n,by simpa using hs⟩,?_⟩
  have e:=r.length
  simp only [Array.length_toList] at e
  omega
theorem Inv.list_inj(I:Inv X pins σ H s)(h:SqL X.K H a xs)(h':SqL X.K H a ys):xs=ys:=by
 obtain⟨its,r,⟨o,n,e,_,_,d⟩,_⟩:=I.list h
 obtain⟨its',r',⟨o',n',e',_,_,d'⟩,_⟩:=I.list h'
 rw [e] at e';cases e'
 rw [d] at d'
 injection d' with d1 _
 have:its=its':=by simpa using congrArg Array.toList d1
 subst this
 exact r.inj r'
end
abbrev Cx.wish(X:Cx)(E:Value->Shared->Prop):Cx:={X with xe:=E}
abbrev Cx.nox(X:Cx):Cx:=X.wish fun _ _=>False
theorem Cx.Ok.wish{X:Cx}(ok:X.Ok)(E:Value->Shared->Prop):(X.wish E).Ok:=
 ⟨ok.mod,ok.kind,ok.glob,ok.blt,ok.above,ok.inj,ok.has,ok.cab,ok.hd,ok.frames,ok.stk,ok.exf,ok.bs,ok.bsz,ok.noex,ok.exfs,ok.funs,ok.frf⟩
theorem Cx.Ok.unwish{X:Cx}{E:Value->Shared->Prop}(ok:(X.wish E).Ok):X.Ok:=
 ⟨ok.mod,ok.kind,ok.glob,ok.blt,ok.above,ok.inj,ok.has,ok.cab,ok.hd,ok.frames,ok.stk,ok.exf,ok.bs,ok.bsz,ok.noex,ok.exfs,ok.funs,ok.frf⟩
section
variable {X:Cx}{pins:List (Addr × Obj)}{σ:St}{H:Hp}{s:Shared}{E:Value->Shared->Prop}
theorem Inv.wish(I:Inv X pins σ H s)(E:Value->Shared->Prop):Inv (X.wish E) pins σ H s:=⟨I.ok.wish E,I.os,I.bare,I.base,I.loc,I.cell,I.free,I.freeC,I.pin,I.hok,I.len⟩
theorem Inv.unwish(I:Inv (X.wish E) pins σ H s):Inv X pins σ H s:=⟨I.ok.unwish,I.os,I.bare,I.base,I.loc,I.cell,I.free,I.freeC,I.pin,I.hok,I.len⟩
theorem SP.unwish{D:Ends}{f:Flow}{s':Shared}(h:SP (X.wish E) pins D f s'):SP X pins D f s':=by
 cases f with
 |next=>obtain⟨σ',H',I,q⟩:=h;exact⟨σ',H',I.unwish,q⟩
 |brk=>obtain⟨σ',H',I,q⟩:=h;exact⟨σ',H',I.unwish,q⟩
 |cont=>obtain⟨σ',H',I,q⟩:=h;exact⟨σ',H',I.unwish,q⟩
 |ret u=>obtain⟨v,σ',H',I,r,q⟩:=h;exact⟨v,σ',H',I.unwish,r,q⟩
theorem PSs.nox{st:List Stmt}{t:TS}(h:PSs X.nox st t):PSs X st t:=fun pins s σ H D I hw=>
 wpAny_mono (h pins s σ H D (I.wish _) hw) (fun _ _ q=>q.unwish) fun _ _ z=>False.elim z
end
section
variable {X:Cx}{st:Stmt}{rest:List Stmt}{t u:TS}{e:Expr}{te:TE}{pos:Pos}
def tNext:TS:=fun D σ H=>D.nx σ H
def tSeq(t u:TS):TS:=fun D σ H=>t {D with nx:=u D} σ H
theorem aQ:PSs X [] tNext:=fun _ _ σ H _ I h=>wpAny_execs_nil ⟨σ,H,I,h⟩
theorem ab(h1:PS X st t)(h2:PSs X rest u):PSs X (st::rest) (tSeq t u):=by
 intro pins s σ H D I h
 refine wpAny_execs_cons (thn (h1 pins s σ H {D with nx:=u D} I h) fun f s1 q=>?_)
 cases f with
 |next=>
  obtain⟨σ',H',I',q⟩:=q
  exact h2 pins s1 σ' H' D I' q
 |ret v=>exact q
 |brk=>exact q
 |cont=>exact q
theorem ak(h1:PS X st t):PSs X [st] t:=by
 intro pins s σ H D I h
 refine wpAny_execs_cons (thn (h1 pins s σ H D I h) fun f s1 q=>?_)
 cases f with
 |next=>exact wpAny_execs_nil q
 |ret v=>exact q
 |brk=>exact q
 |cont=>exact q
theorem Inv.quiet{pins:List (Addr × Obj)}{σ:St}{H:Hp}{s:Shared}(I:Inv X pins σ H s):interactive X.env=false:=by simp [interactive,I.ok.kind]
def tDrop(te:TE):TS:=fun D σ H=>te σ H fun _ H1=>D.nx σ H1
theorem bx(he:PE X e te)(hs:swapsWith e none pos.line X.env=pure false:=by rfl):PS X (.Expr e pos) (tDrop te):=by
 intro pins s σ H D I h
 exact wpAny_Expr_any (thn (he pins s σ H _ I h) fun v s1 ⟨x,H1,I1,r1,q1⟩=>⟨σ,H1,I1,q1⟩) I.quiet hs
def tRet(te:TE):TS:=fun D σ H=>te σ H D.rt
theorem aC(he:PE X e te):PS X (.Return (some e) pos) (tRet te):=by
 intro pins s σ H D I h
 exact wpAny_Return_some (thn (he pins s σ H _ I h) fun v s1 ⟨x,H1,I1,r1,q1⟩=>⟨x,σ,H1,I1,r1,q1⟩)
def tIfS(c:TT)(t u:TS):TS:=fun D σ H=>c σ H fun b H1=>if b=true then t D σ H1 else u D σ H1
theorem br{c:Expr}{a b:List Stmt}{tc:TT}(hc:PT X c tc)(ha:PSs X a t)(hb:PSs X b u):PS X (.If c a b pos) (tIfS tc t u):=by
 intro pins s σ H D I h
 refine wpAny_If (thn (hc pins s σ H _ I h) fun d s1 ⟨H1,I1,q1⟩=>?_)
 cases d with
 |true=>exact ha pins s1 σ H1 D I1 q1
 |false=>exact hb pins s1 σ H1 D I1 q1
end
abbrev TG:=V->St->Hp->(St->Hp->Prop)->Prop
abbrev TGs:=List V->St->Hp->(St->Hp->Prop)->Prop
def PG(X:Cx)(target:Expr)(t:TG):Prop:=
 ∀(pins:List (Addr × Obj)) (s:Shared) (σ:St) (H:Hp) (v:V) (u:Value) (Q:St->Hp->Prop),Inv X pins σ H s->RelV v u->t v σ H Q->
  wpAny (model X.prog X.w) X.A (assign target X.env u) (fun _ s'=>∃σ' H',Inv X pins σ' H' s'/\Q σ' H') X.xe s
def PGs(X:Cx)(ts:List Expr)(t:TGs):Prop:=
 ∀(pins:List (Addr × Obj)) (s:Shared) (σ:St) (H:Hp) (vs:List V) (us:List Value) (Q:St->Hp->Prop),Inv X pins σ H s->Vals vs us->t vs σ H Q->
  wpAny (model X.prog X.w) X.A (assignInOrder ((assignEach ts X.env).map (·.2)) us) (fun _ s'=>∃σ' H',Inv X pins σ' H' s'/\Q σ' H') X.xe s
abbrev TSet:=V->V->V->Hp->(Hp->Prop)->Prop
def PSet(X:Cx)(t:TSet):Prop:=
 ∀(pins:List (Addr × Obj)) (s:Shared) (σ:St) (H:Hp) (o i v:V) (ov iv u:Value) (Q:Hp->Prop),Inv X pins σ H s->RelV o ov->RelV i iv->RelV v u->t o i v H Q->
  wpAny (model X.prog X.w) X.A (setItem ov iv u) (fun _ s'=>∃H',Inv X pins σ H' s'/\Q H') X.xe s
abbrev TIp:=V->V->Hp->VK->Prop
def PIp(X:Cx)(op:Operator)(t:TIp):Prop:=
 ∀(pins:List (Addr × Obj)) (s:Shared) (σ:St) (H:Hp) (x y:V) (v u:Value) (Q:VK),Inv X pins σ H s->RelV x v->RelV y u->t x y H Q->
  wpAny (model X.prog X.w) X.A (inplaceOp op v u) (EP X pins σ Q) X.xe s
section
variable {X:Cx}{pos:Pos}
def gName(i:Nat):TG:=fun v σ H Q=>Q (σ.set i (some v)) H
theorem bb{i:Nat}{x:Str}(hN:X.N.Nodup)(hi:X.N[i]?=some x)(hx:Loc X.env.scope x)(hf:X.fn x=true\/X.env.scope.names.lookup x=some .local:=by first |exact .inl rfl |exact .inr rfl |assumption):PG X (.Name x pos) (gName i):=by
 intro pins s σ H v u Q I r h
 exact wpAny_assign_Name (iy I hN hi hx r (fun s' I'=>⟨_,H,I',h⟩) hf)
def gNil:TGs:=fun vs σ H Q=>vs=[]/\Q σ H
inductive nQ(t:TG)(u:TGs)(vs:List V)(σ:St)(H:Hp)(Q:St->Hp->Prop):Prop
 |mk:∀v r,(vs=v::r)->(t v σ H fun σ' H'=>u r σ' H' Q)->nQ t u vs σ H Q
def gCons(t:TG)(u:TGs):TGs:=fun vs σ H Q=>nQ t u vs σ H Q
theorem ot:PGs X [] gNil:=by
 intro pins s σ H vs us Q I r h
 obtain⟨e,h⟩:=h
 subst e
 cases r
 exact assignInOrder_nil ⟨σ,H,I,h⟩
theorem dW{e:Expr}{es:List Expr}{t:TG}{u:TGs}(h1:PG X e t)(h2:PGs X es u)
  (hs:(assignEach (e::es) X.env).map (·.2)=assign e X.env::(assignEach es X.env).map (·.2):=by rfl):PGs X (e::es) (gCons t u):=by
 intro pins s σ H vs us Q I r h
 obtain⟨v,vr,e1,h⟩:=h
 subst e1
 cases r with
 |cons r rr=>
  rw [hs]
  refine assignInOrder_cons (thn (h1 pins s σ H _ _ _ I r h) fun _ s1 ⟨σ1,H1,I1,q1⟩=>?_)
  exact h2 pins s1 σ1 H1 _ _ Q I1 rr q1
inductive qr(K:PySem.W.Frag)(n:Nat)(t:TGs)(v:V)(σ:St)(H:Hp)(Q:St->Hp->Prop):Prop
 |mk:∀a xs,(v=.ref a)->(SqT K H a xs)->(xs.length=n)->(t xs σ H Q)->qr K n t v σ H Q
def gTup(K:PySem.W.Frag)(n:Nat)(t:TGs):TG:=fun v σ H Q=>qr K n t v σ H Q
theorem qh{es:List Expr}{k:Nat}{t:TGs}{n:Nat}(hc:X.calm=true)(h:PGs X es t)
  (hn:(assignEach es X.env).length=n:=by rfl) (hst:(assignEach es X.env).findIdx? (·.1)=none:=by rfl):PG X (.Tuple es k pos) (gTup X.K n t):=by
 intro pins s σ H v u Q I r hw
 obtain⟨a,xs,e1,hq,hl,hw⟩:=hw
 subst e1
 cases r
 obtain⟨its,rv,ht,hz⟩:=I.tuple hq
 refine assign_Tuple_tuple (I.ok.hd hc) ht (by simp [hn,<-hl,rv.length]) hst fun h' hx=>?_
 have I1:Inv X pins σ H {s with heap:=h'}:=I.kept (t':=s.toks) fun b o e=>hx b o (Nat.ne_of_lt (Heap.lt_size e)) e
 exact h pins _ σ H xs _ Q I1 (by simpa using rv) hw
def gSub(to ti:TE)(t:TSet):TG:=fun v σ H Q=>to σ H fun o H1=>ti σ H1 fun i H2=>t o i v H2 fun H3=>Q σ H3
theorem bZ{o i:Expr}{to ti:TE}{t:TSet}(ho:PE X o to)(hi:PE X i ti)(hs:PSet X t)
  (ha:∀v,assign (.Subscript o i pos) X.env v=(do
   let ov <-holding [v] (eval o X.env)
   let iv <-holding [v,ov] (eval i X.env)
   standAt pos
   holding [v,ov,iv] (setItem ov iv v)
   release [v,ov,iv] []):=by intro _;rfl):PG X (.Subscript o i pos) (gSub to ti t):=by
 intro pins s σ H v u Q I r h
 rw [ha]
 refine wpAny_bind (wpAny_holding (thn (ho pins s σ H _ I h) fun ov s1 ⟨x,H1,I1,r1,q1⟩=>?_))
 refine wpAny_bind (wpAny_holding (thn (hi pins s1 σ H1 _ I1 q1) fun iv s2 ⟨y,H2,I2,r2,q2⟩=>?_))
 refine wpAny_bind (wpAny_standAt (wpAny_bind (wpAny_holding (thn (hs pins s2 σ H2 x y v ov iv u _ I2 r1 r2 r q2) fun _ s3 ⟨H3,I3,q3⟩=>?_))))
 exact wpAny_release ⟨σ,H3,I3,q3⟩
def tAsg(te:TE)(g:TG):TS:=fun D σ H=>te σ H fun x H1=>g x σ H1 D.nx
theorem bY{tg e:Expr}{te:TE}{g:TG}(he:PE X e te)(hg:PG X tg g)(hs:swapsWithSole [tg] e pos.line X.env=pure false:=by rfl)(hw:swappedStores [tg] e X.env=pure none:=by rfl)
  (h1:(assignEach [tg] X.env).map (·.2)=[assign tg X.env]:=by rfl):PS X (.Assign [tg] e pos) (tAsg te g):=by
 intro pins s σ H D I h
 refine wpAny_Assign_stores (thn (he pins s σ H _ I h) fun v s1 ⟨x,H1,I1,r1,q1⟩=>?_) hs hw
 rw [h1]
 exact thn (hg pins s1 σ H1 x v _ I1 r1 q1) fun _ s2 q=>q
theorem aw{i:Nat}{x:Str}{e:Expr}{te:TE}{pos':Pos}(hN:X.N.Nodup)(hi:X.N[i]?=some x)(hx:Loc X.env.scope x)(he:PE X e te)(hs:swapsWith e (some (.Name x pos')) pos.line X.env=pure false:=by rfl)(hf:X.fn x=true\/X.env.scope.names.lookup x=some .local:=by first |exact .inl rfl |exact .inr rfl |assumption):
  PS X (.Assign [.Name x pos'] e pos) (tAsg te (gName i)):=by
 intro pins s σ H D I h
 refine wpAny_Assign_Name (thn (he pins s σ H _ I h) fun v s1 ⟨y,H1,I1,r1,q1⟩=>?_) hs
 exact iy I1 hN hi hx r1 (fun s2 I2=>⟨_,H1,I2,q1⟩) hf
inductive qf(i:Nat)(te:TE)(ti:TIp)(D:Ends)(σ:St)(H:Hp):Prop
 |mk:∀x,(σ[i]?=some (some x))->(te σ H fun y H1=>ti x y H1 fun z H2=>D.nx (σ.set i (some z)) H2)->qf i te ti D σ H
def tAug(i:Nat)(te:TE)(ti:TIp):TS:=fun D σ H=>qf i te ti D σ H
theorem qP{i:Nat}{x:Str}{e:Expr}{te:TE}{op:Operator}{ti:TIp}{pos':Pos}(hN:X.N.Nodup)(hi:X.N[i]?=some x)(hx:Loc X.env.scope x)(he:PE X e te)(ho:PIp X op ti)(hf:X.fn x=true\/X.env.scope.names.lookup x=some .local:=by first |exact .inl rfl |exact .inr rfl |assumption):
  PS X (.AugAssign (.Name x pos') op e pos) (tAug i te ti):=by
 intro pins s σ H D I h
 obtain⟨v,e1,h⟩:=h
 obtain⟨m,hn,hl⟩:=I.loc
 have vis:Vis X.env.scope x:=by rcases hx with k |k;exact .inl k;exact .inr (.inl k)
 obtain⟨u,r,l⟩:=hl i x v hi e1 vis
 refine wpAny_AugAssign_Name ?_
 have go:wpAny (model X.prog X.w) X.A (eval e X.env) (fun w s₂=>wpAny (model X.prog X.w) X.A (inplaceOp op u w) (fun r s₃=>wpAny (model X.prog X.w) X.A (storeName X.env x r) (fun _=>SP X pins D .next) X.xe s₃) X.xe s₂) X.xe s:=by
  refine thn (he pins s σ H _ I h) fun w s1 ⟨y,H1,I1,r1,q1⟩=>?_
  refine thn (ho pins s1 σ H1 v y u w _ I1 r r1 q1) fun z s2 ⟨zv,H2,I2,r2,q2⟩=>?_
  exact iy I2 hN hi hx r2 (fun s3 I3=>⟨_,H2,I3,q2⟩) hf
 rcases l with⟨hk,hm⟩|⟨hk,c,hc,hcell⟩
 ·exact wpAny_loadName_local I.ok.kind hk hn hm go
 ·rcases hk with hk |hk
  ·exact wpAny_loadName_cell I.ok.kind hk hc hcell go
  ·rcases hx with k |k
   ·have:X.env.scope.names.lookup x=some .free:=hk
    rw [k] at this;cases this
   ·have:X.env.scope.names.lookup x=some .free:=hk
    rw [k] at this;cases this
def tAugS(to ti te:TE)(tget:V->V->Hp->VK->Prop)(tip:TIp)(tset:TSet):TS:=fun D σ H=>to σ H fun o H1=>ti σ H1 fun i H2=>tget o i H2 fun x H3=>te σ H3 fun y H4=>tip x y H4 fun z H5=>tset o i z H5 fun H6=>D.nx σ H6
def PGet(X:Cx)(t:V->V->Hp->VK->Prop):Prop:=
 ∀(pins:List (Addr × Obj)) (s:Shared) (σ:St) (H:Hp) (o i:V) (ov iv:Value) (Q:VK),Inv X pins σ H s->RelV o ov->RelV i iv->t o i H Q->
  wpAny (model X.prog X.w) X.A (getItem ov iv) (EP X pins σ Q) X.xe s
theorem ui{o i e:Expr}{to ti te:TE}{tget:V->V->Hp->VK->Prop}{tip:TIp}{tset:TSet}{op:Operator}{tpos:Pos}(ho:PE X o to)(hi:PE X i ti)(hg:PGet X tget)(he:PE X e te)(hp:PIp X op tip)(hs:PSet X tset)
  (ha:∀ov iv new,augStore i ov iv new=(do holding [new,ov,iv] (setItem ov iv new);release [new,ov,iv] [];pure .next):=by intros;rfl):PS X (.AugAssign (.Subscript o i tpos) op e pos) (tAugS to ti te tget tip tset):=by
 intro pins s σ H D I h
 refine wpAny_AugAssign_SubscriptAny (thn (ho pins s σ H _ I h) fun ov s1 ⟨x1,H1,I1,r1,q1⟩=>?_) ha
 refine thn (hi pins s1 σ H1 _ I1 q1) fun iv s2 ⟨x2,H2,I2,r2,q2⟩=>?_
 refine thn (hg pins s2 σ H2 x1 x2 ov iv _ I2 r1 r2 q2) fun old s3 ⟨x3,H3,I3,r3,q3⟩=>?_
 refine thn (he pins s3 σ H3 _ I3 q3) fun v s4 ⟨x4,H4,I4,r4,q4⟩=>?_
 refine thn (hp pins s4 σ H4 x3 x4 old v _ I4 r3 r4 q4) fun new s5 ⟨x5,H5,I5,r5,q5⟩=>?_
 exact thn (hs pins s5 σ H5 x1 x2 x5 ov iv new _ I5 r1 r2 r5 q5) fun _ s6 ⟨H6,I6,q6⟩=>⟨σ,H6,I6,q6⟩
inductive uG(f:Int->Int->Int)(x y:V)(H:Hp)(Q:VK):Prop
 |mk:∀i j,(x=.int i)->(y=.int j)->(Q (.int (f i j)) H)->uG f x y H Q
def ipI(f:Int->Int->Int):TIp:=fun x y H Q=>uG f x y H Q
theorem mX:PIp X .Add (ipI fun i j=>i+j):=by
 intro pins s σ H x y v u Q I r1 r2 h
 obtain⟨i,j,e1,e2,q⟩:=h
 subst e1;subst e2
 obtain⟨t,rfl⟩:=r1
 obtain⟨t',rfl⟩:=r2
 exact iadd_int ⟨.int _,H,I.tok _,⟨_,rfl⟩,q⟩
end
section
variable {X:Cx}{pos:Pos}
def tWhile(c:TT)(tb:TS):TS:=fun D σ H=>∃W:Nat->St->Hp->Prop,(∃m,W m σ H)/\∀m σ H,W m σ H->
 c σ H fun b H1=>if b=true then ∃N:St->Hp->Prop,(∀σ' H',N σ' H'->∃m',m'<m/\W m' σ' H')/\tb {D with nx:=N,ct:=N,bk:=D.nx} σ H1 else D.nx σ H1
theorem jr{c:Expr}{body:List Stmt}{tc:TT}{tb:TS}(hp:PassesOwn (model X.prog X.w) X.A X.env X.xe)(hc:PT X c tc)(hb:PSs X body tb):PS X (.While c body [] pos) (tWhile tc tb):=by
 intro pins s σ H D I h
 obtain⟨W,⟨m0,w0⟩,turn⟩:=h
 refine wpAny_While (codeAny_whileLoop (fun n s'=>∃σ' H',Inv X pins σ' H' s'/\W n σ' H') ?_ m0 ⟨σ,H,I,w0⟩)
 rintro n s1 ⟨σ1,H1,I1,w1⟩
 refine wpAny_passesOwn hp (thn (hc pins s1 σ1 H1 _ I1 (turn n σ1 H1 w1)) fun b s2 ⟨H2,I2,q2⟩=>?_)
 cases b with
 |true=>
  obtain⟨N,hN,q2⟩:=q2
  rw [if_pos rfl]
  refine wpAny_passesOwn hp (thn (hb pins s2 σ1 H2 _ I2 q2) fun f s3 q3=>?_)
  cases f with
  |next=>
   obtain⟨σ3,H3,I3,n3⟩:=q3
   obtain⟨m',hm,w3⟩:=hN σ3 H3 n3
   exact⟨m',hm,σ3,H3,I3,w3⟩
  |cont=>
   obtain⟨σ3,H3,I3,n3⟩:=q3
   obtain⟨m',hm,w3⟩:=hN σ3 H3 n3
   exact⟨m',hm,σ3,H3,I3,w3⟩
  |brk=>exact q3
  |ret v=>exact q3
 |false=>
  rw [if_neg Bool.false_ne_true]
  exact wpAny_execs_nil ⟨σ1,H2,I2,q2⟩
end
structure It where
 go:Nat->Hp->Prop
 yld:Nat->Hp->V->Hp->Prop
 stop:Nat->Hp->Prop
def FpOk(X:Cx)(pins:List (Addr × Obj))(H:Hp)(b:Addr):Prop:=
 H b=none/\b≠X.env.locals/\b∉X.fs/\(b∈X.ex\/X.s_0.heap.objs.size<=b)/\(∀x c,X.env.cells.lookup x=some c->c≠b)/\∀p∈X.pn++pins,p.1≠b
theorem Inv.fpOk{X:Cx}{pins:List (Addr × Obj)}{σ:St}{H H':Hp}{s:Shared}{b:Addr}(I:Inv X pins σ H s)(hb:s.heap.objs.size<=b)(hn:H' b=none):FpOk X pins H' b:=by
 refine⟨hn,Nat.ne_of_gt (Nat.lt_of_lt_of_le I.lt hb),I.nofs hb,.inr (Nat.le_trans I.sz hb),fun x c e z=>?_,fun p hp z=>?_⟩
 ·obtain⟨v,q⟩:=I.cell x c e
  exact absurd (Nat.lt_of_lt_of_le q.lt (by rw [z];exact hb)) (Nat.lt_irrefl _)
 ·exact absurd (Nat.lt_of_lt_of_le (Heap.lt_size (I.pin p hp).1) (by rw [z];exact hb)) (Nat.lt_irrefl _)
structure Turn(P:Program)(w:World)(K:PySem.W.Frag)(tg:Expr)(J:It)(fp:List Addr)(it:Addr)(tn:Nat->Heap->Prop):Prop where
 mem:it∈fp
 obj:∀i h,tn i h->∀b∈fp,∃o,h.get? b=some o/\∀v,o.data≠.cell v
 keep:∀i h h',tn i h->(∀b∈fp,∀o,h.get? b=some o->h'.get? b=some o)->tn i h'
 item:∀(X:Cx),X.prog=P->X.w=w->X.K=K->X.calm=true->∀(i:Nat) (pins:List (Addr × Obj)) (s:Shared) (σ:St) (H:Hp) (E:Value->Shared->Prop),Inv X pins σ H s->(∀b∈fp,FpOk X pins H b)->tn i s.heap->J.go i H->
  wpAny (model P w) X.A (pyNext (.ref it)) (fun r s1=>∃u,r=some u/\
   wpAny (model P w) X.A (letOwnedTupleGo tg (.ref it) u) (fun _ s2=>∃x H',Inv X pins σ H' s2/\RelV x u/\J.yld i H x H'/\tn (i+1) s2.heap/\∀b∈fp,H' b=none) E s1) E s
 done:∀(X:Cx),X.prog=P->X.w=w->X.K=K->X.calm=true->∀(i:Nat) (pins:List (Addr × Obj)) (s:Shared) (σ:St) (H:Hp) (E:Value->Shared->Prop),Inv X pins σ H s->(∀b∈fp,FpOk X pins H b)->tn i s.heap->J.stop i H->
  wpAny (model P w) X.A (pyNext (.ref it)) (fun r s1=>r=none/\Inv X pins σ H s1) E s
 self:∀(A:Around) (i:Nat) (s:Shared) (Q:Value->Shared->Prop) (E:Value->Shared->Prop),tn i s.heap->Q (.ref it) s->wpAny (model P w) A (pyIter (.ref it)) Q E s
abbrev TI:=St->Hp->(It->Hp->Prop)->Prop
def PIE(X:Cx)(pins:List (Addr × Obj))(σ:St)(tg:Expr)(R:It->Hp->Prop)(itv:Value)(s2:Shared):Prop:=
 ∃(it:Addr) (fp:List Addr) (tn:Nat->Heap->Prop) (J:It) (H':Hp),itv=.ref it/\Inv X pins σ H' s2/\Turn X.prog X.w X.K tg J fp it tn/\tn 0 s2.heap/\(∀b∈fp,FpOk X pins H' b)/\R J H'
def PI(X:Cx)(tg iter:Expr)(wi:TI):Prop:=
 ∀(pins:List (Addr × Obj)) (s:Shared) (σ:St) (H:Hp) (R:It->Hp->Prop),Inv X pins σ H s->wi σ H R->
  wpAny (model X.prog X.w) X.A (eval iter X.env) (fun v s1=>wpAny (model X.prog X.w) X.A (pyIter v) (PIE X pins σ tg R) X.xe s1) X.xe s
theorem rF{M:Model}{A:Around}{E:Value->Shared->Prop}{s:Shared}{tg:Expr}{it:Addr}{u:Value}{o:Obj}{n:String}{vs:Array Value}{Q:Unit->Shared->Prop}(ho:s.heap.get? it=some o)(hc:o.cls=.type n)(hd:o.data=.fields vs)
  (hn:["enumerate","zip","dict_itemiterator","dict_reverseitemiterator","odict_iterator","itertools.zip_longest","itertools.pairwise"].contains n=false) (hQ:Q () s):wpAny M A (letOwnedTupleGo tg (.ref it) u) Q E s:=by
 unfold letOwnedTupleGo
 cases tg <;> first
  |exact wpAny_pure hQ
  |(cases u <;> first
    |exact wpAny_pure hQ
    |(refine wpAny_bind (wpAny_load ho ?_)
      rw [hc,hd]
      show wpAny M A (if (["enumerate","zip","dict_itemiterator","dict_reverseitemiterator","odict_iterator","itertools.zip_longest","itertools.pairwise"].contains n && vs[0]?==some (rawInt _))=true then _ else _) Q E s
      rw [if_neg (by intro h;rw [hn,Bool.false_and] at h;cases h)]
      exact wpAny_pure hQ))
def Itl(K:PySem.W.Frag)(a:Addr):It:=
 ⟨fun i H=>∃xs x,SqL K H a xs/\xs[i]?=some x,fun i H x H'=>H'=H/\∀xs,SqL K H a xs->xs[i]?=some x,fun i H=>∃xs,SqL K H a xs/\xs.length<=i⟩
def Itr(lo:Int)(n:Nat):It:=⟨fun i _=>i<n,fun i H x H'=>H'=H/\x=.int (lo+i),fun i _=>n<=i⟩
theorem qc{P:Program}{w:World}{K:PySem.W.Frag}{tg:Expr}(a it:Addr):Turn P w K tg (Itl K a) [it] it (fun i h=>h.IsListIter it a i) where
 mem:=by simp
 obj:=fun i h st b hb=>by
  have e:b=it:=by simpa using hb
  subst e
  obtain⟨o,e,c,d⟩:=st
  exact⟨o,e,fun v z=>by rw [d] at z;cases z⟩
 keep:=fun i h h' st k=>st.at fun o e=>k it (by simp) o e
 item:=by
  intro X hP hw hK hc i pins s σ H E I hf st hg
  subst hP hw hK
  obtain⟨xs,x,hq,hx⟩:=hg
  obtain⟨its,rv,p,hz⟩:=I.list hq
  obtain⟨u,hu,ru⟩:=rv.get hx
  obtain⟨f0,f1,f2,f3,f4,f5⟩:=hf it (by simp)
  refine wpAny_pyNext_list_item st p.isList (x:=u) (by simpa using hu) fun h' st' sb=>?_
  have I1:Inv X pins σ H {s with heap:=h'}:=I.turned (t':=s.toks) (fun b o hb e=>(sb.2 b hb).trans e) f0 f1 f3 f4 f5
  obtain⟨o,e,c,d⟩:=id st'
  exact⟨u,rfl,rF (s:={s with heap:=h'}) e c d (by decide) ⟨x,H,I1,ru,⟨rfl,fun ys hy=>by rw [I.list_inj hy hq];exact hx⟩,st',fun b hb=>(hf b hb).1⟩⟩
 done:=by
  intro X hP hw hK hc i pins s σ H E I hf st hg
  subst hP hw hK
  obtain⟨xs,hq,hx⟩:=hg
  obtain⟨its,rv,p,hz⟩:=I.list hq
  obtain⟨f0,f1,f2,f3,f4,f5⟩:=hf it (by simp)
  have hl:=rv.length
  exact wpAny_pyNext_list_end (I.ok.hd hc) st p.isList (by simp;omega) fun h' eb=>⟨rfl,I.turned (t':=s.toks) (fun b o hb e=>eb b o hb e) f0 f1 f3 f4 f5⟩
 self:=fun _ _ _ _ _ st h=>wpAny_pyIter_listiter st h
theorem m7{P:Program}{w:World}{K:PySem.W.Frag}{tg:Expr}(it:Addr)(lo:Int)(n:Nat):Turn P w K tg (Itr lo n) [it] it (fun i h=>IsRangeIter h it (lo+(i:Nat)*1) ((n:Int)-(i:Nat)) 1) where
 mem:=by simp
 obj:=fun i h st b hb=>by
  have e:b=it:=by simpa using hb
  subst e
  exact⟨_,st,fun v z=>by
   have z':Data.fields _=Data.cell v:=z
   cases z'⟩
 keep:=fun i h h' st k=>k it (by simp) _ st
 item:=by
  intro X hP hw hK hc i pins s σ H E I hf st hg
  subst hP hw hK
  obtain⟨f0,f1,f2,f3,f4,f5⟩:=hf it (by simp)
  have W:=Walks.range (prog:=X.prog) (w:=X.w) (I.ok.hd hc) it lo 1 n
  refine W.item i s _ _ hg st fun v h' tk hv st' kk=>?_
  obtain⟨t,rfl⟩:=hv
  have I1:Inv X pins σ H {s with heap:=h',toks:=tk}:=I.turned (fun b o hb e=>kk b o (by simpa using hb) e) f0 f1 f3 f4 f5
  refine⟨_,rfl,rF (s:={s with heap:=h',toks:=tk}) (n:="range_iterator") st' rfl rfl (by decide) ⟨.int (lo+i),H,I1,⟨t,?_⟩,⟨rfl,rfl⟩,st',fun b hb=>(hf b hb).1⟩⟩
  rw [Int.mul_one]
 done:=by
  intro X hP hw hK hc i pins s σ H E I hf st hg
  subst hP hw hK
  obtain⟨f0,f1,f2,f3,f4,f5⟩:=hf it (by simp)
  exact wpAny_pyNext_range_end (I.ok.hd hc) st (by have:n<=i:=hg;omega) fun h' eb=>⟨rfl,I.turned (t':=s.toks) (fun b o hb e=>eb b o hb e) f0 f1 f3 f4 f5⟩
 self:=fun _ _ _ _ _ st h=>wpAny_pyIter_rangeiter st h
end L2
namespace L2
open PySem PySem.Spec PyProof.Rows
section
variable {X:Cx}{tg:Expr}
inductive oM(K:PySem.W.Frag)(x:V)(H1:Hp)(R:It->Hp->Prop):Prop
 |mk:∀a,(x=.ref a)->((∃xs,SqL K H1 a xs))->(R (Itl K a) H1)->oM K x H1 R
def iList(K:PySem.W.Frag)(tl:TE):TI:=fun σ H R=>tl σ H fun x H1=>oM K x H1 R
theorem cX{l:Expr}{tl:TE}(hl:PE X l tl):PI X tg l (iList X.K tl):=by
 intro pins s σ H R I h
 refine thn (hl pins s σ H _ I h) fun v s1 ⟨x,H1,I1,r1,q1⟩=>?_
 obtain⟨a,e,⟨xs,hq⟩,q⟩:=q1
 subst e
 cases r1
 obtain⟨its,rv,p,hz⟩:=I1.list hq
 refine wpAny_pyIter_list p.isList ?_
 refine⟨s1.heap.objs.size,[s1.heap.objs.size],_,_,H1,rfl,I1.kept (t':=s1.toks) fun b o e=>Heap.get?_push_of_some _ e,qc a _,⟨_,Heap.get?_push_size _ rfl,rfl,rfl⟩,fun b hb=>?_,q⟩
 have e:b=s1.heap.objs.size:=by simpa using hb
 subst e
 exact I1.fpOk (Nat.le_refl _) (I1.hok.fresh (Nat.le_refl _))
theorem lR{pins:List (Addr × Obj)}{σ:St}{H:Hp}{s:Shared}{R:It->Hp->Prop}{E:Value->Shared->Prop}{lo hi:Int}{t u v:Tok}{tk:Nat}(I:Inv X pins σ H s)(h1:-(2^62)<=lo)(h2:lo<2^62)(h3:-(2^62)<=hi)(h4:hi<2^62)
  (q:R (Itr lo (hi-lo).toNat) H):wpAny (model X.prog X.w) X.A (pyIter (.ref s.heap.objs.size)) (PIE X pins σ tg R) E {s with heap:=s.heap.push {cls:=.type "range",data:=.fields #[.int lo t,.int hi u,.int 1 v]},toks:=tk}:=by
 refine wpAny_pyIter_range (IsRange.new ..) (small_one h1 h2 h3 h4) ?_
 have I1:Inv X pins σ H {s with heap:=s.heap.push {cls:=.type "range",data:=.fields #[.int lo t,.int hi u,.int 1 v]},toks:=tk}:=I.kept fun b o e=>Heap.get?_push_of_some _ e
 refine⟨(s.heap.push {cls:=.type "range",data:=.fields #[.int lo t,.int hi u,.int 1 v]}).objs.size,[(s.heap.push {cls:=.type "range",data:=.fields #[.int lo t,.int hi u,.int 1 v]}).objs.size],_,_,H,rfl,
  I1.kept (t':=tk) fun b o e=>Heap.get?_push_of_some _ e,m7 _ lo (hi-lo).toNat,?_,fun b hb=>?_,q⟩
 ·have e1:lo+((0:Nat):Int)*1=lo:=by simp
  have e2:(((hi-lo).toNat:Nat):Int)-((0:Nat):Int)=Builtin.Range.rangeSize lo hi 1:=by rw [rangeSize_one];split <;> omega
  show IsRangeIter _ _ (lo+((0:Nat):Int)*1) ((((hi-lo).toNat:Nat):Int)-((0:Nat):Int)) 1
  rw [e1,e2]
  exact Heap.get?_push_size _ rfl
 ·have e:b=(s.heap.push {cls:=.type "range",data:=.fields #[.int lo t,.int hi u,.int 1 v]}).objs.size:=by simpa using hb
  subst e
  exact I1.fpOk (Nat.le_refl _) (I1.hok.fresh (Nat.le_refl _))
inductive ou(vs:List V)(H1:Hp)(R:It->Hp->Prop):Prop
 |mk:∀j:Int,(vs=[.int j])->(-(2^62)<=j)->(j<2^62)->(R (Itr 0 j.toNat) H1)->ou vs H1 R
def iRng1(ta:TA):TI:=fun σ H R=>ta σ H fun vs H1=>ou vs H1 R
inductive oh(vs:List V)(H1:Hp)(R:It->Hp->Prop):Prop
 |mk:∀i j:Int,(vs=[.int i,.int j])->((-(2^62)<=i/\i<2^62/\-(2^62)<=j/\j<2^62))->(R (Itr i (j-i).toNat) H1)->oh vs H1 R
def iRng2(ta:TA):TI:=fun σ H R=>ta σ H fun vs H1=>oh vs H1 R
theorem fb{a:Expr}{ta:TA}{p pos:Pos}(hg:Gl X "range")(hm:X.mg "range"=none)(ha:PA X [a] ta)(hs:starEach [a] X.env=[(false,eval a X.env)]:=by rfl):PI X tg (.Call (.Name "range" p) [a] [] pos) (iRng1 ta):=by
 intro pins s σ H R I h
 refine Call_ (eG I hg hm boot_range (PyProof.Rows.callWith_type1 (thn (ha pos pins s σ H _ I h) fun us s1 ⟨vs,H1,I1,r1,q1⟩=>?_) hs rfl))
 obtain⟨j,e,q1,q2,q⟩:=q1
 subst e
 cases r1 with
 |cons r rr=>
  cases rr
  obtain⟨t,rfl⟩:=r
  exact call_range_1 (lR I1 (by omega) (by omega) q1 q2 (by simpa using q))
theorem dt{a b:Expr}{ta:TA}{p pos:Pos}(hg:Gl X "range")(hm:X.mg "range"=none)(ha:PA X [a,b] ta)(hs:starEach [a,b] X.env=[(false,eval a X.env),(false,eval b X.env)]:=by rfl)(hs2:starEach [b] X.env=[(false,eval b X.env)]:=by rfl):
  PI X tg (.Call (.Name "range" p) [a,b] [] pos) (iRng2 ta):=by
 intro pins s σ H R I h
 refine Call_ (eG I hg hm boot_range (PyProof.Rows.callWith_type1 (thn (ha pos pins s σ H _ I h) fun us s1 ⟨vs,H1,I1,r1,q1⟩=>?_) (by rw [hs,hs2]) (by rw [hs2];rfl)))
 obtain⟨i,j,e,⟨q1,q2,q3,q4⟩,q⟩:=q1
 subst e
 cases r1 with
 |cons r rr=>
  cases rr with
  |cons r' rr=>
   cases rr
   obtain⟨t,rfl⟩:=r
   obtain⟨t',rfl⟩:=r'
   exact call_range_2 (lR I1 q1 q2 q3 q4 q)
def tFor(wi:TI)(g:TG)(tb:TS):TS:=fun D σ H=>wi σ H fun J H1=>∃W:Nat->Nat->St->Hp->Prop,(∃m,W 0 m σ H1)/\∀i m σ H,W i m σ H->
 (J.stop i H/\D.nx σ H)\/(J.go i H/\∃N:St->Hp->Prop,(∀σ' H',N σ' H'->∃m',m'<m/\W (i+1) m' σ' H')/\∀x H',J.yld i H x H'->g x σ H' fun σ2 H2=>tb {D with nx:=N,ct:=N,bk:=D.nx} σ2 H2)
def pinsAt(fp:List Addr)(h:Heap):List (Addr × Obj):=fp.filterMap fun b=>(h.get? b).map fun o=>(b,o)
theorem fj{fp:List Addr}{h:Heap}{b:Addr}{o:Obj}(hb:b∈fp)(e:h.get? b=some o):(b,o)∈pinsAt fp h:=List.mem_filterMap.mpr ⟨b,hb,by rw [e];rfl⟩
theorem oY{fp:List Addr}{h:Heap}{p:Addr × Obj}(hp:p∈pinsAt fp h):p.1∈fp/\h.get? p.1=some p.2:=by
 obtain⟨b,hb,e⟩:=List.mem_filterMap.mp hp
 cases q:h.get? b with
 |none=>rw [q] at e;cases e
 |some o=>
  rw [q] at e
  have e':(b,o)=p:=Option.some.inj e
  subst e'
  exact⟨hb,q⟩
theorem Inv.pinned{pins:List (Addr × Obj)}{σ:St}{H:Hp}{s:Shared}{fp:List Addr}(I:Inv X pins σ H s)(hf:∀b∈fp,FpOk X pins H b)(ho:∀b∈fp,∃o,s.heap.get? b=some o/\∀v,o.data≠.cell v):Inv X (pins++pinsAt fp s.heap) σ H s:=
 I.pins_of fun p hp=>(List.mem_append.mp hp).elim (fun z=>I.pin p (List.mem_append_right _ z)) fun z=>by
  obtain⟨hb,e⟩:=oY z
  obtain⟨f0,f1,f2,_⟩:=hf p.1 hb
  obtain⟨o,e',d⟩:=ho p.1 hb
  rw [e] at e';cases e'
  exact⟨e,f0,f1,f2,d⟩
theorem Inv.unpinned{pins pl:List (Addr × Obj)}{σ:St}{H:Hp}{s:Shared}(I:Inv X (pins++pl) σ H s):Inv X pins σ H s:=I.pins_of fun p hp=>I.pin p (List.mem_append_right _ (List.mem_append_left _ hp))
theorem de{iter:Expr}{body:List Stmt}{wi:TI}{g:TG}{tb:TS}{pos:Pos}(hp:PassesOwn (model X.prog X.w) X.A X.env X.xe)(hc:X.calm=true)(hi:PI X tg iter wi)(hg:PG X tg g)(hb:PSs X body tb)
  (hs:∀x,foldedSetIterable iter X.env x=pure x:=by intro _;rfl):PS X (.For tg iter body [] pos) (tFor wi g tb):=by
 intro pins s σ H D I h
 refine wpAny_For (thn (hi pins s σ H _ I h) fun v s1 h1=>thn h1 fun itv s2 h2=>?_) hs
 obtain⟨it,fp,tn,J,H2,e,I2,T,st2,f2,W,⟨m0,w0⟩,turn⟩:=h2
 subst e
 have stat:∀{H':Hp},(∀b∈fp,H' b=none)->∀b∈fp,FpOk X pins H' b:=fun hn b hb=>⟨hn b hb,(f2 b hb).2⟩
 refine codeAny_forLoop_any (fun n s'=>∃i σ' H',Inv X pins σ' H' s'/\tn i s'.heap/\(∀b∈fp,H' b=none)/\W i n σ' H') ?_ m0 ⟨0,σ,H2,I2,st2,fun b hb=>(f2 b hb).1,w0⟩
 rintro n s3 ⟨i,σ3,H3,I3,st3,fr3,w3⟩
 rcases turn i n σ3 H3 w3 with⟨stop,qn⟩|⟨go,N,hN,step⟩
 ·refine wpAny_passesOwn hp (thn (T.done X rfl rfl rfl hc i pins s3 σ3 H3 X.xe I3 (stat fr3) st3 stop) fun r s4 ⟨hr,I4⟩=>?_)
  subst hr
  exact wpAny_execs_nil ⟨σ3,H3,I4,qn⟩
 ·refine wpAny_passesOwn hp (thn (T.item X rfl rfl rfl hc i pins s3 σ3 H3 X.xe I3 (stat fr3) st3 go) fun r s4 ⟨u,hr,h4⟩=>?_)
  subst hr
  refine wpAny_passesOwn hp (thn h4 fun _ s5 ⟨x,H5,I5,r5,y5,st5,fr5⟩=>?_)
  have I5':=I5.pinned (stat fr5) (T.obj _ _ st5)
  refine wpAny_passesOwn hp (thn (hg _ s5 σ3 H5 x u _ I5' r5 (step x H5 y5)) fun _ s6 ⟨σ6,H6,I6,q6⟩=>?_)
  refine wpAny_passesOwn hp (thn (hb _ s6 σ6 H6 _ I6 q6) fun f s7 q7=>?_)
  have again:∀{σ7:St} {H7:Hp},Inv X (pins++pinsAt fp s5.heap) σ7 H7 s7->N σ7 H7->∃m,m<n/\∃i σ' H',Inv X pins σ' H' s7/\tn i s7.heap/\(∀b∈fp,H' b=none)/\W i m σ' H':=fun {σ7 H7} I7 n7=>by
   obtain⟨m',hm,w7⟩:=hN σ7 H7 n7
   refine⟨m',hm,i+1,σ7,H7,I7.unpinned,T.keep _ _ _ st5 fun b hb o e=>(I7.pin (b,o) (List.mem_append_right _ (List.mem_append_right _ (fj hb e)))).1,fun b hb=>?_,w7⟩
   obtain⟨o,e,d⟩:=T.obj _ _ st5 b hb
   exact (I7.pin (b,o) (List.mem_append_right _ (List.mem_append_right _ (fj hb e)))).2.1
  cases f with
  |next=>obtain⟨σ7,H7,I7,n7⟩:=q7;exact again I7 n7
  |cont=>obtain⟨σ7,H7,I7,n7⟩:=q7;exact again I7 n7
  |brk=>obtain⟨σ7,H7,I7,q7⟩:=q7;exact⟨σ7,H7,I7.unpinned,q7⟩
  |ret v=>obtain⟨x7,σ7,H7,I7,r7,q7⟩:=q7;exact⟨x7,σ7,H7,I7.unpinned,r7,q7⟩
end
theorem dh{lo:Int}{n:Nat}{g:TG}{tb:TS}{D:Ends}{σ:St}{H:Hp}(Pv:Nat->St->Hp->Prop)(h0:Pv 0 σ H)
  (hs:∀i σ H,i<n->Pv i σ H->g (.int (lo+i)) σ H fun σ2 H2=>tb {D with nx:=Pv (i+1),ct:=Pv (i+1),bk:=D.nx} σ2 H2) (hd:∀σ H,Pv n σ H->D.nx σ H):
  ∃W:Nat->Nat->St->Hp->Prop,(∃m,W 0 m σ H)/\∀i m σ H,W i m σ H->
   ((Itr lo n).stop i H/\D.nx σ H)\/((Itr lo n).go i H/\∃N:St->Hp->Prop,(∀σ' H',N σ' H'->∃m',m'<m/\W (i+1) m' σ' H')/\∀x H',(Itr lo n).yld i H x H'->g x σ H' fun σ2 H2=>tb {D with nx:=N,ct:=N,bk:=D.nx} σ2 H2):=by
 refine⟨fun i m σ H=>m=n-i/\i<=n/\Pv i σ H,⟨n,by simp,Nat.zero_le _,h0⟩,?_⟩
 rintro i m σ H ⟨rfl,hi,p⟩
 by_cases hlt:i<n
 ·refine .inr ⟨hlt,Pv (i+1),fun σ' H' p'=>⟨n-(i+1),by omega,rfl,hlt,p'⟩,fun x H' y=>?_⟩
  obtain⟨e,y⟩:=y
  subst e y
  exact hs i σ _ hlt p
 ·have e:i=n:=by omega
  subst e
  exact .inl ⟨Nat.le_refl _,hd σ H p⟩
end L2
namespace L2
open PySem PySem.Spec PyProof.Rows
abbrev R2:=V->V->Hp->VK->Prop
def OpR(X:Cx)(f:Value->Value->Sem Value)(r:R2):Prop:=
 ∀(pins:List (Addr × Obj)) (s:Shared) (σ:St) (H:Hp) (x y:V) (v u:Value) (Q:VK),Inv X pins σ H s->RelV x v->RelV y u->r x y H Q->
  wpAny (model X.prog X.w) X.A (f v u) (EP X pins σ Q) X.xe s
def UnR(X:Cx)(f:Value->Sem Value)(r:V->Hp->VK->Prop):Prop:=
 ∀(pins:List (Addr × Obj)) (s:Shared) (σ:St) (H:Hp) (x:V) (v:Value) (Q:VK),Inv X pins σ H s->RelV x v->r x H Q->
  wpAny (model X.prog X.w) X.A (f v) (EP X pins σ Q) X.xe s
def CallR(X:Cx)(f:Value)(r:List V->Hp->VK->Prop):Prop:=
 ∀(pins:List (Addr × Obj)) (s:Shared) (σ:St) (H:Hp) (xs:List V) (us:List Value) (Q:VK),Inv X pins σ H s->Vals xs us->r xs H Q->
  wpAny (model X.prog X.w) X.A (call f us) (EP X pins σ Q) X.xe s
def TruR(X:Cx)(r:V->Hp->(Bool->Hp->Prop)->Prop):Prop:=
 ∀(pins:List (Addr × Obj)) (s:Shared) (σ:St) (H:Hp) (x:V) (v:Value) (Q:Bool->Hp->Prop),Inv X pins σ H s->RelV x v->r x H Q->
  wpAny (model X.prog X.w) X.A (truthy v) (TP X pins σ Q) X.xe s
def tOp(r:R2)(ta tb:TE):TE:=fun σ H Q=>ta σ H fun x H1=>tb σ H1 fun y H2=>r x y H2 Q
def tUn(r:V->Hp->VK->Prop)(ta:TE):TE:=fun σ H Q=>ta σ H fun x H1=>r x H1 Q
inductive vK(C:Int->Int->Prop)(g:Int->Int->V)(x y:V)(H:Hp)(Q:VK):Prop
 |mk:∀i j,(x=.int i)->(y=.int j)->(C i j)->(Q (g i j) H)->vK C g x y H Q
def rI(C:Int->Int->Prop)(g:Int->Int->V):R2:=fun x y H Q=>vK C g x y H Q
inductive uE(g:Int->Int->V)(x y:V)(H:Hp)(Q:VK):Prop
 |mk:∀i j,(x=.int i)->(y=.int j)->(Q (g i j) H)->uE g x y H Q
def rI0(g:Int->Int->V):R2:=fun x y H Q=>uE g x y H Q
inductive vO(g:Int->V)(x:V)(H:Hp)(Q:VK):Prop
 |mk:∀i,(x=.int i)->(Q (g i) H)->vO g x H Q
def rU(g:Int->V):V->Hp->VK->Prop:=fun x H Q=>vO g x H Q
section
variable {X:Cx}{a b c:Expr}{ta tb tc:TE}{pos:Pos}
theorem binT(ha:PE X a ta)(hb:PE X b tb){pins:List (Addr × Obj)}{s:Shared}{σ:St}{H:Hp}{R:V->V->Hp->Prop}(I:Inv X pins σ H s)
  (h:ta σ H fun x H1=>tb σ H1 fun y H2=>R x y H2) {Q:Value->Shared->Prop} {f:Value->Value->Sem Value}
  (hf:∀v u s2 x y H2,Inv X pins σ H2 s2->RelV x v->RelV y u->R x y H2->wpAny (model X.prog X.w) X.A (f v u) Q X.xe s2):
  wpAny (model X.prog X.w) X.A (eval a X.env) (fun v s₁=>wpAny (model X.prog X.w) X.A (eval b X.env) (fun u s₂=>wpAny (model X.prog X.w) X.A (f v u) Q X.xe s₂) X.xe s₁) X.xe s:=by
 refine thn (ha pins s σ H _ I h) fun v s1 ⟨x,H1,I1,r1,q1⟩=>?_
 refine thn (hb pins s1 σ H1 _ I1 q1) fun u s2 ⟨y,H2,I2,r2,q2⟩=>?_
 exact hf v u s2 x y H2 I2 r1 r2 q2
theorem ao{op:Operator}{r:R2}(ho:OpR X (binaryOp op) r)(ha:PE X a ta)(hb:PE X b tb):PE X (.BinOp a op b pos) (tOp r ta tb):=by
 intro pins s σ H Q I h
 exact wpAny_BinOp (binT ha hb I h fun v u s2 x y H2 I2 rx ry q=>ho pins s2 σ H2 x y v u Q I2 rx ry q)
theorem cf{op:UnaryOp}{r:V->Hp->VK->Prop}(ho:UnR X (unaryOp op) r)(ha:PE X a ta):PE X (.UnaryOp op a pos) (tUn r ta):=by
 intro pins s σ H Q I h
 exact UnaryOp_ (thn (ha pins s σ H _ I h) fun v s1 ⟨x,H1,I1,r1,q1⟩=>ho pins s1 σ H1 x v Q I1 r1 q1)
theorem opI{f:Value->Value->Sem Value}{C:Int->Int->Prop}{g:Int->Int->Int}
  (rule:∀(i j:Int) (t u:Tok) (s:Shared) (Q:Value->Shared->Prop) (E:Value->Shared->Prop),C i j->Q (.int (g i j) s.toks) {s with toks:=s.toks+1}->wpAny (model X.prog X.w) X.A (f (.int i t) (.int j u)) Q E s):
  OpR X f (rI C fun i j=>.int (g i j)):=by
 intro pins s σ H x y v u Q I rx ry h
 obtain⟨i,j,rfl,rfl,hc,q⟩:=h
 obtain⟨t,rfl⟩:=rx
 obtain⟨t',rfl⟩:=ry
 exact rule i j t t' s _ _ hc ⟨.int (g i j),H,I.tok _,⟨_,rfl⟩,q⟩
theorem opI0{f:Value->Value->Sem Value}{g:Int->Int->Int}
  (rule:∀(i j:Int) (t u:Tok) (s:Shared) (Q:Value->Shared->Prop) (E:Value->Shared->Prop),Q (.int (g i j) s.toks) {s with toks:=s.toks+1}->wpAny (model X.prog X.w) X.A (f (.int i t) (.int j u)) Q E s):
  OpR X f (rI0 fun i j=>.int (g i j)):=by
 intro pins s σ H x y v u Q I rx ry h
 obtain⟨i,j,rfl,rfl,q⟩:=h
 obtain⟨t,rfl⟩:=rx
 obtain⟨t',rfl⟩:=ry
 exact rule i j t t' s _ _ ⟨.int (g i j),H,I.tok _,⟨_,rfl⟩,q⟩
theorem opB0{f:Value->Value->Sem Value}{g:Int->Int->Bool}
  (rule:∀(i j:Int) (t u:Tok) (s:Shared) (Q:Value->Shared->Prop) (E:Value->Shared->Prop),Q (.bool (g i j)) s->wpAny (model X.prog X.w) X.A (f (.int i t) (.int j u)) Q E s):
  OpR X f (rI0 fun i j=>.bl (g i j)):=by
 intro pins s σ H x y v u Q I rx ry h
 obtain⟨i,j,rfl,rfl,q⟩:=h
 obtain⟨t,rfl⟩:=rx
 obtain⟨t',rfl⟩:=ry
 exact rule i j t t' s _ _ ⟨.bl (g i j),H,I,rfl,q⟩
def CPow(i j:Int):Prop:=0<=j/\j<=1000000/\i.natAbs<2^64
def CMul(i j:Int):Prop:=(-(2^64)<i/\i<2^64)\/(-(2^64)<j/\j<2^64)
theorem CMul.ok{i j:Int}(h:CMul i j):IntMulOk i j:=by
 rcases h with⟨h1,h2⟩|⟨h1,h2⟩
 ·exact .of_left (intBits_le_64 h1 h2)
 ·exact .of_right (intBits_le_64 h1 h2)
theorem aF:OpR X (binaryOp .Add) (rI0 fun i j=>.int (i+j)):=opI0 fun _ _ _ _ _ _ _ q=>add_int q
theorem aN:OpR X (binaryOp .Sub) (rI0 fun i j=>.int (i-j)):=opI0 fun _ _ _ _ _ _ _ q=>sub_int q
theorem c9:OpR X (binaryOp .Mult) (rI CMul fun i j=>.int (i*j)):=opI fun _ _ _ _ _ _ _ hc q=>mul_int q hc.ok
theorem gf:OpR X (binaryOp .Mod) (rI (fun _ j=>0<j) fun i j=>.int (i%j)):=opI fun i j _ _ _ _ _ hc q=>by
 have h1:(0:Int)<j:=hc
 exact mod_int' (by omega) (by rw [Int.fmod_eq_emod_of_nonneg i (by omega)];exact q)
theorem uX:OpR X (binaryOp .Pow) (rI CPow fun i j=>.int (i^j.toNat)):=opI fun _ _ _ _ _ _ _ hc q=>pow_int_small hc.1 hc.2.1 hc.2.2 q
theorem unI{f:Value->Sem Value}{g:Int->Int}
  (rule:∀(i:Int) (t:Tok) (s:Shared) (Q:Value->Shared->Prop) (E:Value->Shared->Prop),Q (.int (g i) s.toks) {s with toks:=s.toks+1}->wpAny (model X.prog X.w) X.A (f (.int i t)) Q E s):
  UnR X f (rU fun i=>.int (g i)):=by
 intro pins s σ H x v Q I rx h
 obtain⟨i,rfl,q⟩:=h
 obtain⟨t,rfl⟩:=rx
 exact rule i t s _ _ ⟨.int (g i),H,I.tok _,⟨_,rfl⟩,q⟩
theorem bK:UnR X (unaryOp .USub) (rU fun i=>.int (-i)):=unI fun _ _ _ _ _ q=>neg_int q
end
def scal:V->V->Bool
 |.non,.non=>true |.non,.int _=>true |.int _,.non=>true |.non,.bl _=>true |.bl _,.non=>true |.non,.str _=>true |.str _,.non=>true
 |.int _,.int _=>true |.bl _,.bl _=>true |.str _,.str _=>true |.byt _,.byt _=>true
 |.int _,.str _=>true |.str _,.int _=>true |.bl _,.str _=>true |.str _,.bl _=>true
 |_,_=>false
def rEq:R2:=fun x y H Q=>scal x y=true/\Q (.bl (decide (x=y))) H
def rNe:R2:=fun x y H Q=>scal x y=true/\Q (.bl (!decide (x=y))) H
theorem oQ{i j:Int}:decide (V.int i=V.int j)=(i==j):=by
 rw [Bool.eq_iff_iff]
 simp
theorem sj{i j:Bool}:decide (V.bl i=V.bl j)=(i==j):=by
 rw [Bool.eq_iff_iff]
 simp
theorem oI{i j:Str}:decide (V.str i=V.str j)=(i==j):=by
 rw [Bool.eq_iff_iff]
 simp
theorem nZ{i j:Array UInt8}:decide (V.byt i=V.byt j)=(i.toList==j.toList):=by
 rw [Bool.eq_iff_iff]
 cases i
 cases j
 simp
section
variable {X:Cx}{a b c:Expr}{ta tb tc:TE}{pos:Pos}
theorem a9{pins:List (Addr × Obj)}{σ:St}{H:Hp}{s:Shared}{Q:VK}{k k':Bool}(I:Inv X pins σ H s)(q:Q (.bl k) H)(e:k=k'):EP X pins σ Q (.bool k') s:=by
 subst e
 exact⟨.bl k,H,I,rfl,q⟩
theorem dv:OpR X (compareOp .Eq) rEq:=by
 intro pins s σ H x y v u Q I rx ry h
 obtain⟨hs,q⟩:=h
 cases x with
 |non=>
  cases rx
  cases y with
  |non=>cases ry;exact PySem.EqNone.eq_none_none (a9 I q (by simp))
  |bl j=>cases ry;exact PySem.EqNone.eq_none_bool (a9 I q (by simp))
  |int j=>obtain⟨t',rfl⟩:=ry;exact PySem.EqNone.eq_none_int (a9 I q (by simp))
  |str j=>obtain⟨t',rfl⟩:=ry;exact PySem.EqNone.eq_none_str (a9 I q (by simp))
  |_=>exact absurd (show false=true from hs) Bool.false_ne_true
 |bl i=>
  cases rx
  cases y with
  |non=>cases ry;exact PySem.EqNone.eq_bool_none (a9 I q (by simp))
  |bl j=>cases ry;exact eq_bool (a9 I q sj)
  |str j=>obtain⟨t',rfl⟩:=ry;exact PySem.EqMixed.eq_bool_str (a9 I q (by simp))
  |_=>exact absurd (show false=true from hs) Bool.false_ne_true
 |int i=>
  obtain⟨t,rfl⟩:=rx
  cases y with
  |non=>cases ry;exact PySem.EqNone.eq_int_none (a9 I q (by simp))
  |int j=>obtain⟨t',rfl⟩:=ry;exact eq_int (a9 I q oQ)
  |str j=>obtain⟨t',rfl⟩:=ry;exact PySem.EqMixed.eq_int_str (a9 I q (by simp))
  |_=>exact absurd (show false=true from hs) Bool.false_ne_true
 |str i=>
  obtain⟨t,rfl⟩:=rx
  cases y with
  |non=>cases ry;exact PySem.EqNone.eq_str_none (a9 I q (by simp))
  |bl j=>cases ry;exact PySem.EqMixed.eq_str_bool (a9 I q (by simp))
  |int j=>obtain⟨t',rfl⟩:=ry;exact PySem.EqMixed.eq_str_int (a9 I q (by simp))
  |str j=>obtain⟨t',rfl⟩:=ry;exact eq_str (a9 I q oI)
  |_=>exact absurd (show false=true from hs) Bool.false_ne_true
 |byt i=>
  obtain⟨t,rfl⟩:=rx
  cases y with
  |byt j=>obtain⟨t',rfl⟩:=ry;exact PySem.W.eq_bytes (a9 I q nZ)
  |_=>exact absurd (show false=true from hs) Bool.false_ne_true
 |_=>cases y <;> exact absurd (show false=true from hs) Bool.false_ne_true
theorem vI:OpR X (compareOp .NotEq) rNe:=by
 intro pins s σ H x y v u Q I rx ry h
 obtain⟨hs,q⟩:=h
 cases x with
 |non=>
  cases rx
  cases y with
  |non=>cases ry;exact PySem.EqNone.ne_none_none (a9 I q (by simp))
  |bl j=>cases ry;exact PySem.EqNone.ne_none_bool (a9 I q (by simp))
  |int j=>obtain⟨t',rfl⟩:=ry;exact PySem.EqNone.ne_none_int (a9 I q (by simp))
  |str j=>obtain⟨t',rfl⟩:=ry;exact PySem.EqNone.ne_none_str (a9 I q (by simp))
  |_=>exact absurd (show false=true from hs) Bool.false_ne_true
 |bl i=>
  cases rx
  cases y with
  |non=>cases ry;exact PySem.EqNone.ne_bool_none (a9 I q (by simp))
  |bl j=>cases ry;exact ne_bool (a9 I q (congrArg not sj))
  |str j=>obtain⟨t',rfl⟩:=ry;exact PySem.EqMixed.ne_bool_str (a9 I q (by simp))
  |_=>exact absurd (show false=true from hs) Bool.false_ne_true
 |int i=>
  obtain⟨t,rfl⟩:=rx
  cases y with
  |non=>cases ry;exact PySem.EqNone.ne_int_none (a9 I q (by simp))
  |int j=>obtain⟨t',rfl⟩:=ry;exact ne_int (a9 I q (congrArg not oQ))
  |str j=>obtain⟨t',rfl⟩:=ry;exact PySem.EqMixed.ne_int_str (a9 I q (by simp))
  |_=>exact absurd (show false=true from hs) Bool.false_ne_true
 |str i=>
  obtain⟨t,rfl⟩:=rx
  cases y with
  |non=>cases ry;exact PySem.EqNone.ne_str_none (a9 I q (by simp))
  |bl j=>cases ry;exact PySem.EqMixed.ne_str_bool (a9 I q (by simp))
  |int j=>obtain⟨t',rfl⟩:=ry;exact PySem.EqMixed.ne_str_int (a9 I q (by simp))
  |str j=>obtain⟨t',rfl⟩:=ry;exact ne_str (a9 I q (congrArg not oI))
  |_=>exact absurd (show false=true from hs) Bool.false_ne_true
 |byt i=>
  obtain⟨t,rfl⟩:=rx
  cases y with
  |byt j=>obtain⟨t',rfl⟩:=ry;exact PySem.W.ne_bytes (a9 I q (congrArg not nZ))
  |_=>exact absurd (show false=true from hs) Bool.false_ne_true
 |_=>cases y <;> exact absurd (show false=true from hs) Bool.false_ne_true
theorem dS:OpR X (compareOp .Lt) (rI0 fun i j=>.bl (decide (i<j))):=opB0 fun _ _ _ _ _ _ _ q=>lt_int q
theorem lI:OpR X (compareOp .LtE) (rI0 fun i j=>.bl (decide (i<=j))):=opB0 fun _ _ _ _ _ _ _ q=>le_int q
theorem oz:OpR X (compareOp .Gt) (rI0 fun i j=>.bl (decide (j<i))):=opB0 fun _ _ _ _ _ _ _ q=>gt_int q
theorem sC:OpR X (compareOp .GtE) (rI0 fun i j=>.bl (decide (j<=i))):=opB0 fun _ _ _ _ _ _ _ q=>ge_int q
theorem aX(b:Expr){op:CmpOp}(h:op≠.In:=by decide)(h2:op≠.NotIn:=by decide):behindInMarks op b=false:=by
 have e1:(op==CmpOp.In)=false:=by cases op <;> first |rfl |exact absurd rfl h
 have e2:(op==CmpOp.NotIn)=false:=by cases op <;> first |rfl |exact absurd rfl h2
 cases b <;> simp [behindInMarks,e1,e2]
theorem uy{op:CmpOp}{r:R2}(ho:OpR X (compareOp op) r)(ha:PE X a ta)(hb:PE X b tb)(hm:behindInMarks op b=false):PE X (.Compare a [op] [b] pos) (tOp r ta tb):=by
 intro pins s σ H Q I h
 exact wpAny_Compare1 (binT ha hb I h fun v u s2 x y H2 I2 rx ry q=>ho pins s2 σ H2 x y v u Q I2 rx ry q) hm
inductive oC(Q:Bool->Hp->Prop)(x:V)(H':Hp):Prop
 |mk:∀k,(x=.bl k)->(Q k H')->oC Q x H'
def tTest(t:TE):TT:=fun σ H Q=>t σ H fun x H'=>oC Q x H'
theorem aK{op:CmpOp}{r:R2}(ho:OpR X (compareOp op) r)(ha:PE X a ta)(hb:PE X b tb)(hm:behindInMarks op b=false):PT X (.Compare a [op] [b] pos) (tTest (tOp r ta tb)):=by
 intro pins s σ H Q I h
 refine wpAny_isTrue_Compare1 (thn (ha pins s σ H _ I h) fun v s1 ⟨x,H1,I1,r1,q1⟩=>thn (hb pins s1 σ H1 _ I1 q1) fun u s2 ⟨y,H2,I2,r2,q2⟩=>
  thn (ho pins s2 σ H2 x y v u _ I2 r1 r2 q2) fun c s3 ⟨z,H3,I3,r3,k,e,q3⟩=>?_) hm
 subst e
 cases r3
 exact wpAny_truthy_bool ⟨H3,I3,q3⟩
inductive my(r':R2)(tc:TE)(σ:St)(Q:VK)(y z:V)(H3:Hp):Prop
 |mk:∀k,(z=.bl k)->((if k=true then tc σ H3 fun w' H4=>r' y w' H4 Q else Q (.bl false) H3))->my r' tc σ Q y z H3
def tChain(r r':R2)(ta tb tc:TE):TE:=fun σ H Q=>ta σ H fun x H1=>tb σ H1 fun y H2=>r x y H2 fun z H3=>my r' tc σ Q y z H3
theorem qG{op op':CmpOp}{r r':R2}(ho:OpR X (compareOp op) r)(ho':OpR X (compareOp op') r')(ha:PE X a ta)(hb:PE X b tb)(hc:PE X c tc)
  (hm:lastMarks [op,op'] [b,c]=false:=by with_unfolding_all rfl):PE X (.Compare a [op,op'] [b,c] pos) (tChain r r' ta tb tc):=by
 intro pins s σ H Q I h
 refine Compare_chain (thn (ha pins s σ H _ I h) fun v s1 ⟨x,H1,I1,r1,q1⟩=>chain_link (thn (hb pins s1 σ H1 _ I1 q1) fun u s2 ⟨y,H2,I2,r2,q2⟩=>
  thn (ho pins s2 σ H2 x y v u _ I2 r1 r2 q2) fun d s3 ⟨z,H3,I3,r3,k,e,q3⟩=>?_)) hm
 subst e
 cases r3
 refine wpAny_truthy_bool ?_
 cases k with
 |false=>exact ite_ff ⟨.bl false,H3,I3,rfl,q3⟩
 |true=>exact ite_tt (chain_last (thn (hc pins s3 σ H3 _ I3 q3) fun w' s4 ⟨z',H4,I4,r4,q4⟩=>ho' pins s4 σ H4 y z' u w' Q I4 r2 r4 q4))
theorem qV{op op':CmpOp}{r r':R2}(ho:OpR X (compareOp op) r)(ho':OpR X (compareOp op') r')(ha:PE X a ta)(hb:PE X b tb)(hc:PE X c tc)
  (hm:lastMarks [op,op'] [b,c]=false:=by with_unfolding_all rfl):PT X (.Compare a [op,op'] [b,c] pos) (tTest (tChain r r' ta tb tc)):=by
 intro pins s σ H Q I h
 refine isTrue_chain (thn (ha pins s σ H _ I h) fun v s1 ⟨x,H1,I1,r1,q1⟩=>test_link (thn (hb pins s1 σ H1 _ I1 q1) fun u s2 ⟨y,H2,I2,r2,q2⟩=>
  thn (ho pins s2 σ H2 x y v u _ I2 r1 r2 q2) fun d s3 ⟨z,H3,I3,r3,k,e,q3⟩=>?_)) hm
 subst e
 cases r3
 refine wpAny_truthy_bool ?_
 cases k with
 |false=>
  obtain⟨k',e',q'⟩:=q3
  cases e'
  exact ite_ff ⟨H3,I3,q'⟩
 |true=>
  refine ite_tt (test_last (thn (hc pins s3 σ H3 _ I3 q3) fun w' s4 ⟨z',H4,I4,r4,q4⟩=>thn (ho' pins s4 σ H4 y z' u w' _ I4 r2 r4 q4) fun d' s5 ⟨z2,H5,I5,r5,k2,e2,q5⟩=>?_))
  subst e2
  cases r5
  exact wpAny_truthy_bool ⟨H5,I5,q5⟩
def TruV(K:PySem.W.Frag)(x:V)(H:Hp)(k:Bool):Prop:=
 match x with
 |.non=>k=false
 |.bl b=>k=b
 |.int i=>k=(i !=0)
 |.str y=>y.length<=sizeLine/\k=((y.length:Int) !=0)
 |.byt y=>y.size<=sizeLine/\k=((y.size:Int) !=0)
 |.ref p=>(∃xs,SqL K H p xs/\k=!xs.isEmpty)\/(∃xs,SqT K H p xs/\k=!xs.isEmpty)\/∃kvs,H p=some (.dK kvs)/\k=!kvs.isEmpty
 |_=>False
theorem nB{κ:Type}{kvs:List (κ × V)}{vs:List (κ × Value)}(r:KV kvs vs):(!vs.isEmpty)=!kvs.isEmpty:=by
 cases r <;> rfl
theorem iW{xs:List V}{its:List Value}(r:Vals xs its):(!its.toArray.isEmpty)=!xs.isEmpty:=by
 cases r <;> simp
theorem line63:(sizeLine:Nat)<2^63:=by rw [sizeLine_eq];decide
theorem vd:TruR X (fun x H Q=>∃k,TruV X.K x H k/\Q k H):=by
 intro pins s σ H x v Q I rx h
 obtain⟨k,e,q⟩:=h
 have hl:=line63
 have hs:sizeLine=16777216:=sizeLine_eq
 cases x with
 |non=>
  cases rx
  have e':k=false:=e
  subst e'
  exact truthy_none ⟨H,I,q⟩
 |bl b=>
  cases rx
  have e':k=b:=e
  subst e'
  exact wpAny_truthy_bool ⟨H,I,q⟩
 |int i=>
  obtain⟨t,rfl⟩:=rx
  have e':k=(i !=0):=e
  subst e'
  exact PySem.P.truthy_int ⟨H,I,q⟩
 |str y=>
  obtain⟨t,rfl⟩:=rx
  obtain⟨hy,e'⟩:y.length<=sizeLine/\k=((y.length:Int) !=0):=e
  subst e'
  exact PySem.P.truthy_str (by omega) ⟨H,I.tok _,q⟩
 |byt y=>
  obtain⟨t,rfl⟩:=rx
  obtain⟨hy,e'⟩:y.size<=sizeLine/\k=((y.size:Int) !=0):=e
  subst e'
  exact PySem.W.truthy_bytes (by omega) ⟨H,I.tok _,q⟩
 |ref p=>
  cases rx
  have e':(∃xs,SqL X.K H p xs/\k=!xs.isEmpty)\/(∃xs,SqT X.K H p xs/\k=!xs.isEmpty)\/∃kvs,H p=some (.dK kvs)/\k=!kvs.isEmpty:=e
  rcases e' with⟨xs,hx,e'⟩|⟨xs,hx,e'⟩|⟨kvs,hx,e'⟩
  ·subst e'
   obtain⟨its,r,pl,hz⟩:=I.list hx
   have hlen:=r.length
   exact wpAny_truthy_list pl.isList (by simp only [List.size_toArray];omega) ⟨H,I.tok _,by rw [iW r];exact q⟩
  ·subst e'
   obtain⟨its,r,pl,hz⟩:=I.tuple hx
   have hlen:=r.length
   exact truthy_tuple pl (by simp only [List.size_toArray];omega) ⟨H,I.tok _,by rw [iW r];exact q⟩
  ·subst e'
   obtain⟨hz,hS,vs,r,m⟩:kvs.length<=sizeLine/\(p==sysModules)=false/\∃vs,KV kvs vs/\s.heap.DictOf (mixKind X.prog X.w) p vs:=I.hok p _ hx
   have hlen:kvs.length=vs.length:=Paired.length r
   exact wpAny_truthy_dict hS m (by omega) ⟨H,I.tok _,by rw [nB r];exact q⟩
 |_=>exact (show False from e).elim
theorem iS(ha:PE X a ta)(he:∀whole,isTrue a X.env whole=(do let v <-whole;standAt a.pos;holding [v] (truthy v))):
  PT X a (fun σ H Q=>ta σ H fun x H'=>∃k,TruV X.K x H' k/\Q k H'):=by
 intro pins s σ H Q I h
 exact isTrue_plain (thn (ha pins s σ H _ I h) fun v s1 ⟨x,H1,I1,r1,q1⟩=>vd pins s1 σ H1 x v Q I1 r1 q1) (he _)
theorem vals1{x:V}{us:List Value}(r:Vals [x] us):∃u,us=[u]/\RelV x u:=by
 cases r with
 |cons r1 r2=>cases r2;exact⟨_,rfl,r1⟩
end
end L2
namespace L2
open PySem PySem.Spec PyProof.Rows
structure ObjM(h:Heap)(x dx C:Addr)(mA:Str->Option Value):Prop where
 obj:h.get? x=some (PySem.W.instObj C dx)
 ns:h.Ns1 dx mA
 ne:dx≠x
theorem oV{h:Heap}{dx:Addr}{mA:Str->Option Value}(n:h.Ns1 dx mA):∃od,h.get? dx=some od/\∀name,PySem.W.lookIn name od=some (mA name):=by
 obtain⟨o,es,ep,ho,hd,hk,_,hm⟩:=n
 refine⟨o,ho,fun name=>?_⟩
 have e:=hm name
 unfold nsFind findBy at e
 rw [<-Array.find?_toList] at e
 unfold PySem.W.lookIn
 rw [hd]
 dsimp only
 split
 ·rename_i y q
  rw [q] at e
  exact congrArg some e
 ·rename_i q
  rw [q] at e
  have a:es.toList.any (·.refKey)=false:=by
   rw [List.any_eq_false]
   intro y hy
   obtain⟨z,t,hkey⟩:=hk y (Array.mem_toList_iff.mp hy)
   simp [DictEntry.refKey,hkey]
  have a':¬es.toList.any (·.refKey)=true:=by rw [a];exact Bool.false_ne_true
  rw [if_neg a']
  exact congrArg some e
theorem ObjM.look{h:Heap}{x dx C:Addr}{mA:Str->Option Value}(I:ObjM h x dx C mA):∃od,PySem.W.InstAt h x (PySem.W.instObj C dx) C (some od)/\∀name,PySem.W.lookIn name od=some (mA name):=
 let ⟨od,ho,hl⟩:=oV I.ns
 ⟨od,⟨I.obj,rfl,rfl,ho⟩,hl⟩
section
variable {prog:Program}{w:World}{A:Around}{E:Value->Shared->Prop}{s:Shared}{K:PySem.W.Frag}{x dx C f:Addr}{mA:Str->Option Value}{name:Str}{v:Value}
theorem get_map{expr:Bool}{Q:Value->Shared->Prop}(X:K.In s.heap)(I:ObjM s.heap x dx C mA)(hg:PySem.W.plainGet K C name=true)(hh:PySem.W.hasDictIn K C=true)
  (ha:PySem.W.findIn K (.ref C) name=some none) (hv:mA name=some v) (hv':PySem.W.handedIn v=true) (h:Q v {s with toks:=s.toks+1}):
  wpAny (model prog w) A (getAttr (.ref x) name expr) Q E s:=by
 obtain⟨od,J,hl⟩:=I.look
 exact PySem.W.get_value X J (PySem.W.plainGet_of hg).1 (PySem.W.findObj_own hh ha rfl (by rw [hl,hv])) hv' h
theorem su{pl:Sem Bool}{Q:Value × List Value->Shared->Prop}(X:K.In s.heap)(I:ObjM s.heap x dx C mA)(hg:PySem.W.plainGet K C name=true)
  (hf:PySem.W.findIn K (.ref C) name=some (some (.ref f))) (ht:PySem.W.isFn K (.ref f)=true) (hv:mA name=none) (h:Q (.ref f,[.ref x]) s):
  wpAny (model prog w) A (getMethod (.ref x) name pl) Q E s:=by
 obtain⟨od,J,hl⟩:=I.look
 exact PySem.W.method_fn X J (PySem.W.plainGet_of hg).1 (PySem.W.plainGet_of hg).2 hf (beq_iff_eq.mp ht) (by show (PySem.W.lookIn name od).map (·.isSome)=some false;rw [hl,hv];rfl) h
theorem tI{ns:List Str}{Q:Unit->Shared->Prop}(X:K.In s.heap)(I:ObjM s.heap x dx C mA)
  (hs:PySem.W.findIn K (.ref C) "__setattr__"=some (some (.builtin "object.__setattr__"))) (hp:PySem.W.plainOver K C=true) (ht:PySem.W.takerIn K C name=some none) (hh:PySem.W.hasDictIn K C=true)
  (hw:PySem.Within mA ns) (hsz:ns.length<=sizeLine)
  (h:∀h',ObjM h' x dx C (fun y=>if y=name then some v else mA y)->Heap.SameBut dx s.heap h'->Q () {s with heap:=h',toks:=s.toks+2}):
  wpAny (model prog w) A (setAttr (.ref x) name v) Q E s:=by
 obtain⟨od,J,hl⟩:=I.look
 refine PySem.W.set_plain X J hs (PySem.W.osa_open (s:={s with toks:=s.toks+1}) (r:=none) X J hp ht fun b=>?_)
 obtain⟨cd,hc,hd'⟩:=PySem.W.any_some hh
 have hx:s.heap.get? x=some ⟨.ref C,some dx,.plain,#[]⟩:=I.obj
 refine wpAny_bind (wpAny_pure (wpAny_bind (wpAny_bind (wpAny_loadPart hx (wpAny_bind (PySem.W.Looks.here (s:={s with toks:=s.toks+1}) (PySem.W.looks_clsIn X hc) ?_))))))
 rw [hd']
 refine wpAny_pure (a:=some dx) (wpAny_bind (wpAny_pure (wpAny_bind ?_)))
 refine wpAny_nsSet1 (s:={s with toks:=s.toks+1}) I.ns fun h' hn2 hs2=>?_
 obtain⟨oD,esD,epD,hoD,hdD,hcD⟩:=hn2.count (PySem.Within.cons name v hw)
 refine wpAny_bind (wpAny_lookBehind hoD (by rw [hdD];exact pastItsLine_dict (Nat.le_trans hcD (by rw [List.length_cons];omega))) ?_)
 exact wpAny_pure (h _ ⟨(hs2.2 _ (Ne.symm I.ne)).trans I.obj,hn2,I.ne⟩ hs2)
theorem sG{R:Result->Shared->Prop}{vs:List Value}{kw:List (Str × Value)}(X:K.In s.heap)(hm:PySem.W.makesIn K C=true)
  (hi:PySem.W.findIn K (.ref C) "__init__"=some (some (.ref f))) (hf:PySem.W.typeIn K (.ref f)=some (.type "function"))
  (h:codeAny (model prog w) (A.under (.builtin "type.__call__" ⟨.ref C::vs,kw⟩)) (.call (.ref f) ⟨.ref (s.heap.objs.size+1)::vs,kw⟩) (PySem.W.InitBack (s.heap.objs.size+1) R)
   {s with heap:=(s.heap.push PySem.W.emptyDict).push (PySem.W.instObj C s.heap.objs.size)}):
  codeAny (model prog w) A (.call (.ref C) ⟨vs,kw⟩) R s:=by
 obtain⟨hh,g,d,t,os⟩:=s
 exact PySem.W.make_core (PySem.W.makes_of X hm) (PySem.W.looks_findIn X hi) (fun self=>PySem.W.bind_fn X self hf) (.inl rfl) h
end
def putF(f:Str)(v:V):List (Str × V)->List (Str × V)
 |[]=>[(f,v)]
 |(g,x)::r=>if g=f then (g,v)::r else (g,x)::putF f v r
theorem gS(f g:Str)(v:V):∀fs:List (Str × V),(putF f v fs).lookup g=if g=f then some v else fs.lookup g
 |[]=>by
  show List.lookup g [(f,v)]=_
  by_cases h:g=f
  ·have hb:(g==f)=true:=beq_iff_eq.mpr h
   simp only [List.lookup,hb,if_pos h]
  ·have hb:(g==f)=false:=beq_eq_false_iff_ne.mpr h
   simp only [List.lookup,hb,if_neg h]
 |(k,x)::r=>by
  have ih:=gS f g v r
  rw [show putF f v ((k,x)::r)=(if k=f then (k,v)::r else (k,x)::putF f v r) from rfl]
  by_cases hk:k=f
  ·rw [if_pos hk]
   by_cases h:g=k
   ·have hb:(g==k)=true:=beq_iff_eq.mpr h
    simp only [List.lookup,hb,if_pos (h.trans hk)]
   ·have hb:(g==k)=false:=beq_eq_false_iff_ne.mpr h
    simp only [List.lookup,hb,if_neg (fun e:g=f=>h (e.trans hk.symm))]
  ·rw [if_neg hk]
   by_cases h:g=k
   ·have hb:(g==k)=true:=beq_iff_eq.mpr h
    simp only [List.lookup,hb,if_neg (fun e:g=f=>hk (h.symm.trans e))]
   ·have hb:(g==k)=false:=beq_eq_false_iff_ne.mpr h
    simp only [List.lookup,hb]
    exact ih
theorem gp(f:Str)(v:V):∀fs:List (Str × V),f∈(putF f v fs).map (·.1)/\∀g,g∈fs.map (·.1)->g∈(putF f v fs).map (·.1)
 |[]=>⟨by simp [putF],fun g h=>by simp at h⟩
 |(k,x)::r=>by
  obtain⟨i1,i2⟩:=gp f v r
  rw [show putF f v ((k,x)::r)=(if k=f then (k,v)::r else (k,x)::putF f v r) from rfl]
  by_cases hk:k=f
  ·rw [if_pos hk]
   subst hk
   exact⟨by simp,fun g h=>by simpa using h⟩
  ·rw [if_neg hk]
   refine⟨?_,fun g h=>?_⟩
   ·rw [List.map_cons]
    exact List.mem_cons_of_mem _ i1
   ·rw [List.map_cons] at h ⊢
    rcases List.mem_cons.mp h with e |e
    ·exact List.mem_cons.mpr (.inl e)
    ·exact List.mem_cons_of_mem _ (i2 g e)
theorem gW(f:Str)(v:V):∀fs:List (Str × V),(putF f v fs).length<=fs.length+1
 |[]=>by simp [putF]
 |(k,x)::r=>by
  have ih:=gW f v r
  rw [show putF f v ((k,x)::r)=(if k=f then (k,v)::r else (k,x)::putF f v r) from rfl]
  by_cases hk:k=f
  ·rw [if_pos hk,List.length_cons,List.length_cons];omega
  ·rw [if_neg hk,List.length_cons,List.length_cons];omega
theorem RelO.some_of{v:V}{o:Option Value}(r:RelO (some v) o):∃u,o=some u/\RelV v u:=by
 cases o with
 |none=>exact (show False from r).elim
 |some u=>exact⟨u,rfl,r⟩
theorem RelO.none_of{o:Option Value}(r:RelO none o):o=none:=by
 cases o with
 |none=>rfl
 |some u=>exact (show False from r).elim
theorem qa{v:V}{u:Value}(r:RelV v u):PySem.W.handedIn u=true:=by
 cases v with
 |non=>cases (show u=Value.none from r);rfl
 |bl b=>cases (show u=Value.bool b from r);rfl
 |int i=>obtain⟨t,e⟩:=(show ∃t,u=Value.int i t from r);cases e;rfl
 |str x=>obtain⟨t,e⟩:=(show ∃t,u=Value.str x t from r);cases e;rfl
 |byt b=>obtain⟨t,e⟩:=(show ∃t,u=Value.bytes b t from r);cases e;rfl
 |flt b=>obtain⟨t,e⟩:=(show ∃t,u=Value.float b t from r);cases e;rfl
 |ref a=>cases (show u=Value.ref a from r);rfl
 |ty n=>cases (show u=Value.type n from r);rfl
section
variable {P:Program}{w:World}{H H':Hp}{h h':Heap}{a C dx:Addr}{fs fs':List (Str × V)}
theorem kN(hok:HOk P w H h)(e:H a=some (.ins C dx fs)):∃mA,ObjM h a dx C mA/\(∀f,RelO (fs.lookup f) (mA f))/\PySem.Within mA (fs.map (·.1))/\fs.length<=1000/\H dx=some (.own a):=by
 obtain⟨d,z,ne,ob,mA,n,r,q⟩:=(show ObjOk P w H h a (.ins C dx fs) from hok a _ e)
 exact⟨mA,⟨ob,n,ne⟩,r,q,z,d⟩
end
structure Cls(K:PySem.W.Frag)(C:Addr):Prop where
 pg:PySem.W.plainGet K C Str.empty=true
 hd:PySem.W.hasDictIn K C=true
 po:PySem.W.plainOver K C=true
 sa:PySem.W.findIn K (.ref C) "__setattr__"=some (some (.builtin "object.__setattr__"))
theorem Cls.get{K:PySem.W.Frag}{C:Addr}(c:Cls K C)(f:Str):PySem.W.plainGet K C f=true:=c.pg
def NoAttr(K:PySem.W.Frag)(C:Addr)(f:Str):Prop:=PySem.W.findIn K (.ref C) f=some none
theorem NoAttr.taker{K:PySem.W.Frag}{C:Addr}{f:Str}(n:NoAttr K C f):PySem.W.takerIn K C f=some none:=by
 unfold PySem.W.takerIn
 rw [show PySem.W.findIn K (.ref C) f=some none from n]
 rfl
structure Meth(K:PySem.W.Frag)(C:Addr)(m:Str)(f:Addr):Prop where
 at_:PySem.W.findIn K (.ref C) m=some (some (.ref f))
 fn:PySem.W.isFn K (.ref f)=true
 kp:PySem.W.keepIn K (.ref f)=true
section
variable {X:Cx}{pins:List (Addr × Obj)}{σ:St}{H:Hp}{s:Shared}{a C dx:Addr}{fs:List (Str × V)}{f:Str}{v:V}{A:Around}{E:Value->Shared->Prop}
theorem iN{b:Bool}{Q:Value->Shared->Prop}(I:Inv X pins σ H s)(e:H a=some (.ins C dx fs))(c:Cls X.K C)(n:NoAttr X.K C f)(l:fs.lookup f=some v)
  (h:∀u s',Inv X pins σ H s'->RelV v u->Q u s'):wpAny (model X.prog X.w) A (getAttr (.ref a) f b) Q E s:=by
 obtain⟨mA,O,r,_,_,_⟩:=kN I.hok e
 obtain⟨u,hu,ru⟩:=RelO.some_of (v:=v) (o:=mA f) (by rw [<-l];exact r f)
 exact get_map I.kIn O (c.get f) c.hd n hu (qa ru) (h u _ (I.tok _) ru)
theorem iC{m:Str}{g:Addr}{pl:Sem Bool}{Q:Value × List Value->Shared->Prop}(I:Inv X pins σ H s)(e:H a=some (.ins C dx fs))(c:Cls X.K C)(k:Meth X.K C m g)(l:fs.lookup m=none)
  (h:Q (.ref g,[.ref a]) s):wpAny (model X.prog X.w) A (getMethod (.ref a) m pl) Q E s:=by
 obtain⟨mA,O,r,_,_,_⟩:=kN I.hok e
 have hn:mA m=none:=RelO.none_of (by rw [<-l];exact r m)
 exact su I.kIn O (c.get m) k.at_ k.fn hn h
theorem iT{y:V}{u:Value}{Q:Unit->Shared->Prop}(I:Inv X pins σ H s)(e:H a=some (.ins C dx fs))(c:Cls X.K C)(n:NoAttr X.K C f)(hl:fs.length<1000)(ry:RelV y u)
  (h:∀s',Inv X pins σ (upd H a (.ins C dx (putF f y fs))) s'->Q () s'):wpAny (model X.prog X.w) A (setAttr (.ref a) f u) Q E s:=by
 obtain⟨mA,O,r,wi,_,ho⟩:=kN I.hok e
 have hz:(fs.map (·.1)).length<=sizeLine:=by rw [List.length_map,sizeLine_eq];omega
 refine tI I.kIn O c.sa c.po n.taker c.hd wi hz fun h' O' sb=>h _ ?_
 have hd:∃o,h'.get? dx=some o:=let ⟨o,_,_,e',_⟩:=O'.ns;⟨o,e'⟩
 refine I.write (x:=a) (e:=dx) (by rw [e];exact True.intro) (.inr ho) (fun b q hb z=>(sb.2 b hb).trans z) hd ?_
 refine⟨by rw [aM O.ne];exact ho,?_,O.ne,O'.obj,_,O'.ns,fun g=>?_,fun g hg=>?_⟩
 ·have:=gW f y fs;omega
 ·show RelO ((putF f y fs).lookup g) (if g=f then some u else mA g)
  rw [gS]
  by_cases q:g=f
  ·rw [if_pos q,if_pos q];exact ry
  ·rw [if_neg q,if_neg q];exact r g
 ·by_cases q:g=f
  ·rw [q];exact (gp f y fs).1
  ·refine (gp f y fs).2 g (wi g fun z=>hg ?_)
   show (if g=f then some u else mA g)=none
   rw [if_neg q];exact z
theorem Inv.made(I:Inv X pins σ H s):Inv X pins σ (upd (upd H s.heap.objs.size (.own (s.heap.objs.size+1))) (s.heap.objs.size+1) (.ins C s.heap.objs.size []))
  {s with heap:=(s.heap.push PySem.W.emptyDict).push (PySem.W.instObj C s.heap.objs.size)}:=by
 have e1:(s.heap.push PySem.W.emptyDict).get? s.heap.objs.size=some PySem.W.emptyDict:=Heap.get?_push_size s.heap rfl
 have e2:((s.heap.push PySem.W.emptyDict).push (PySem.W.instObj C s.heap.objs.size)).get? (s.heap.objs.size+1)=some (PySem.W.instObj C s.heap.objs.size):=by
  have:=Heap.get?_push_size (s.heap.push PySem.W.emptyDict) (o:=PySem.W.instObj C s.heap.objs.size) rfl
  rwa [Heap.size_push] at this
 have e3:(s.heap.push PySem.W.emptyDict).Ns s.heap.objs.size (fun _=>none):=⟨PySem.W.emptyDict,#[],_,e1,rfl,(fun e he=>absurd he (by simp)),fun _=>rfl⟩
 have I1:=I.laid (a:=s.heap.objs.size) (o:=.own (s.heap.objs.size+1)) (h':=s.heap.push PySem.W.emptyDict) (t':=s.toks) (fun b u q=>Heap.get?_push_of_some _ q) (Nat.le_refl _) ⟨_,e1⟩
 refine I1.laid (a:=s.heap.objs.size+1) (o:=.ins C s.heap.objs.size []) (t':=s.toks) (fun b u q=>Heap.get?_push_of_some _ q) (Nat.le_of_eq (Heap.size_push _ _)) ?_
 have ne:s.heap.objs.size≠s.heap.objs.size+1:=Nat.ne_of_lt (Nat.lt_succ_self _)
 refine⟨by rw [aM ne,ae],Nat.zero_le _,ne,e2,fun _=>none,(Heap.Ns1.of_empty e3).at fun o q=>Heap.get?_push_of_some _ q,fun _=>True.intro,fun y hy=>absurd rfl hy⟩
theorem ug{prog:Program}{w:World}{env:Env}{e:Expr}{f:Str}{pos:Pos}{s:Shared}{Q:Value->Shared->Prop}(hb:attributeBase e f env (eval e env)=eval e env)
  (h:wpAny (model prog w) A (eval e env) (fun o s₁=>wpAny (model prog w) A (getAttr o f true) Q E s₁) E s):wpAny (model prog w) A (eval (.Attribute e f pos) env) Q E s:=
 Attribute_any_ h (by rw [arm_eval_Attribute,hb])
end
inductive sX(K:PySem.W.Frag)(f:Str)(Q:VK)(x:V)(H1:Hp):Prop
 |mk:∀a C dx fs v,(x=.ref a)->(H1 a=some (.ins C dx fs))->(Cls K C)->(NoAttr K C f)->(fs.lookup f=some v)->(Q v H1)->sX K f Q x H1
def tFld(K:PySem.W.Frag)(ta:TE)(f:Str):TE:=fun σ H Q=>ta σ H fun x H1=>sX K f Q x H1
inductive m9(K:PySem.W.Frag)(f:Str)(D:Ends)(σ:St)(y x:V)(H2:Hp):Prop
 |mk:∀a C dx fs,(x=.ref a)->(H2 a=some (.ins C dx fs))->(Cls K C)->(NoAttr K C f)->(fs.length<1000)->(D.nx σ (upd H2 a (.ins C dx (putF f y fs))))->m9 K f D σ y x H2
def sFld(K:PySem.W.Frag)(ta tv:TE)(f:Str):TS:=fun D σ H=>tv σ H fun y H1=>ta σ H1 fun x H2=>m9 K f D σ y x H2
def InOp(X:Cx)(op:Operator)(rd:V->V->Hp->VK->Prop):Prop:=
 ∀(pins:List (Addr × Obj)) (s:Shared) (σ:St) (H:Hp) (x y:V) (u v:Value) (Q:VK),Inv X pins σ H s->RelV x u->RelV y v->rd x y H Q->wpAny (model X.prog X.w) X.A (inplaceOp op u v) (EP X pins σ Q) X.xe s
def sFldAug(K:PySem.W.Frag)(ta tv:TE)(rd:V->V->Hp->VK->Prop)(f:Str):TS:=fun D σ H=>ta σ H fun x H1=>∃a C dx fs v,x=.ref a/\H1 a=some (.ins C dx fs)/\Cls K C/\NoAttr K C f/\fs.lookup f=some v/\
 tv σ H1 fun y H2=>rd v y H2 fun z H3=>∃dx' fs',H3 a=some (.ins C dx' fs')/\fs'.length<1000/\D.nx σ (upd H3 a (.ins C dx' (putF f z fs')))
section
variable {X:Cx}{o e value:Expr}{f:Str}{pos pos' tpos:Pos}{ta tv:TE}
theorem ah(he:PE X e ta)(hb:attributeBase e f X.env (eval e X.env)=eval e X.env):PE X (.Attribute e f pos) (tFld X.K ta f):=by
 intro pins s σ H Q I h
 refine ug hb (thn (he pins s σ H _ I h) fun u s1 ⟨x,H1,I1,rx,a,C,dx,fs,v,ex,ea,c,n,l,q⟩=>?_)
 subst ex
 obtain rfl:u=Value.ref a:=rx
 exact iN I1 ea c n l fun u' s2 I2 ru=>⟨v,H1,I2,ru,q⟩
theorem aT(ha:PE X o ta)(hv:PE X value tv)(hs:swapsWith value (some (.Attribute o f pos')) pos.line X.env=pure false):PS X (.Assign [.Attribute o f pos'] value pos) (sFld X.K ta tv f):=by
 intro pins s σ H D I h
 refine plainObj_wpAny_Assign_Attribute (thn (hv pins s σ H _ I h) fun u s1 ⟨y,H1,I1,ry,q⟩=>thn (ha pins s1 σ H1 _ I1 q) fun ov s2 ⟨x,H2,I2,rx,a,C,dx,fs,ex,ea,c,n,l,q2⟩=>?_) hs
 subst ex
 obtain rfl:ov=Value.ref a:=rx
 exact iT I2 ea c n l ry fun s3 I3=>⟨σ,_,I3,q2⟩
theorem kj{op:Operator}{rd:V->V->Hp->VK->Prop}(ha:PE X o ta)(hv:PE X value tv)(hop:InOp X op rd):PS X (.AugAssign (.Attribute o f tpos) op value pos) (sFldAug X.K ta tv rd f):=by
 intro pins s σ H D I h
 refine wpAny_AugAssign_AttributeAny (thn (ha pins s σ H _ I h) fun ov s1 ⟨x,H1,I1,rx,a,C,dx,fs,v,ex,ea,c,n,l,q⟩=>?_)
 subst ex
 obtain rfl:ov=Value.ref a:=rx
 refine iN I1 ea c n l fun u s2 I2 ru=>thn (hv pins s2 σ H1 _ I2 q) fun w3 s3 ⟨y,H2,I3,ry,q3⟩=>thn (hop pins s3 σ H2 v y u w3 _ I3 ru ry q3) fun w4 s4 ⟨z,H3,I4,rz,dx',fs',ea',l',q4⟩=>?_
 exact iT I4 ea' c n l' rz fun s5 I5=>⟨σ,_,I5,q4⟩
def rAdd:V->V->Hp->VK->Prop:=fun x y H Q=>∃i j,x=.int i/\y=.int j/\Q (.int (i+j)) H
theorem q0:InOp X .Add rAdd:=by
 rintro pins s σ H x y u v Q I rx ry ⟨i,j,rfl,rfl,q⟩
 obtain⟨t,rfl⟩:=(show ∃t,u=Value.int i t from rx)
 obtain⟨t',rfl⟩:=(show ∃t',v=Value.int j t' from ry)
 exact PyProof.Rows.iadd_int ⟨.int (i+j),H,I.tok _,⟨_,rfl⟩,q⟩
end
section
variable {X:Cx}{pins:List (Addr × Obj)}{σ:St}{H:Hp}{s:Shared}{A:Around}{E:Value->Shared->Prop}{Q:Value->Shared->Prop}{c:Value}{b:Bool}
end
end L2
namespace L2
open PySem PySem.Spec PyProof.Rows
structure Room(k:Nat)(A:Around):Prop where
 hd:A.handled=none
 dp:A.depth+3*k+5<recursionLimit
 un:A.units+16*k+200<cLine
theorem Room.mono{j k:Nat}{A:Around}(r:Room k A)(h:j<=k):Room j A:=⟨r.hd,by have:=r.dp;omega,by have:=r.un;omega⟩
theorem Room.deeper{k:Nat}{A:Around}(r:Room (k+1) A)(env:Env):Room k (A.deeper env):=
 ⟨r.hd,by have:=r.dp;show A.depth+1+3*k+5<_;omega,by have:=r.un;show A.units+3+16*k+200<_;omega⟩
theorem mR{A:Around}{C:Addr}{us:List Value}{kw:List (Str × Value)}:(A.under (.builtin "type.__call__" ⟨.ref C::us,kw⟩)).depth=A.depth+1:=by
 first |rfl |simp [Around.under,Code.weight,Code.isCreation,Code.isGuard,Code.isCaller,Code.frames,Code.isFrame,guardIds]
theorem nJ{A:Around}{C:Addr}{us:List Value}{kw:List (Str × Value)}:(A.under (.builtin "type.__call__" ⟨.ref C::us,kw⟩)).units=A.units+1:=by
 first |rfl |simp [Around.under,Code.cUnits,Code.frames,Code.isFrame]
theorem Room.make{k:Nat}{A:Around}(r:Room (k+1) A)(C:Addr)(us:List Value)(kw:List (Str × Value)):Room k (A.under (.builtin "type.__call__" ⟨.ref C::us,kw⟩)):=
 ⟨r.hd,by have:=r.dp;rw [mR];omega,by have:=r.un;rw [nJ];omega⟩
theorem Room.depth{k:Nat}{A:Around}(r:Room k A):A.depth<recursionLimit:=by have:=r.dp;omega
theorem Room.units{k:Nat}{A:Around}(r:Room k A):A.units+64<cLine:=by have:=r.un;omega
def tNil:TA:=fun _ H Q=>Q [] H
def tCons(ta:TE)(tr:TA):TA:=fun σ H Q=>ta σ H fun x H1=>tr σ H1 fun xs H2=>Q (x::xs) H2
section
variable {X:Cx}{e:Expr}{es:List Expr}{te:TE}{t:TA}{pos:Pos}
theorem ag:PA X [] tNil:=fun _ _ _ _ H Q I h=>Calls.spliced_nil ⟨[],H,I,.nil,h⟩
theorem aa(ha:PE X e te)(hr:PA X es t)(hs:starEach (e::es) X.env=(false,eval e X.env)::starEach es X.env:=by rfl):PA X (e::es) (tCons te t):=by
 intro pos pins s σ H Q I h
 rw [hs]
 show wpAny _ _ (spliced ((false,eval e X.env)::backTo pos (starEach es X.env))) _ _ s
 refine Calls.spliced_cons (thn (ha pins s σ H _ I h) fun u s1 ⟨x,H1,I1,r1,q1⟩=>?_)
 exact thn (hr pos pins s1 σ H1 _ I1 q1) fun us s2 ⟨xs,H2,I2,r2,q2⟩=>⟨x::xs,H2,I2,.cons r1 r2,q2⟩
def tTup(t:TA):TE:=fun σ H Q=>t σ H fun xs H1=>xs.length<=sizeLine/\∀p,H1 p=none->Q (.ref p) (upd H1 p (.tup xs))
def tLst(t:TA):TE:=fun σ H Q=>t σ H fun xs H1=>xs.length<=sizeLine/\∀p,H1 p=none->Q (.ref p) (upd H1 p (.lst xs))
theorem b0{x1}(h:PA X es t):PE X (.Tuple es x1 pos) (tTup t):=by
 intro pins s σ H Q I hq
 refine wpAny_Tuple_spliced (thn (h pos pins s σ H _ I hq) fun us s1 ⟨xs,H1,I1,r,z,q⟩=>⟨by rw [<-r.length];exact z,?_⟩)
 have hf:H1 s1.heap.objs.size=none:=I1.hok.fresh (Nat.le_refl _)
 refine⟨.ref s1.heap.objs.size,upd H1 s1.heap.objs.size (.tup xs),I1.laid (t':=s1.toks) (fun b u e=>Heap.get?_push_of_some _ e) (Nat.le_refl _) ?_,rfl,q _ hf⟩
 exact⟨z,us,r,⟨_,Heap.get?_push_size _ rfl,rfl,_,rfl⟩⟩
theorem aP(h:PA X es t):PE X (.List es pos) (tLst t):=by
 intro pins s σ H Q I hq
 refine wpAny_List_spliced (thn (h pos pins s σ H _ I hq) fun us s1 ⟨xs,H1,I1,r,z,q⟩=>⟨by rw [<-r.length];exact z,?_⟩)
 have hf:H1 s1.heap.objs.size=none:=I1.hok.fresh (Nat.le_refl _)
 refine⟨.ref s1.heap.objs.size,upd H1 s1.heap.objs.size (.lst xs),I1.laid (t':=s1.toks) (fun b u e=>Heap.get?_push_of_some _ e) (Nat.le_refl _) ?_,rfl,q _ hf⟩
 exact⟨z,us,0,r,Heap.get?_push_size _ rfl⟩
end
abbrev Sp:=List V->Hp->VK->XK->Prop
abbrev CXT:=List Env->Hp->Shared->XK->Value->Shared->Prop
structure Env0(P:Program)(w:World)(K:PySem.W.Frag)(mg:Str->Option Value)(base:Heap)(A:Around)(outer:List Env)(s:Shared)(H:Hp):Prop where
 frames:A.frames=some outer
 mod:Mod K mg base
 bs:∀b o,base.get? b=some o->s.heap.get? b=some o/\H b=none
 bsz:base.objs.size<=s.heap.objs.size
 funs:s.heap.FunFrames base outer
 frf:∀b∈frs outer,H b=none
 hok:HOk P w H s.heap
 bare:AllBare s.gens
def CE(outer:List Env)(P:Program)(w:World)(H:Hp)(s:Shared)(Q:VK)(u:Value)(s':Shared):Prop:=
 ∃v H',s'.os=s.os/\AllBare s'.gens/\Un (frs outer) [] H H' s.heap s'.heap/\HOk P w H' s'.heap/\RelV v u/\Q v H'
def CR(CX:CXT)(outer:List Env)(P:Program)(w:World)(H:Hp)(s:Shared)(Q:VK)(E:XK)(r:Result)(s':Shared):Prop:=
 match r with
 |.ok (.ret u)=>CE outer P w H s Q u s'
 |.ok _=>False
 |.error e=>CX outer H s E e s'
structure FnOk(P:Program)(w:World)(K:PySem.W.Frag)(mg:Str->Option Value)(base:Heap)(CX:CXT)(k:Nat)(f:Addr)(fd:FuncData)(ps:List Str)(sp:Sp):Prop where
 len:∀vs H Q E,sp vs H Q E->vs.length=ps.length
 run:∀(A:Around) (outer:List Env) (s:Shared) (H:Hp) (args:Args) (us:List Value) (vs:List V) (Q:VK) (E:XK),Room k A->Env0 P w K mg base A outer s H->BindsTo s fd args (ps.zip us)->Vals vs us->sp vs H Q E->
  codeAny (model P w) A (.call (.ref f) args) (CR CX outer P w H s Q E) s
theorem Env0.make{P:Program}{w:World}{K:PySem.W.Frag}{mg:Str->Option Value}{base:Heap}{A:Around}{outer:List Env}{s:Shared}{H:Hp}(e:Env0 P w K mg base A outer s H)(C:Addr)(us:List Value)(kw:List (Str × Value)):
  Env0 P w K mg base (A.under (.builtin "type.__call__" ⟨.ref C::us,kw⟩)) outer s H:=⟨by first |exact e.frames |(simpa [Around.under,Code.envs,Code.isFrame,pushEnvs] using e.frames),e.mod,e.bs,e.bsz,e.funs,e.frf,e.hok,e.bare⟩
section
variable {X:Cx}{pins:List (Addr × Obj)}{σ:St}{H:Hp}{s s':Shared}
theorem Inv.env0(I:Inv X pins σ H s):Env0 X.prog X.w X.K X.mg X.base X.A X.stack s H:=
 ⟨I.ok.frames,I.ok.mod,I.bs,Nat.le_trans I.ok.bsz I.sz,I.stack,I.stkFree,I.hok,I.bare⟩
theorem Inv.after{Q:VK}{u:Value}(I:Inv X pins σ H s)(h:CE X.stack X.prog X.w H s Q u s'):EP X pins σ Q u s':=by
 obtain⟨v,H',os,bare,un,hok,r,q⟩:=h
 obtain⟨hh,g,d,t,os'⟩:=s'
 obtain rfl:os'=s.os:=os
 exact⟨v,H',I.call (h':=hh) (g':=g) (d':=d) (t':=t) (ch:=[]) un hok bare (fun b z=>absurd z (by simp)),r,q⟩
end
def tCall(sp:Sp)(dvs:List V)(E:XK)(t:TA):TE:=fun σ H Q=>t σ H fun vs H1=>sp (vs++dvs) H1 Q E
inductive oJ(C:Addr)(m:Str)(sp:Sp)(dvs:List V)(E:XK)(t:TA)(σ:St)(Q:VK)(x:V)(H1:Hp):Prop
 |mk:∀a dx fs,(x=.ref a)->(H1 a=some (.ins C dx fs))->(fs.lookup m=none)->(t σ H1 fun vs H2=>sp (x::(vs++dvs)) H2 Q E)->oJ C m sp dvs E t σ Q x H1
def tMeth(C:Addr)(m:Str)(sp:Sp)(dvs:List V)(E:XK)(ta:TE)(t:TA):TE:=fun σ H Q=>ta σ H fun x H1=>oJ C m sp dvs E t σ Q x H1
def tMake(C:Addr)(sp:Sp)(dvs:List V)(E:XK)(t:TA):TE:=fun σ H Q=>t σ H fun vs H1=>∀x dx,H1 x=none->H1 dx=none->dx≠x->
 sp (.ref x::(vs++dvs)) (upd (upd H1 dx (.own x)) x (.ins C dx [])) (fun v H2=>v=.non/\Q (.ref x) H2) E
def Binds(K:PySem.W.Frag)(fd:FuncData)(ps:List Str)(ds:List Value):Prop:=
 ∀(s:Shared) (us:List Value),K.In s.heap->(us++ds).length=ps.length->BindsTo s fd ⟨us,[]⟩ (ps.zip (us++ds))
theorem Binds.all{K:PySem.W.Frag}{fd:FuncData}{ps:List Str}(h:∀us:List Value,us.length=ps.length->bindArgs fd ⟨us,[]⟩=pure (ps.zip us)):Binds K fd ps []:=fun s us _ hl=>by
 rw [List.append_nil] at hl ⊢
 exact .of_eq (h us hl)
def Passes(CX:CXT)(X:Cx)(E:XK):Prop:=∀(pins:List (Addr × Obj)) (σ:St) (H:Hp) (s:Shared) (e:Value) (s':Shared),Inv X pins σ H s->CX X.stack H s E e s'->X.xe e s'
section
variable {X:Cx}{CX:CXT}{k:Nat}{f C:Addr}{fd:FuncData}{ps:List Str}{sp:Sp}{dvs:List V}{ds:List Value}{E:XK}{x m:Str}{p pos apos:Pos}{e o:Expr}{es:List Expr}{ta:TE}{t:TA}
theorem kS{pins:List (Addr × Obj)}{σ:St}{H:Hp}{s:Shared}{Q:VK}{us:List Value}{vs:List V}(F:FnOk X.prog X.w X.K X.mg X.base CX k f fd ps sp)(hr:Room k X.A)(hb:Binds X.K fd ps ds)(hd:Vals dvs ds)(hx:Passes CX X E)
  (I:Inv X pins σ H s) (r:Vals vs us) (h:sp (vs++dvs) H Q E):wpAny (model X.prog X.w) X.A (call (.ref f) us) (EP X pins σ Q) X.xe s:=by
 have r2:Vals (vs++dvs) (us++ds):=r.append hd
 have hl:(us++ds).length=ps.length:=by rw [<-r2.length];exact F.len _ _ _ _ h
 refine wpAny_call (codeAny_mono (F.run X.A X.stack s H ⟨us,[]⟩ (us++ds) (vs++dvs) Q E hr I.env0 (hb s us I.kIn hl) r2 h) fun r s' hq=>?_)
 cases r with
 |error e=>exact hx pins σ H s e s' I hq
 |ok fl=>
  cases fl with
  |ret u=>exact I.after hq
  |next=>exact False.elim hq
  |brk=>exact False.elim hq
  |cont=>exact False.elim hq
theorem uu(F:FnOk X.prog X.w X.K X.mg X.base CX k f fd ps sp)(hr:Room k X.A)(hg:Gl X x)(hm:X.mg x=some (.ref f))(hk:PySem.W.keepIn X.K (.ref f)=true)(hb:Binds X.K fd ps ds)(hd:Vals dvs ds)(hx:Passes CX X E)
  (ha:PA X (e::es) t) (hdb:(x==("__debug__":Str))=false:=by decide) (he:starEach (e::es) X.env=(false,eval e X.env)::starEach es X.env:=by rfl) (hpl:(backTo pos (starEach es X.env)).any (·.1)=false:=by rfl):
  PE X (.Call (.Name x p) (e::es) [] pos) (tCall sp dvs E t):=by
 intro pins s σ H Q I h
 refine wpAny_Call_Name_kw (fM I hg hm ?_ hdb)
 refine PySem.W.callWith_K (h₀:=X.base) I.ok.mod.kin hk (thn (ha pos pins s σ H _ I h) fun us s1 ⟨vs,H1,I1,r,q⟩=>⟨I1.kIn,?_⟩) he hpl
 exact kS F hr hb hd hx I1 r q
theorem qJ(F:FnOk X.prog X.w X.K X.mg X.base CX k f fd ps sp)(hr:Room k X.A)(hg:Gl X x)(hm:X.mg x=some (.ref f))(hk:PySem.W.keepIn X.K (.ref f)=true)(hb:Binds X.K fd ps ds)(hd:Vals dvs ds)(hx:Passes CX X E)
  (hdb:(x==("__debug__":Str))=false:=by decide):PE X (.Call (.Name x p) [] [] pos) (tCall sp dvs E tNil):=by
 intro pins s σ H Q I h
 refine wpAny_Call_Name_kw (fM I hg hm ?_ hdb)
 exact PySem.W.callWith_K0 I.kIn hk (kS (us:=[]) F hr hb hd hx I .nil h)
theorem tH{pl:Sem Bool}(he:PE X o ta)(c:Cls X.K C)(hm:Meth X.K C m f)(F:FnOk X.prog X.w X.K X.mg X.base CX k f fd ps sp)(hr:Room k X.A)(hb:Binds X.K fd ps ds)(hd:Vals dvs ds)(hx:Passes CX X E)(ha:PA X (e::es) t)
  (hst:starEach (e::es) X.env=(false,eval e X.env)::starEach es X.env:=by rfl) (hpl:(backTo pos (starEach es X.env)).any (·.1)=false:=by rfl)
  (ht:eval (.Call (.Attribute o m apos) (e::es) [] pos) X.env=(do
   let ov <-eval o X.env
   standAt apos.atName
   let (f,first) <-holding [ov] (getMethod ov m pl)
   callWith pos f first (backTo pos (starEach (e::es) X.env)) (backToKw pos (keywordEach [] X.env))):=by rfl):
  PE X (.Call (.Attribute o m apos) (e::es) [] pos) (tMeth C m sp dvs E ta t):=by
 intro pins s σ H Q I h
 refine PySem.W.methodCall_KW (pl:=pl) (thn (he pins s σ H _ I h) fun u s1 ⟨x,H1,I1,rx,a,dx,fs,ex,ea,l,q⟩=>?_) ht
 subst ex
 obtain rfl:u=Value.ref a:=rx
 refine iC I1 ea c hm l ?_
 refine PySem.W.callWith_K (first:=[.ref a]) (h₀:=X.base) I.ok.mod.kin hm.kp (thn (ha pos pins s1 σ H1 _ I1 q) fun us s2 ⟨vs,H2,I2,r,q2⟩=>⟨I2.kIn,?_⟩) hst hpl
 exact kS (us:=.ref a::us) (vs:=.ref a::vs) F hr hb hd hx I2 (.cons rfl r) q2
theorem qO{pl:Sem Bool}(he:PE X o ta)(c:Cls X.K C)(hm:Meth X.K C m f)(F:FnOk X.prog X.w X.K X.mg X.base CX k f fd ps sp)(hr:Room k X.A)(hb:Binds X.K fd ps ds)(hd:Vals dvs ds)(hx:Passes CX X E)
  (ht:eval (.Call (.Attribute o m apos) [] [] pos) X.env=(do
   let ov <-eval o X.env
   standAt apos.atName
   let (f,first) <-holding [ov] (getMethod ov m pl)
   callWith pos f first (backTo pos (starEach [] X.env)) (backToKw pos (keywordEach [] X.env))):=by rfl):
  PE X (.Call (.Attribute o m apos) [] [] pos) (tMeth C m sp dvs E ta tNil):=by
 intro pins s σ H Q I h
 refine PySem.W.methodCall_KW (pl:=pl) (thn (he pins s σ H _ I h) fun u s1 ⟨x,H1,I1,rx,a,dx,fs,ex,ea,l,q⟩=>?_) ht
 subst ex
 obtain rfl:u=Value.ref a:=rx
 refine iC I1 ea c hm l ?_
 exact PySem.W.callWith_K0 (first:=[.ref a]) I1.kIn hm.kp (kS (us:=[.ref a]) (vs:=[.ref a]) F hr hb hd hx I1 (.cons rfl .nil) q)
structure Mk(K:PySem.W.Frag)(C f:Addr):Prop where
 makes:PySem.W.makesIn K C=true
 init:PySem.W.findIn K (.ref C) "__init__"=some (some (.ref f))
 fn:PySem.W.isFn K (.ref f)=true
 kp:PySem.W.keepIn K (.ref C)=true
theorem lH{pins:List (Addr × Obj)}{σ:St}{H:Hp}{s:Shared}{Q:VK}{us:List Value}{vs:List V}(M:Mk X.K C f)(F:FnOk X.prog X.w X.K X.mg X.base CX k f fd ps sp)(hr:Room (k+1) X.A)(hb:Binds X.K fd ps ds)(hd:Vals dvs ds)
  (hx:Passes CX X E) (I:Inv X pins σ H s) (r:Vals vs us)
  (h:∀x dx,H x=none->H dx=none->dx≠x->sp (.ref x::(vs++dvs)) (upd (upd H dx (.own x)) x (.ins C dx [])) (fun v H2=>v=.non/\Q (.ref x) H2) E):
  wpAny (model X.prog X.w) X.A (call (.ref C) us) (EP X pins σ Q) X.xe s:=by
 have hq:=h (s.heap.objs.size+1) s.heap.objs.size (I.hok.fresh (Nat.le_succ _)) (I.hok.fresh (Nat.le_refl _)) (Nat.ne_of_lt (Nat.lt_succ_self _))
 have I2:=Inv.made (C:=C) I
 have r2:Vals (V.ref (s.heap.objs.size+1)::(vs++dvs)) (Value.ref (s.heap.objs.size+1)::(us++ds)):=.cons rfl (r.append hd)
 have hl:(Value.ref (s.heap.objs.size+1)::us++ds).length=ps.length:=by
  have e:=r2.length
  rw [F.len _ _ _ _ hq] at e
  exact e.symm
 refine wpAny_call (sG (f:=f) I.kIn M.makes M.init (beq_iff_eq.mp M.fn) (codeAny_mono (F.run _ X.stack _ _ ⟨Value.ref (s.heap.objs.size+1)::us,[]⟩ (Value.ref (s.heap.objs.size+1)::(us++ds)) _ _ E (hr.make C us [])
  (I2.env0.make C us []) (hb _ (Value.ref (s.heap.objs.size+1)::us) I2.kIn hl) r2 hq) fun r s' hq'=>?_))
 cases r with
 |error e=>exact hx pins σ _ _ e s' I2 hq'
 |ok fl=>
  cases fl with
  |ret u=>
   obtain⟨v,H',I3,rv,ev,q3⟩:=I2.after hq'
   subst ev
   exact⟨rv,⟨V.ref (s.heap.objs.size+1),H',I3,rfl,q3⟩⟩
  |next=>exact False.elim hq'
  |brk=>exact False.elim hq'
  |cont=>exact False.elim hq'
theorem uc(M:Mk X.K C f)(F:FnOk X.prog X.w X.K X.mg X.base CX k f fd ps sp)(hr:Room (k+1) X.A)(hg:Gl X x)(hm:X.mg x=some (.ref C))(hb:Binds X.K fd ps ds)(hd:Vals dvs ds)(hx:Passes CX X E)
  (ha:PA X (e::es) t) (hdb:(x==("__debug__":Str))=false:=by decide) (he:starEach (e::es) X.env=(false,eval e X.env)::starEach es X.env:=by rfl) (hpl:(backTo pos (starEach es X.env)).any (·.1)=false:=by rfl):
  PE X (.Call (.Name x p) (e::es) [] pos) (tMake C sp dvs E t):=by
 intro pins s σ H Q I h
 refine wpAny_Call_Name_kw (fM I hg hm ?_ hdb)
 refine PySem.W.callWith_K (h₀:=X.base) I.ok.mod.kin M.kp (thn (ha pos pins s σ H _ I h) fun us s1 ⟨vs,H1,I1,r,q⟩=>⟨I1.kIn,?_⟩) he hpl
 exact lH M F hr hb hd hx I1 r q
theorem tm(M:Mk X.K C f)(F:FnOk X.prog X.w X.K X.mg X.base CX k f fd ps sp)(hr:Room (k+1) X.A)(hg:Gl X x)(hm:X.mg x=some (.ref C))(hb:Binds X.K fd ps ds)(hd:Vals dvs ds)(hx:Passes CX X E)
  (hdb:(x==("__debug__":Str))=false:=by decide):PE X (.Call (.Name x p) [] [] pos) (tMake C sp dvs E tNil):=by
 intro pins s σ H Q I h
 refine wpAny_Call_Name_kw (fM I hg hm ?_ hdb)
 exact PySem.W.callWith_K0 I.kIn M.kp (lH (us:=[]) M F hr hb hd hx I .nil h)
end
def PK(X:Cx)(kws:List Keyword)(t:TA):Prop:=
 ∀(pos:Pos) (pins:List (Addr × Obj)) (s:Shared) (σ:St) (H:Hp) (Q:List V->Hp->Prop),Inv X pins σ H s->t σ H Q->wpAny (model X.prog X.w) X.A (evalAll ((backToKw pos (keywordEach kws X.env)).map (·.2))) (AP X pins σ Q) X.xe s
section
variable {X:Cx}{CX:CXT}{k:Nat}{f C:Addr}{fd:FuncData}{ps ks:List Str}{sp:Sp}{E:XK}{x m:Str}{p pos apos kpos:Pos}{e o:Expr}{es:List Expr}{kws:List Keyword}{te ta:TE}{t tk:TA}{nm:Option Str}
theorem vp:PK X [] tNil:=fun _ _ _ _ H Q I h=>wpAny_evalAll_nil ⟨[],H,I,.nil,h⟩
theorem tX(ha:PE X e te)(hr:PK X kws t):PK X (⟨nm,e,kpos⟩::kws) (tCons te t):=by
 intro pos pins s σ H Q I h
 show wpAny _ _ (evalAll ((do let v <-eval e X.env;standAt pos;pure v)::(backToKw pos (keywordEach kws X.env)).map (·.2))) _ _ s
 refine wpAny_evalAll_cons (wpAny_bind (thn (ha pins s σ H _ I h) fun u s1 ⟨x,H1,I1,r1,q1⟩=>wpAny_bind (wpAny_standAt (wpAny_pure ?_))))
 exact thn (hr pos pins s1 σ H1 _ I1 q1) fun us s2 ⟨xs,H2,I2,r2,q2⟩=>⟨x::xs,H2,I2,.cons r1 r2,q2⟩
variable {g:List Value->List Value->List Value}{gV:List V->List V->List V}
end
structure aB(N P:List Str)(sc:Scope):Prop where
 kind:sc.kind=.function
 co:sc.isCoroutine=false
 gen:sc.isGenerator=false
 nd:N.Nodup
 pre:N.take P.length=P
 par:∀x∈P,sc.names.lookup x=some .local\/sc.names.lookup x=some .cell
 nofree:∀y∈sc.names,y.2≠.free
theorem jK{kindOf:Str->Option NameKind}{x:Str}:∀{binds:List (Str × Value)} {m:Str->Option Value},(∀v,(x,v)∉binds)->bindL kindOf binds m x=m x
 |[],_,_=>rfl
 |(n,v)::r,m,h=>by
  unfold bindL
  rw [jK fun w hw=>h w (List.mem_cons_of_mem _ hw)]
  split
  ·have:x≠n:=by rintro rfl;exact h v List.mem_cons_self
   simp [this]
  ·rfl
theorem j7{kindOf:Str->Option NameKind}{x:Str}:∀{binds:List (Str × Value)} {m:Str->Option Value},(∀v,(x,v)∉binds)->bindC kindOf binds m x=m x
 |[],_,_=>rfl
 |(n,v)::r,m,h=>by
  unfold bindC
  rw [j7 fun w hw=>h w (List.mem_cons_of_mem _ hw)]
  split
  ·rfl
  ·have:x≠n:=by rintro rfl;exact h v List.mem_cons_self
   simp [this]
theorem j3{kindOf:Str->Option NameKind}{x:Str}{v:Value}:∀{P:List Str} {vs:List Value} {i:Nat} {m:Str->Option Value},P.Nodup->P[i]?=some x->vs[i]?=some v->kindOf x=some .local->
  bindL kindOf (P.zip vs) m x=some v
 |[],_,_,_,_,h,_,_=>by simp at h
 |_::_,[],_,_,_,_,h,_=>by simp at h
 |p::P,w::vs,0,m,nd,h1,h2,hk=>by
  simp at h1 h2;subst h1;subst h2
  show bindL kindOf ((p,w)::P.zip vs) m p=_
  unfold bindL
  rw [jK fun v hv=>(List.nodup_cons.mp nd).1 (List.of_mem_zip hv).1,if_pos hk]
  simp
 |p::P,w::vs,i+1,m,nd,h1,h2,hk=>by
  show bindL kindOf ((p,w)::P.zip vs) m x=_
  unfold bindL
  exact j3 (i:=i) (List.nodup_cons.mp nd).2 (by simpa using h1) (by simpa using h2) hk
theorem jN{kindOf:Str->Option NameKind}{x:Str}{v:Value}:∀{P:List Str} {vs:List Value} {i:Nat} {m:Str->Option Value},P.Nodup->P[i]?=some x->vs[i]?=some v->kindOf x≠some .local->
  bindC kindOf (P.zip vs) m x=some v
 |[],_,_,_,_,h,_,_=>by simp at h
 |_::_,[],_,_,_,_,h,_=>by simp at h
 |p::P,w::vs,0,m,nd,h1,h2,hk=>by
  simp at h1 h2;subst h1;subst h2
  show bindC kindOf ((p,w)::P.zip vs) m p=_
  unfold bindC
  rw [j7 fun v hv=>(List.nodup_cons.mp nd).1 (List.of_mem_zip hv).1,if_neg hk]
  simp
 |p::P,w::vs,i+1,m,nd,h1,h2,hk=>by
  show bindC kindOf ((p,w)::P.zip vs) m x=_
  unfold bindC
  exact jN (i:=i) (List.nodup_cons.mp nd).2 (by simpa using h1) (by simpa using h2) hk
def start(N:List Str)(vs:List V):St:=vs.map some++List.replicate (N.length-vs.length) none
def cxOf(CX:CXT)(P:Program)(w:World)(K:PySem.W.Frag)(mg:Str->Option Value)(base:Heap)(N:List Str)(qual:Str)(scope:Scope)(f:Addr)(cd:Value)(A:Around)(outer:List Env)(s:Shared)(H:Hp)(E:XK):Cx where
 prog:=P
 w:=w
 K:=K
 mg:=mg
 base:=base
 A:=A.deeper (envOfC qual scope s.heap.objs.size f cd)
 N:=N
 s_0:=s
 H_0:=H
 env:=envOfC qual scope s.heap.objs.size f cd
 outer:=outer
 stack:=envOfC qual scope s.heap.objs.size f cd::outer
 ex:=[]
 calm:=true
 fn:=fun _=>true
 pn:=[]
 xe:=fun e s'=>wpAny (model P w) (A.deeper (envOfC qual scope s.heap.objs.size f cd)) (leaving (envOfC qual scope s.heap.objs.size f cd) e) (fun _ s''=>CX outer H s E e s'') (fun e' s''=>CX outer H s E e' s'') s'
theorem lQ{sc:Scope}{n:Nat}{x:Str}(h:sc.names.lookup x=some .cell):∃c,(cellsFrom n sc.names []).lookup x=some c:=by
 have q:=PySem.W.cellsFrom_some sc.names n [] (.inl h)
 exact Option.isSome_iff_exists.mp q
theorem pB{CX:CXT}{P:Program}{w:World}{K:PySem.W.Frag}{mg:Str->Option Value}{base:Heap}{N ps:List Str}{qual:Str}{scope:Scope}{f:Addr}{cd:Value}{A:Around}{outer:List Env}{s s1:Shared}{H:Hp}{E:XK}{us:List Value}{vs:List V}
  (S:aB N ps scope) (hd:A.handled=none) (e0:Env0 P w K mg base A outer s H) (hl:vs.length=ps.length) (r:Vals vs us)
  (x:InCallC s s.heap.objs.size (bindL (envOfC qual scope s.heap.objs.size f cd).kindOf (ps.zip us) fun _=>none) (cellsFrom (s.heap.objs.size+1) scope.names []) (bindC (envOfC qual scope s.heap.objs.size f cd).kindOf (ps.zip us) fun _=>none) s1):
  Inv (cxOf CX P w K mg base N qual scope f cd A outer s H E) [] (start N vs) H s1:=by
 have hpl:ps.length<=N.length:=by have:=congrArg List.length S.pre;rw [List.length_take] at this;omega
 obtain⟨h1,tk,rfl,hk⟩:=x.done
 have noA:∀b:Addr,b∉(cxOf CX P w K mg base N qual scope f cd A outer s H E).ex:=fun b z=>absurd (show b∈([]:List Addr) from z) (by simp)
 refine⟨⟨e0.mod,S.kind,rfl,rfl,Nat.le_refl _,fun y z c h1 h2=>?_,fun y hy=>?_,fun y c _ h=>?_,fun _=>hd,Around.frames_deeper e0.frames,.inr ⟨rfl,rfl⟩,fun b z=>absurd z (noA b),e0.bs,e0.bsz,fun b _ _=>noA b,fun b z=>absurd z (noA b),e0.funs,e0.frf⟩,
  rfl,e0.bare,Un.kept hk,⟨_,x.toInCall.ns,fun i y v h1 h2 h3=>?_⟩,fun y c h=>⟨_,x.cell y c h⟩,e0.hok.fresh (Nat.le_refl _),fun y c h=>?_,fun p hp=>absurd (show p∈([]:List (Addr × Obj)) from hp) (by simp),e0.hok.kept hk,?_⟩
 ·exact name_of_addr x.apart (PySem.mem_of_lookup h1) (PySem.mem_of_lookup h2)
 ·have hy:scope.names.lookup y=some .cell\/scope.names.lookup y=some .free:=hy
  rcases hy with hy |hy
  ·exact lQ hy
  ·exact absurd rfl (S.nofree _ (PySem.mem_of_lookup hy))
 ·exact Nat.le_of_lt (x.above y c (PySem.mem_of_lookup h))
 ·have hi:i<vs.length:=by
   unfold start at h2
   by_cases hi:i<vs.length
   ·exact hi
   ·rw [List.getElem?_append_right (by simpa using hi)] at h2
    rw [List.getElem?_replicate] at h2
    split at h2 <;> cases h2
  have ha:vs[i]?=some v:=by
   unfold start at h2
   rw [List.getElem?_append_left (by simpa using hi),List.getElem?_map] at h2
   cases e:vs[i]? with
   |none=>rw [e] at h2;cases h2
   |some a=>rw [e] at h2;cases h2;rfl
  obtain⟨u,hu,rv⟩:=r.get ha
  have hp:ps[i]?=some y:=by
   rw [<-S.pre,List.getElem?_take_of_lt (by omega)];exact h1
  have ndP:ps.Nodup:=by rw [<-S.pre];exact S.nd.sublist (List.take_sublist _ _)
  refine⟨u,rv,?_⟩
  rcases S.par y (List.mem_of_getElem? hp) with k |k
  ·exact .inl ⟨k,j3 ndP hp hu k⟩
  ·obtain⟨c,e⟩:=lQ (n:=s.heap.objs.size+1) k
   refine .inr ⟨.inl k,c,e,?_⟩
   have q:=x.cell y c e
   rw [jN ndP hp hu (by show scope.names.lookup y≠_;rw [k];decide)] at q
   exact q
 ·exact e0.hok.fresh (Nat.le_of_lt (x.above y c (PySem.mem_of_lookup h)))
 ·unfold start
  show _=N.length
  rw [List.length_append,List.length_map,List.length_replicate]
  omega
theorem vQ{CX:CXT}{P:Program}{w:World}{K:PySem.W.Frag}{mg:Str->Option Value}{base:Heap}{k:Nat}{f:Addr}{name qual:Str}{params:Arguments}{body:List Stmt}{scope:Scope}{dV kV doc pm cdv ct oc:Value}{an od:Option Addr}
  {osl:Array (Option Value)} {N ps:List Str} {sp:Sp} (lk:K.lookup f=some ⟨oc,od,.func (PySem.W.fnOf name qual params body scope dV kV doc pm an cdv ct),osl⟩) (hcd:PySem.W.codeIn K cdv qual=true) (S:aB N ps scope)
  (len:∀vs H Q E,sp vs H Q E->vs.length=ps.length)
  (hbody:∀(A:Around) (outer:List Env) (s:Shared) (H:Hp) (vs:List V) (Q:VK) (E:XK),Room k (A.deeper (envOfC qual scope s.heap.objs.size f cdv))->sp vs H Q E->
   ∃t,PSs (cxOf CX P w K mg base N qual scope f cdv A outer s H E) body t/\t {nx:=fun _ H'=>Q .non H',rt:=Q} (start N vs) H):
  FnOk P w K mg base CX (k+1) f (PySem.W.fnOf name qual params body scope dV kV doc pm an cdv ct) ps sp:=by
 refine⟨len,fun A outer s H args us vs Q E hr e0 hb r hsp=>?_⟩
 have hl:=len _ _ _ _ hsp
 have KX:K.In s.heap:=e0.mod.kin.keeps fun b o e=>(e0.bs b o e).1
 have lim:s.heap.NoLimit:=e0.mod.nolimit.keeps fun b o e=>(e0.bs b o e).1
 have hkind:∀y∈ps.zip us,scope.names.lookup y.1=some .local\/(scope.names.lookup y.1=some .cell/\((cellsFrom (s.heap.objs.size+1) scope.names []).lookup y.1).isSome=true):=fun ⟨n,v⟩ hy=>by
  rcases S.par n (List.of_mem_zip hy).1 with q |q
  ·exact .inl q
  ·exact .inr ⟨q,PySem.W.cellsFrom_some _ _ _ (.inl q)⟩
 refine codeAny_call_function hr.depth (KX _ _ lk) rfl S.co S.gen rfl (PySem.W.codeRec_of KX hcd) (hb _ _ _ _ ?_)
 refine wpAny_newFunctionEnv_cells S.kind hkind fun env he s1 x=>?_
 subst he
 refine⟨lim.keeps x.toInCall.keep,codeAny_func ?_⟩
 obtain⟨t,ht,hq⟩:=hbody A outer s H vs Q E (hr.deeper _) hsp
 have I:Inv (cxOf CX P w K mg base N qual scope f cdv A outer s H E) [] (start N vs) H s1:=pB S hr.hd e0 hl r x
 refine wpAny_mono (ht [] s1 (start N vs) H _ I hq) (fun fl s' hs=>?_) fun e s' hs=>hs
 have fin:∀{σ':St} {H':Hp} {v:V} {u:Value},Inv (cxOf CX P w K mg base N qual scope f cdv A outer s H E) [] σ' H' s'->RelV v u->Q v H'->CE outer P w H s Q u s':=
  fun {σ' H' v u} J rv q=>⟨v,H',J.os,J.bare,J.base,J.hok,rv,q⟩
 cases fl with
 |ret u=>
  obtain⟨v,σ',H',J,rv,q⟩:=hs
  exact fin J rv q
 |next=>
  obtain⟨σ',H',J,q⟩:=hs
  exact fin (v:=V.non) (u:=Value.none) J rfl q
 |brk=>
  obtain⟨_,_,_,q⟩:=hs
  exact False.elim q
 |cont=>
  obtain⟨_,_,_,q⟩:=hs
  exact False.elim q
end L2
namespace L2
open PySem PySem.Spec PyProof.Rows
section
variable {X:Cx}{x:Str}{p pos:Pos}{e:Expr}{es:List Expr}{t:TA}{id T:String}{r:List V->Hp->VK->Prop}
def tCB(r:List V->Hp->VK->Prop)(t:TA):TE:=fun σ H Q=>t σ H fun vs H1=>r vs H1 Q
theorem bc(hc:CallR X (.builtin id) r)(hg:Gl X x)(hm:X.mg x=none)(hv:bootBuiltins x=some (.builtin id))(ha:PA X (e::es) t)(hn:x≠"__name__":=by decide)(hdb:(x==("__debug__":Str))=false:=by decide)
  (he:starEach (e::es) X.env=(false,eval e X.env)::starEach es X.env:=by rfl) (hpl:(backTo pos (starEach es X.env)).any (·.1)=false:=by rfl):PE X (.Call (.Name x p) (e::es) [] pos) (tCB r t):=by
 intro pins s σ H Q I h
 refine wpAny_Call_Name_kw (eG I hg hm hv ?_ hn hdb)
 exact PyProof.Rows.callWith_builtin1 (thn (ha pos pins s σ H _ I h) fun us s1 ⟨vs,H1,I1,r1,q1⟩=>hc pins s1 σ H1 vs us Q I1 r1 q1) he hpl
end
end L2
namespace HT
open PySem PyProof.Rows
section
open PySem.SeqAt
open PySem.AutoSeq1 (wpAny_loadPart')
open PySem.MeetsSeq PySem.MeetsSeq2 PySem.MeetsSeq3
end
section
variable {prog:Program}{w:World}{A:Around}{E:Value->Shared->Prop}{s:Shared}
def sIx(n d:Nat):Option Int->Nat
 |none=>d
 |some v=>if v<0 then (v+(n:Int)).toNat else min v.toNat n
end
end HT
namespace L2
open PySem PySem.Spec PyProof.Rows
abbrev TO:=St->Hp->(Option Int->Hp->Prop)->Prop
def PO(X:Cx)(e:Option Expr)(t:TO):Prop:=
 ∀(pins:List (Addr × Obj)) (s:Shared) (σ:St) (H:Hp) (Q:Option Int->Hp->Prop),Inv X pins σ H s->t σ H Q->
  wpAny (model X.prog X.w) X.A (evalPart e X.env) (fun u s'=>∃o H',Inv X pins σ H' s'/\IsPart u o/\Q o H') X.xe s
def tNoPart:TO:=fun _ H Q=>Q none H
inductive nU(x:V)(H1:Hp)(Q:Option Int->Hp->Prop):Prop
 |mk:∀i,(x=.int i)->(Q (some i) H1)->nU x H1 Q
def tPart(t:TE):TO:=fun σ H Q=>t σ H fun x H1=>nU x H1 Q
section
variable {X:Cx}{e:Expr}{te:TE}{lo hi:Option Expr}{tl th:TO}{pos p2:Pos}
theorem tN:PO X none tNoPart:=by
 intro pins s σ H Q I h
 rw [evalPart_none]
 exact wpAny_pure ⟨none,H,I,.none,h⟩
theorem bM(h:PE X e te):PO X (some e) (tPart te):=by
 intro pins s σ H Q I hw
 rw [evalPart_some]
 refine thn (h pins s σ H _ I hw) fun u s1 ⟨x,H1,I1,r1,q1⟩=>?_
 obtain⟨i,rfl,q⟩:=q1
 obtain⟨t,rfl⟩:=r1
 exact⟨some i,H1,I1,.int i t,q⟩
def SlR(X:Cx)(r:V->Option Int->Option Int->Hp->VK->Prop):Prop:=
 ∀(pins:List (Addr × Obj)) (s:Shared) (σ:St) (H:Hp) (x:V) (v vl vu:Value) (lo hi:Option Int) (sl:Addr) (Q:VK),Inv X pins σ H s->RelV x v->s.heap.IsSliceOf sl vl vu .none->IsPart vl lo->IsPart vu hi->r x lo hi H Q->
  ∃T id,typeLookup (.type T) "__getitem__"=pure (some (.builtin id))/\s.TypeIs v T/\wpAny (model X.prog X.w) X.A (getItem v (.ref sl)) (EP X pins σ Q) X.xe s
def tSl(r:V->Option Int->Option Int->Hp->VK->Prop)(te:TE)(tl th:TO):TE:=fun σ H Q=>te σ H fun x H1=>tl σ H1 fun l H2=>th σ H2 fun u H3=>r x l u H3 Q
theorem dq{r:V->Option Int->Option Int->Hp->VK->Prop}(hr:SlR X r)(he:PE X e te)(hl:PO X lo tl)(hu:PO X hi th):PE X (.Subscript e (.Slice lo hi none p2) pos) (tSl r te tl th):=by
 intro pins s σ H Q I h
 refine Subscript_ (thn (he pins s σ H _ I h) fun v s1 ⟨x,H1,I1,r1,q1⟩=>?_)
 refine wpAny_Slice (thn (hl pins s1 σ H1 _ I1 q1) fun vl s2 ⟨l,H2,I2,pl,q2⟩=>thn (hu pins s2 σ H2 _ I2 q2) fun vu s3 ⟨u,H3,I3,pu,q3⟩=>?_)
 rw [evalPart_none]
 refine wpAny_pure ?_
 have I4:Inv X pins σ H3 {s3 with heap:=s3.heap.push {cls:=.type "slice",data:=.fields #[vl,vu,.none]}}:=I3.kept (t':=s3.toks) fun b ob q=>Heap.get?_push_of_some _ q
 obtain⟨T,id,hT,ht,hg⟩:=hr pins {s3 with heap:=s3.heap.push {cls:=.type "slice",data:=.fields #[vl,vu,.none]}} σ H3 x v vl vu l u s3.heap.objs.size Q I4 r1 (Heap.IsSliceOf.new ..) pl pu q3
 show wpAny (model X.prog X.w) X.A (subscriptTail e (.Slice lo hi none p2) v (.ref s3.heap.objs.size)) (EP X pins σ Q) X.xe {s3 with heap:=s3.heap.push {cls:=.type "slice",data:=.fields #[vl,vu,.none]}}
 exact tail_any (ops:=[.ref s3.heap.objs.size,v]) ht hT hg (by with_unfolding_all rfl)
def cutV(xs:List V)(lo hi:Option Int):List V:=(xs.drop (HT.sIx xs.length 0 lo)).take (HT.sIx xs.length xs.length hi-HT.sIx xs.length 0 lo)
theorem mv(xs:List V)(lo hi:Option Int):(cutV xs lo hi).length<=xs.length:=by
 unfold cutV
 rw [List.length_take,List.length_drop]
 omega
end
end L2
namespace L2
open PySem PySem.Spec PyProof.Rows
def ixN(n:Nat)(i:Int):Option Nat:=if 0<=i then (if i<n then some i.toNat else none) else if -(n:Int)<=i then some (i+n).toNat else none
def atI{α:Type}(xs:List α)(i:Int):Option α:=(ixN xs.length i).bind fun j=>xs[j]?
theorem nV{n:Nat}{i:Int}{j:Nat}(h:ixN n i=some j):seqIndex? i n=some j/\j<n/\-(n:Int)<=i/\i<n:=by
 unfold ixN at h
 by_cases h0:0<=i
 ·rw [if_pos h0] at h
  by_cases h1:i<n
  ·rw [if_pos h1] at h
   have e:i.toNat=j:=Option.some.inj h
   exact⟨by rw [seqIndex_of h0 h1,e],by omega,by omega,h1⟩
  ·rw [if_neg h1] at h;cases h
 ·rw [if_neg h0] at h
  by_cases h1:-(n:Int)<=i
  ·rw [if_pos h1] at h
   have e:(i+n).toNat=j:=Option.some.inj h
   exact⟨by rw [seqIndex_neg (by omega) h1,e],by omega,h1,by omega⟩
  ·rw [if_neg h1] at h;cases h
theorem oG{α:Type}{xs:List α}{i:Int}{v:α}(h:atI xs i=some v):∃j,seqIndex? i xs.length=some j/\xs[j]?=some v/\j<xs.length/\-(xs.length:Int)<=i/\i<xs.length:=by
 unfold atI at h
 cases e:ixN xs.length i with
 |none=>rw [e] at h;cases h
 |some j=>
  rw [e] at h
  obtain⟨h1,h2,h3,h4⟩:=nV e
  exact⟨j,h1,h,h2,h3,h4⟩
theorem h8{α:Type}{xs:List α}{j:Nat}{v:α}(h:xs[j]?=some v):atI xs (j:Int)=some v:=by
 have hj:j<xs.length:=(List.getElem?_eq_some_iff.mp h).1
 have e:ixN xs.length (j:Int)=some j:=by
  unfold ixN
  rw [if_pos (by omega),if_pos (by omega)];simp
 unfold atI;rw [e];exact h
def PlainIx(b:Expr):Prop:=∀o i,subscripted b false o i=operate [o,i] (getItem o i)
def IxR(X:Cx)(r:R2):Prop:=
 ∀(value slice:Expr) (pins:List (Addr × Obj)) (s:Shared) (σ:St) (H:Hp) (x y:V) (v u:Value) (Q:VK),Inv X pins σ H s->RelV x v->RelV y u->r x y H Q->
  subscripted slice false v u=operate [v,u] (getItem v u)->wpAny (model X.prog X.w) X.A (subscriptTail value slice v u) (EP X pins σ Q) X.xe s
def MtR(X:Cx)(id:String)(r:V->List V->Hp->VK->Prop):Prop:=
 ∀(pins:List (Addr × Obj)) (s:Shared) (σ:St) (H:Hp) (x:V) (xs:List V) (v:Value) (us:List Value) (Q:VK),Inv X pins σ H s->RelV x v->Vals xs us->r x xs H Q->
  wpAny (model X.prog X.w) X.A (call (.builtin id) (v::us)) (EP X pins σ Q) X.xe s
section
variable {X:Cx}{a b:Expr}{ta tb:TE}{pos:Pos}
theorem aq{r:R2}(hr:IxR X r)(ha:PE X a ta)(hb:PE X b tb)(hs:PlainIx b):PE X (.Subscript a b pos) (tOp r ta tb):=by
 intro pins s σ H Q I h
 exact Subscript_ (binT ha hb I h fun v u s2 x y H2 I2 rx ry q=>hr a b pins s2 σ H2 x y v u Q I2 rx ry q (hs _ _))
inductive sN(K:PySem.W.Frag)(x y:V)(H:Hp)(Q:VK):Prop
 |mk:∀p xs i v,(x=.ref p)->(y=.int i)->(SqL K H p xs)->(atI xs i=some v)->(Q v H)->sN K x y H Q
def rIxL(K:PySem.W.Frag):R2:=fun x y H Q=>sN K x y H Q
inductive rj(K:PySem.W.Frag)(x y:V)(H:Hp)(Q:VK):Prop
 |mk:∀p xs i v,(x=.ref p)->(y=.int i)->(SqT K H p xs)->(atI xs i=some v)->(Q v H)->rj K x y H Q
def rIxT(K:PySem.W.Frag):R2:=fun x y H Q=>rj K x y H Q
theorem au:IxR X (rIxL X.K):=by
 intro value slice pins s σ H x y v u Q I rx ry h hs
 obtain⟨p,xs,i,z,rfl,rfl,hq,he,q⟩:=h
 cases rx
 obtain⟨t,rfl⟩:=ry
 obtain⟨its,r,pl,hz⟩:=I.list hq
 obtain⟨j,h1,h2,h3,h4,h5⟩:=oG he
 obtain⟨w,ew,rw'⟩:=r.get h2
 have hl:=r.length
 have hn:=line63
 have fin:EP X pins σ Q w s:=⟨z,H,I,rw',q⟩
 by_cases h0:0<=i
 ·have hj:i.toNat=j:=by
   rw [seqIndex_of h0 h5] at h1
   exact Option.some.inj h1
  exact item_listR pl.isList h0 (by omega) (by rw [hj];simpa using ew) fin hs
 ·have hj:(i+(its.toArray.size:Int)).toNat=j:=by
   rw [seqIndex_neg (by omega) h4] at h1
   rw [List.size_toArray,<-hl]
   exact Option.some.inj h1
  exact subscriptTail_builtinR (x:=w) pl.isList.typeIs slot_list_getitem.lookup
   (wpAny_getItem_list_neg (Q:=fun r s'=>r=w/\EP X pins σ Q r s') pl.isList (by omega) (by rw [List.size_toArray] <;> omega) (by omega) (by rw [hj];simpa using ew) ⟨rfl,fin⟩) hs
theorem aJ:IxR X (rIxT X.K):=by
 intro value slice pins s σ H x y v u Q I rx ry h hs
 obtain⟨p,xs,i,z,rfl,rfl,hq,he,q⟩:=h
 cases rx
 obtain⟨t,rfl⟩:=ry
 obtain⟨its,r,pl,hz⟩:=I.tuple hq
 obtain⟨j,h1,h2,h3,h4,h5⟩:=oG he
 obtain⟨w,ew,rw'⟩:=r.get h2
 have hl:=r.length
 have hn:=line63
 have fin:EP X pins σ Q w s:=⟨z,H,I,rw',q⟩
 exact subscriptTail_builtinR (x:=w) pl.typeIs slot_tuple_getitem.lookup
  (getItem_tuple (j:=j) (Q:=fun r s'=>r=w/\EP X pins σ Q r s') pl (by omega) (by omega) (by rw [List.size_toArray,<-hl];exact h1) (by simpa using ew) ⟨rfl,fin⟩) hs
theorem mV(its:List Value)(n j:Nat)(u:Value):Obj.mapSeq (·.setIfInBounds j u) {cls:=.type "list",data:=.seq its.toArray n}={cls:=.type "list",data:=.seq (its.set j u).toArray n}:=by
 simp [Obj.mapSeq]
theorem Inv.lst{pins:List (Addr × Obj)}{σ:St}{H:Hp}{s:Shared}{p:Addr}{xs:List V}(I:Inv X pins σ H s)(h:H p=some (.lst xs)):
  ∃(its:List Value) (n:Nat),Vals xs its/\s.heap.get? p=some {cls:=.type "list",data:=.seq its.toArray n}/\xs.length<=sizeLine:=by
 obtain⟨z,its,n,r,e⟩:=I.hok p _ h
 exact⟨its,n,r,e,z⟩
theorem Inv.lstUpd{pins:List (Addr × Obj)}{σ:St}{H:Hp}{s:Shared}{p:Addr}{xs ys:List V}{its its':List Value}{n n':Nat}{f:Obj->Obj}(I:Inv X pins σ H s)(h:H p=some (.lst xs))
  (ho:s.heap.get? p=some {cls:=.type "list",data:=.seq its.toArray n}) (hf:f {cls:=.type "list",data:=.seq its.toArray n}={cls:=.type "list",data:=.seq its'.toArray n'}) (r:Vals ys its') (hz:ys.length<=sizeLine) (t:Nat):
  Inv X pins σ (upd H p (.lst ys)) {s with heap:=s.heap.update p f,toks:=t}:=by
 have e:(s.heap.update p f).get? p=some {cls:=.type "list",data:=.seq its'.toArray n'}:=by
  rw [Heap.get?_update_self f ho (by rw [hf] <;> rfl),hf]
 refine I.write (x:=p) (e:=p) (by rw [h];trivial) (.inl rfl) (fun b u hb q=>(Heap.get?_update_other _ _ (Ne.symm hb)).trans q) ⟨_,e⟩ ?_
 exact⟨hz,its',n',r,e⟩
inductive nT(o i v:V)(H:Hp)(Q:Hp->Prop):Prop
 |mk:∀p xs k j,(o=.ref p)->(i=.int k)->(H p=some (.lst xs))->(ixN xs.length k=some j)->(Q (upd H p (.lst (xs.set j v))))->nT o i v H Q
def rSetL:V->V->V->Hp->(Hp->Prop)->Prop:=fun o i v H Q=>nT o i v H Q
theorem set_list:PSet X rSetL:=by
 intro pins s σ H o i v ov iv u Q I ro ri rv h
 obtain⟨p,xs,k,j,rfl,rfl,hp,hj,q⟩:=h
 cases ro
 obtain⟨t,rfl⟩:=ri
 obtain⟨its,n,r,ho,hz⟩:=I.lst hp
 obtain⟨h1,h2,h3,h4⟩:=nV hj
 have hl:=r.length
 have hn:=line63
 have I':Inv X pins σ (upd H p (.lst (xs.set j v))) {s with heap:=s.heap.update p (Obj.mapSeq (·.setIfInBounds j u))}:=
  I.lstUpd hp ho (mV its n j u) (r.set rv j) (by rw [List.length_set];exact hz) s.toks
 by_cases h0:0<=k
 ·have hk:k.toNat=j:=by
   rw [seqIndex_of h0 h4] at h1
   exact Option.some.inj h1
  exact PySem.W.ki_setAt ho h0 (by omega) (by rw [List.size_toArray,<-hl];exact h4) (by rw [hk];exact⟨_,I',q⟩)
 ·have hk:(k+(its.toArray.size:Int)).toNat=j:=by
   rw [seqIndex_neg (by omega) h3] at h1
   rw [List.size_toArray,<-hl]
   exact Option.some.inj h1
  exact PySem.W.ki_setBack ho (by omega) (by rw [List.size_toArray,<-hl];exact h3) (by omega) (by rw [hk];exact⟨_,I',q⟩)
theorem kE(lo hi:Option Int)(n:Nat):(sliceBounds lo hi none n).1=((HT.sIx n 0 lo:Nat):Int)/\(sliceBounds lo hi none n).2.1=((HT.sIx n n hi:Nat):Int)/\(sliceBounds lo hi none n).2.2=1:=by
 refine⟨?_,?_,rfl⟩
 ·cases lo with
  |none=>simp [sliceBounds,HT.sIx]
  |some i=>
   simp only [sliceBounds,HT.sIx,Option.getD_none,show (1:Int) > 0 by decide,if_true]
   by_cases h:i<0
   ·simp only [h,if_true] <;> omega
   ·simp only [h,if_false] <;> omega
 ·cases hi with
  |none=>simp [sliceBounds,HT.sIx]
  |some i=>
   simp only [sliceBounds,HT.sIx,Option.getD_none,show (1:Int) > 0 by decide,if_true]
   by_cases h:i<0
   ·simp only [h,if_true] <;> omega
   ·simp only [h,if_false] <;> omega
theorem jv(its:List Value)(lo hi:Option Int):slicePick its.toArray lo hi none=((its.drop (HT.sIx its.length 0 lo)).take (HT.sIx its.length its.length hi-HT.sIx its.length 0 lo)).toArray:=by
 obtain⟨h1,h2,h3⟩:=kE lo hi its.toArray.size
 unfold slicePick
 rw [h1,h2,h3]
 simp only [sliceRange_one,pick_run,List.size_toArray] <;> rfl
inductive qN(K:PySem.W.Frag)(x:V)(lo hi:Option Int)(H:Hp)(Q:VK):Prop
 |mk:∀a xs,(x=.ref a)->(SqL K H a xs)->(∀p,H p=none->Q (.ref p) (upd H p (.lst (cutV xs lo hi))))->qN K x lo hi H Q
def rSlL(K:PySem.W.Frag):V->Option Int->Option Int->Hp->VK->Prop:=fun x lo hi H Q=>qN K x lo hi H Q
theorem eO:SlR X (rSlL X.K):=by
 intro pins s σ H x v vl vu lo hi sl Q I rx hs pl pu h
 obtain⟨a,xs,rfl,hx,q⟩:=h
 cases rx
 obtain⟨its,r,ht,hz⟩:=I.list hx
 have hlen:=r.length
 refine⟨"list",_,slot_list_getitem.lookup,ht.isList.typeIs,?_⟩
 refine wpAny_getItem_list_slice ht.isList hs pl pu .none (by simp) ?_ (by rw [List.size_toArray] <;> omega)
 rw [jv,<-hlen]
 refine⟨.ref s.heap.objs.size,_,I.laid (t':=s.toks) (o:=.lst (cutV xs lo hi)) (fun b ob q=>Heap.get?_push_of_some _ q) (Nat.le_refl _) ?_,rfl,q _ (I.hok.fresh (Nat.le_refl _))⟩
 exact⟨Nat.le_trans (mv xs lo hi) hz,_,0,(r.drop (HT.sIx xs.length 0 lo)).take (HT.sIx xs.length xs.length hi-HT.sIx xs.length 0 lo),Heap.get?_push_size _ rfl⟩
def flatV:V->Bool
 |.non=>true
 |.bl _=>true
 |.int _=>true
 |.str _=>true
 |_=>false
def eqV:V->V->Bool
 |.non,.non=>true
 |.bl a,.bl b=>a==b
 |.bl a,.int b=>(if a then 1 else 0)==b
 |.int a,.bl b=>a==(if b then 1 else 0)
 |.int a,.int b=>a==b
 |.str a,.str b=>a==b
 |_,_=>false
theorem uV{A:Around}{s:Shared}{y x:V}{u v:Value}(ry:RelV y u)(rx:RelV x v)(fy:flatV y=true)(fx:flatV x=true):SeqAt.EqAt A s u v (eqV y x):=by
 cases y with
 |non=>
  cases ry
  cases x with
  |non=>cases rx;exact SeqAt.EqAt.same _
  |bl b=>cases rx;exact SeqAt.EqAt.none_bool b
  |int b=>obtain⟨t,rfl⟩:=rx;exact SeqAt.EqAt.none_int b t
  |str b=>obtain⟨t,rfl⟩:=rx;exact SeqAt.EqAt.none_str b t
  |_=>exact absurd (show false=true from fx) Bool.false_ne_true
 |bl a=>
  cases ry
  cases x with
  |non=>cases rx;exact SeqAt.EqAt.bool_none a
  |bl b=>cases rx;exact SeqAt.EqAt.bool_bool a b
  |int b=>obtain⟨t,rfl⟩:=rx;exact SeqAt.EqAt.bool_int a b t
  |str b=>obtain⟨t,rfl⟩:=rx;exact SeqAt.EqAt.bool_str a b t
  |_=>exact absurd (show false=true from fx) Bool.false_ne_true
 |int a=>
  obtain⟨t',rfl⟩:=ry
  cases x with
  |non=>cases rx;exact SeqAt.EqAt.int_none a t'
  |bl b=>cases rx;exact SeqAt.EqAt.int_bool a t' b
  |int b=>obtain⟨t,rfl⟩:=rx;exact SeqAt.EqAt.int_int a t' b t
  |str b=>obtain⟨t,rfl⟩:=rx;exact SeqAt.EqAt.int_str a t' b t
  |_=>exact absurd (show false=true from fx) Bool.false_ne_true
 |str a=>
  obtain⟨t',rfl⟩:=ry
  cases x with
  |non=>cases rx;exact SeqAt.EqAt.str_none a t'
  |bl b=>cases rx;exact SeqAt.EqAt.str_bool a t' b
  |int b=>obtain⟨t,rfl⟩:=rx;exact SeqAt.EqAt.str_int a t' b t
  |str b=>obtain⟨t,rfl⟩:=rx;exact SeqAt.EqAt.str_str a t' b t
  |_=>exact absurd (show false=true from fx) Bool.false_ne_true
 |_=>exact absurd (show false=true from fy) Bool.false_ne_true
def eqU(x:V)(u:Value):Bool:=match u with
 |.none=>eqV .non x
 |.bool b=>eqV (.bl b) x
 |.int i _=>eqV (.int i) x
 |.str z _=>eqV (.str z) x
 |_=>false
theorem qR{x y:V}{u:Value}(r:RelV y u)(f:flatV y=true):eqU x u=eqV y x:=by
 cases y with
 |non=>cases r;rfl
 |bl b=>cases r;rfl
 |int i=>obtain⟨t,rfl⟩:=r;rfl
 |str z=>obtain⟨t,rfl⟩:=r;rfl
 |_=>exact absurd (show false=true from f) Bool.false_ne_true
theorem kC{x:V}:∀{xs:List V} {us:List Value},Vals xs us->xs.all flatV=true->us.any (eqU x)=xs.any fun y=>eqV y x
 |_,_,.nil,_=>rfl
 |y::xs,u::us,.cons r t,f=>by
  rw [List.all_cons,Bool.and_eq_true] at f
  rw [List.any_cons,List.any_cons,qR r f.1,kC t f.2]
theorem iU{A:Around}{s:Shared}{x:V}{v:Value}(rx:RelV x v)(fx:flatV x=true):∀{xs:List V} {us:List Value},Vals xs us->xs.all flatV=true->∀u∈us,SeqAt.EqAt A s u v (eqU x u)
 |_,_,.nil,_=>fun u hu=>by cases hu
 |y::xs,u::us,.cons r t,f=>fun u' hu=>by
  rw [List.all_cons,Bool.and_eq_true] at f
  rcases List.mem_cons.mp hu with rfl |hu
  ·rw [qR r f.1];exact uV r rx f.1 fx
  ·exact iU rx fx t f.2 u' hu
def inV(x:V)(xs:List V):Bool:=xs.any fun y=>eqV y x
inductive uF(K:PySem.W.Frag)(neg:Bool)(x y:V)(H:Hp)(Q:VK):Prop
 |mk:∀p xs,(y=.ref p)->((SqL K H p xs\/SqT K H p xs))->(flatV x=true)->(xs.all flatV=true)->(Q (.bl (if neg then !inV x xs else inV x xs)) H)->uF K neg x y H Q
def rIn(K:PySem.W.Frag)(neg:Bool):R2:=fun x y H Q=>uF K neg x y H Q
theorem pE:OpR X (compareOp .In) (rIn X.K false):=by
 intro pins s σ H x y v u Q I rx ry h
 obtain⟨p,xs,rfl,hq,fx,fs,q⟩:=h
 cases ry
 rcases hq with hq |hq
 ·obtain⟨its,r,pl,hz⟩:=I.list hq
  refine SeqAt.in_listAt (eqU x) pl.isList (fun w hw=>iU rx fx r fs w (by simpa using hw)) ⟨.bl _,H,I,rfl,?_⟩
  rw [show its.toArray.any (eqU x)=its.any (eqU x) by simp,kC r fs]
  exact q
 ·obtain⟨its,r,pl,hz⟩:=I.tuple hq
  refine SeqAt.in_tupleAt (eqU x) pl (fun w hw=>iU rx fx r fs w (by simpa using hw)) ⟨.bl _,H,I,rfl,?_⟩
  rw [show its.toArray.any (eqU x)=its.any (eqU x) by simp,kC r fs]
  exact q
theorem aV:CallR X (.builtin "len") (fun xs H Q=>∃p ys,xs=[.ref p]/\(SqL X.K H p ys\/SqT X.K H p ys)/\Q (.int ys.length) H):=by
 intro pins s σ H xs us Q I r h
 obtain⟨p,ys,rfl,hq,q⟩:=h
 obtain⟨u,rfl,rx⟩:=vals1 r
 cases rx
 have hn:=line63
 rcases hq with hq |hq
 ·obtain⟨its,r',pl,hz⟩:=I.list hq
  have hlen:=r'.length
  exact Calls.call_len_list pl.isList (by simp only [List.size_toArray] <;> omega) ⟨.int ys.length,H,I.tok _,⟨s.toks+1,by rw [List.size_toArray,hlen]⟩,q⟩
 ·obtain⟨its,r',pl,hz⟩:=I.tuple hq
  have hlen:=r'.length
  exact len_tuple pl (by simp only [List.size_toArray] <;> omega) ⟨.int ys.length,H,I.tok _,⟨s.toks+1,by rw [List.size_toArray,hlen]⟩,q⟩
def tyV(K:PySem.W.Frag)(T:String)(x:V)(H:Hp):Prop:=match x with
 |.str _=>T="str"
 |.int _=>T="int"
 |.ref p=>(T="list"/\∃xs,SqL K H p xs)\/(T="tuple"/\∃o,K.lookup p=some o/\o.cls=.type "tuple"/\o.dict=none)\/
   (T="dict"/\((∃kvs,H p=some (.dK kvs))\/∃kvs,H p=some (.dT kvs)))\/(T="set"/\∃S n,H p=some (.set S n))
 |_=>False
theorem sF{pins:List (Addr × Obj)}{σ:St}{H:Hp}{s:Shared}{T:String}{x:V}{v:Value}(I:Inv X pins σ H s)(r:RelV x v)(ty:tyV X.K T x H):
  s.TypeIs v T/\∀a,v=.ref a->∃ob,s.heap.get? a=some ob/\ob.dict=none:=by
 cases x with
 |str z=>
  obtain⟨t,rfl⟩:=r
  cases (show T="str" from ty)
  exact⟨typeIs_str s z t,fun _ e=>nomatch e⟩
 |int i=>
  obtain⟨t,rfl⟩:=r
  cases (show T="int" from ty)
  exact⟨typeIs_int s i t,fun _ e=>nomatch e⟩
 |ref p=>
  cases r
  rcases ty with⟨rfl,xs,hq⟩|⟨rfl,o,hk,hc,hd⟩|⟨rfl,hk⟩|⟨rfl,S,n,hk⟩
  ·obtain⟨its,_,pl,_⟩:=I.list hq
   refine⟨pl.isList.typeIs,fun a e=>?_⟩
   cases e
   obtain⟨o,n,e,c,hd,_⟩:=pl
   exact⟨o,e,hd⟩
  ·refine⟨⟨o,I.kIn p o hk,hc⟩,fun a e=>?_⟩
   cases e
   exact⟨o,I.kIn _ o hk,hd⟩
  ·have z:∃o,s.heap.get? p=some o/\o.ExactDict:=by
    rcases hk with⟨kvs,hk⟩|⟨kvs,hk⟩
    ·obtain⟨_,_,_,_,o,_,_,e,ex,_⟩:=I.hok p _ hk
     exact⟨o,e,ex⟩
    ·obtain⟨_,_,_,_,o,_,_,e,ex,_⟩:=I.hok p _ hk
     exact⟨o,e,ex⟩
   obtain⟨o,e,ex⟩:=z
   refine⟨⟨o,e,ex.1⟩,fun a e2=>?_⟩
   cases e2
   exact⟨o,e,ex.2.1⟩
  ·obtain⟨o,_,_,_,e,ex,_⟩:=I.hok p _ hk
   refine⟨⟨o,e,ex.1⟩,fun a e2=>?_⟩
   cases e2
   exact⟨o,e,ex.2.1⟩
 |_=>exact False.elim ty
def tBM0(K:PySem.W.Frag)(T:String)(r:V->List V->Hp->VK->Prop)(to:TE):TE:=fun σ H Q=>to σ H fun x H1=>tyV K T x H1/\r x [] H1 Q
def tBM(K:PySem.W.Frag)(T:String)(r:V->List V->Hp->VK->Prop)(to:TE)(t:TA):TE:=fun σ H Q=>to σ H fun x H1=>tyV K T x H1/\t σ H1 fun xs H2=>r x xs H2 Q
variable {o e:Expr}{es:List Expr}{to:TE}{t:TA}{name:Str}{apos cpos:Pos}{T id:String}{r:V->List V->Hp->VK->Prop}
theorem rh(pa:PlainAttrs T)(slot:Slot T name id)(hty:typeOf (.builtin id)=pure (.type "method_descriptor"))(hm:MtR X id r)(ho:PE X o to)
  (hbase:attributeBase o name X.env (eval o X.env)=eval o X.env:=by rfl) (hline:(apos.endLine==cpos.line)=true:=by rfl):PE X (.Call (.Attribute o name apos) [] [] cpos) (tBM0 X.K T r to):=by
 intro pins s σ H Q I h
 refine wpAny_Call_method0_late hbase hline (thn (ho pins s σ H _ I h) fun v s1 ⟨x,H1,I1,r1,ty,q1⟩=>?_)
 obtain⟨h1,h2⟩:=sF I1 r1 ty
 exact⟨T,id,pa,slot,hty,h1,h2,Calls.callWith_builtin rfl (PySem.evalArgs_none (hm pins s1 σ H1 x [] v [] Q I1 r1 .nil q1))⟩
theorem gb(pa:PlainAttrs T)(slot:Slot T name id)(hty:typeOf (.builtin id)=pure (.type "method_descriptor"))(hm:MtR X id r)(ho:PE X o to)(ha:PA X (e::es) t)
  (hbase:attributeBase o name X.env (eval o X.env)=eval o X.env:=by rfl)
  (hfew:((backTo cpos (starEach (e::es) X.env)).all (fun x=>!x.1) && (backToKw cpos (keywordEach [] X.env)).all (fun x=>x.1.isSome)
   && decide ((e::es).length+([]:List Keyword).length+(if ([]:List Keyword).isEmpty then 0 else 1)<30))=true:=by rfl)
  (hline:(apos.endLine==cpos.line)=true:=by rfl) (hs:starEach (e::es) X.env=(false,eval e X.env)::starEach es X.env:=by rfl) (hplain:(backTo cpos (starEach es X.env)).any (·.1)=false:=by rfl):
  PE X (.Call (.Attribute o name apos) (e::es) [] cpos) (tBM X.K T r to t):=by
 intro pins s σ H Q I h
 refine wpAny_Call_method_late hbase hfew hline rfl (thn (ho pins s σ H _ I h) fun v s1 ⟨x,H1,I1,r1,ty,q1⟩=>?_)
 obtain⟨h1,h2⟩:=sF I1 r1 ty
 refine⟨T,id,pa,slot,hty,h1,h2,?_⟩
 have hA:=ha cpos pins s1 σ H1 _ I1 q1
 rw [hs] at hA ⊢
 refine Calls.callWith_builtin (by show (false || (backTo cpos (starEach es X.env)).any (·.1))=false;rw [hplain] <;> rfl) (Calls.evalArgs_plain ?_)
 exact thn hA fun us s2 ⟨vs,H2,I2,r2,q2⟩=>hm pins s2 σ H2 x vs v us Q I2 r1 r2 q2
end
end L2
namespace L2
open PySem PySem.Spec PyProof.Rows
def MtM(X:Cx)(id:String)(r:V->List V->Hp->VK->Prop):Prop:=
 ∀(pins:List (Addr × Obj)) (s:Shared) (σ:St) (H:Hp) (x:V) (xs:List V) (v:Value) (us:List Value) (Q:VK),Inv X pins σ H s->RelV x v->Vals xs us->r x xs H Q->
  wpAny (model X.prog X.w) X.A (call (.builtin id) (v::us)) (EP X pins σ Q) X.xe s
theorem Vals.one:∀{x:V} {us:List Value},Vals [x] us->∃u,us=[u]/\RelV x u
 |_,_,.cons r .nil=>⟨_,rfl,r⟩
theorem Vals.zero:∀{us:List Value},Vals [] us->us=[]
 |_,.nil=>rfl
theorem Vals.dropLast{xs:List V}{us:List Value}(h:Vals xs us):Vals xs.dropLast us.dropLast:=by
 induction h with
 |nil=>exact .nil
 |cons r t ih=>
  cases t with
  |nil=>exact .nil
  |cons q t'=>exact .cons r ih
theorem Vals.reverse{xs:List V}{us:List Value}(h:Vals xs us):Vals xs.reverse us.reverse:=by
 induction h with
 |nil=>exact .nil
 |cons r t ih=>rw [List.reverse_cons,List.reverse_cons];exact Vals.append ih (.cons r .nil)
theorem Vals.rep{xs:List V}{us:List Value}(h:Vals xs us):∀k:Nat,Vals (List.replicate k xs).flatten (List.replicate k us).flatten
 |0=>.nil
 |k+1=>by
  rw [List.replicate_succ,List.replicate_succ,List.flatten_cons,List.flatten_cons]
  exact Vals.append h (Vals.rep h k)
theorem nk{α:Type}(l:List α):l.eraseIdx (l.length-1)=l.dropLast:=by
 induction l with
 |nil=>rfl
 |cons a r ih=>
  cases r with
  |nil=>rfl
  |cons b r=>
   have e:(a::b::r).length-1=((b::r).length-1)+1:=by
    have h1:(a::b::r).length=r.length+2:=rfl
    have h2:(b::r).length=r.length+1:=rfl
    omega
   rw [e,List.eraseIdx_cons_succ,ih]
   all_goals rfl
theorem foldl_rep(its:List Value):∀(k:Nat) (acc:List Value),
  List.foldl (fun x1 x2=>x1++x2) acc.toArray (List.replicate k its.toArray)=(acc++(List.replicate k its).flatten).toArray
 |0,acc=>by simp
 |k+1,acc=>by
  have e:acc.toArray++its.toArray=(acc++its).toArray:=by simp
  have e2:(acc++its)++(List.replicate k its).flatten=acc++(List.replicate (k+1) its).flatten:=by
   rw [List.replicate_succ,List.flatten_cons,List.append_assoc]
  rw [<-e2,<-foldl_rep its k (acc++its),<-e,List.replicate_succ,List.foldl_cons]
section
variable {X:Cx}{pins:List (Addr × Obj)}{σ:St}{H:Hp}{s:Shared}{l b:Addr}{xs ys zs:List V}
theorem Inv.lset{its its':List Value}{n:Nat}{f:Array Value->Array Value}{t':Nat}(I:Inv X pins σ H s)(hH:H l=some (.lst xs))
  (e:s.heap.get? l=some {cls:=.type "list",data:=.seq its.toArray n}) (hf:f its.toArray=its'.toArray) (hv:Vals ys its') (hz:ys.length<=sizeLine):
  Inv X pins σ (upd H l (.lst ys)) {s with heap:=s.heap.update l (Obj.mapSeq f),toks:=t'}:=by
 have q:=PySem.IsL.update e f
 rw [hf] at q
 refine I.write (x:=l) (e:=l) (by rw [hH];exact trivial) (.inl rfl) (fun b' u hb hu=>(Heap.get?_update_other s.heap (Obj.mapSeq f) (Ne.symm hb)).trans hu) ⟨_,q⟩ ?_
 exact⟨hz,its',_,hv,q⟩
theorem Inv.lnew{its:List Value}{t':Nat}(I:Inv X pins σ H s)(hv:Vals ys its)(hz:ys.length<=sizeLine):
  Inv X pins σ (upd H s.heap.objs.size (.lst ys)) {s with heap:=s.heap.push {cls:=.type "list",data:=.seq its.toArray},toks:=t'}:=
 I.laid (fun _ _ q=>Heap.get?_push_of_some _ q) (Nat.le_refl _) ⟨hz,its,0,hv,Heap.get?_push_size _ rfl⟩
theorem Inv.fresh(I:Inv X pins σ H s):H s.heap.objs.size=none:=I.hok.fresh (Nat.le_refl _)
theorem Inv.lstM(I:Inv X pins σ H s)(hH:H l=some (.lst xs)):xs.length<=sizeLine/\∃(its:List Value) (n:Nat),Vals xs its/\xs.length=its.length/\s.heap.get? l=some {cls:=.type "list",data:=.seq its.toArray n}:=by
 obtain⟨z,its,n,r,e⟩:=I.hok l _ hH
 exact⟨z,its,n,r,r.length,e⟩
theorem notLongL{n:Nat}(h:n<=sizeLine):Builtin.List.listTooLong n=false:=by
 unfold Builtin.List.listTooLong
 exact decide_eq_false (by omega)
end
section
variable {X:Cx}
inductive jF(x:V)(vs:List V)(H:Hp)(Q:VK):Prop
 |mk:∀l xs y,(x=.ref l)->(vs=[y])->(H l=some (.lst xs))->(xs.length<sizeLine)->(Q .non (upd H l (.lst (xs++[y]))))->jF x vs H Q
def rAppend:V->List V->Hp->VK->Prop:=fun x vs H Q=>jF x vs H Q
theorem cb:MtM X "list.append" rAppend:=by
 intro pins s σ H x vs v us Q I rx rv h
 obtain⟨l,xs,y,rfl,rfl,hH,hz,q⟩:=h
 cases rx
 obtain⟨u,rfl,ru⟩:=rv.one
 obtain⟨z,its,n,r,hl,e⟩:=I.lstM hH
 refine call_meets F.slot_list_append ⟨_,e,rfl⟩ F.entry_list_append (F.args_list_append_2 _ _) (PySem.list_append l its.toArray n u (by rw [List.size_toArray];omega)) ⟨e,?_⟩
 refine⟨.non,_,I.lset (its':=its++[u]) hH e (by simp) (r.append (.cons ru .nil)) ?_,rfl,q⟩
 rw [List.length_append,List.length_singleton]
 omega
def rExtend:V->List V->Hp->VK->Prop:=fun x vs H Q=>∃l b xs zs,x=.ref l/\vs=[.ref b]/\H l=some (.lst xs)/\H b=some (.lst zs)/\xs.length+zs.length<=sizeLine/\Q .non (upd H l (.lst (xs++zs)))
theorem pL:MtM X "list.extend" rExtend:=by
 intro pins s σ H x vs v us Q I rx rv h
 obtain⟨l,b,xs,zs,rfl,rfl,hH,hB,hz,q⟩:=h
 cases rx
 obtain⟨u,rfl,ru⟩:=rv.one
 cases ru
 obtain⟨z,its,n,r,hl,e⟩:=I.lstM hH
 obtain⟨z2,its2,n2,r2,hl2,e2⟩:=I.lstM hB
 have hsz:its.toArray.size+its2.toArray.size<=sizeLine:=by rw [List.size_toArray,List.size_toArray];omega
 have hlong:¬(!its.toArray.isEmpty && Builtin.List.listTooLong (its.toArray.size+its2.toArray.size))=true:=by
  rw [notLongL hsz,Bool.and_false]
  exact Bool.false_ne_true
 refine call_meets F.slot_list_extend ⟨_,e,rfl⟩ F.entry_list_extend (F.args_list_extend_2 _ _)
  (AutoSeq1.list_extend_list_list_0 l its.toArray n b its2.toArray n2 hlong (by rw [List.size_toArray];omega) (by omega)) ⟨e,e2,?_⟩
 refine⟨.non,_,I.lset (its':=its++its2) hH e (by simp) (r.append r2) ?_,rfl,q⟩
 rw [List.length_append]
 omega
def rPop:V->List V->Hp->VK->Prop:=fun x vs H Q=>∃l xs y,x=.ref l/\vs=[]/\H l=some (.lst xs)/\xs[xs.length-1]?=some y/\Q y (upd H l (.lst xs.dropLast))
theorem uH:MtM X "list.pop" rPop:=by
 intro pins s σ H x vs v us Q I rx rv h
 obtain⟨l,xs,y,rfl,rfl,hH,hy,q⟩:=h
 cases rx
 have hus:=rv.zero
 subst hus
 obtain⟨z,its,n,r,hl,e⟩:=I.lstM hH
 obtain⟨u,hu,ru⟩:=r.get hy
 have hy':its.toArray[its.toArray.size-1]?=some u:=by
  show its.toArray[its.length-1]?=some u
  rw [<-Array.getElem?_toList,<-hl]
  exact hu
 refine call_meets F.slot_list_pop ⟨_,e,rfl⟩ F.entry_list_pop (F.args_list_pop_1 _) (MeetsSeq.list_pop_last l its.toArray n u hy' (by rw [List.size_toArray];omega)) ⟨e,?_⟩
 refine⟨y,_,I.lset (its':=its.dropLast) hH e ?_ r.dropLast ?_,ru,q⟩
 ·show its.toArray.eraseIdxIfInBounds (its.toArray.size-1)=its.dropLast.toArray
  rw [List.size_toArray,List.eraseIdxIfInBounds_toArray,nk]
 ·rw [List.length_dropLast]
  omega
def rReverse:V->List V->Hp->VK->Prop:=fun x vs H Q=>∃l xs,x=.ref l/\vs=[]/\H l=some (.lst xs)/\Q .non (upd H l (.lst xs.reverse))
theorem nH:MtM X "list.reverse" rReverse:=by
 intro pins s σ H x vs v us Q I rx rv h
 obtain⟨l,xs,rfl,rfl,hH,q⟩:=h
 cases rx
 have hus:=rv.zero
 subst hus
 obtain⟨z,its,n,r,hl,e⟩:=I.lstM hH
 refine call_meets F.slot_list_reverse ⟨_,e,rfl⟩ F.entry_list_reverse (F.args_list_reverse_1 _) (AutoSeq1.list_reverse_list_0 l its.toArray n (by rw [List.size_toArray];omega)) ⟨e,?_⟩
 refine⟨.non,_,I.lset (its':=its.reverse) hH e (by simp) r.reverse ?_,rfl,q⟩
 rw [List.length_reverse]
 omega
inductive rM(x y:V)(H:Hp)(Q:VK):Prop
 |mk:∀l b xs zs,(x=.ref l)->(y=.ref b)->(H l=some (.lst xs))->(H b=some (.lst zs))->(xs.length+zs.length<=sizeLine)->(∀p,H p=none->Q (.ref p) (upd H p (.lst (xs++zs))))->rM x y H Q
def rCat:R2:=fun x y H Q=>rM x y H Q
theorem mG:OpR X (binaryOp .Add) rCat:=by
 intro pins s σ H x y v u Q I rx ry h
 obtain⟨l,b,xs,zs,rfl,rfl,hH,hB,hz,q⟩:=h
 cases rx
 cases ry
 obtain⟨z,its,n,r,hl,e⟩:=I.lstM hH
 obtain⟨z2,its2,n2,r2,hl2,e2⟩:=I.lstM hB
 refine PySem.P.add_list e e2 ?_ (by rw [List.size_toArray,List.size_toArray];omega)
 have ea:its.toArray++its2.toArray=(its++its2).toArray:=by simp
 rw [ea]
 exact⟨.ref _,_,I.lnew (t':=s.toks) (r.append r2) (by rw [List.length_append];omega),rfl,q _ I.fresh⟩
inductive rP(x y:V)(H:Hp)(Q:VK):Prop
 |mk:∀l k xs,(x=.ref l)->(y=.int k)->(H l=some (.lst xs))->(-(2^63)<=k)->(k<2^63)->(xs.length*k.toNat<=sizeLine)->(∀p,H p=none->Q (.ref p) (upd H p (.lst (List.replicate k.toNat xs).flatten)))->rP x y H Q
def rRep:R2:=fun x y H Q=>rP x y H Q
theorem len_rep{α:Type}(xs:List α)(k:Nat):(List.replicate k xs).flatten.length=k*xs.length:=by
 induction k with
 |zero=>simp
 |succ k ih=>rw [List.replicate_succ,List.flatten_cons,List.length_append,ih,Nat.succ_mul,Nat.add_comm]
theorem bT:OpR X (binaryOp .Mult) rRep:=by
 intro pins s σ H x y v u Q I rx ry h
 obtain⟨l,k,xs,rfl,rfl,hH,h1,h2,hz,q⟩:=h
 cases rx
 obtain⟨t,rfl⟩:=ry
 obtain⟨z,its,n,r,hl,e⟩:=I.lstM hH
 have hlen:its.toArray.size*k.toNat<=sizeLine:=by rw [List.size_toArray,<-hl];exact hz
 have hcap:¬its.toArray.size*k.toNat > (2^63-1)/8:=by
  have:(sizeLine:Nat)<=(2^63-1)/8:=by decide
  omega
 have hfit:¬(!Builtin.List.listFitsIndex k)=true:=by
  rw [fitsIndex_both h1 h2]
  exact Bool.false_ne_true
 have hlong:¬Builtin.List.listTooLong (its.toArray.size*k.toNat)=true:=by
  rw [notLongL hlen]
  exact Bool.false_ne_true
 have hnew:List.foldl (fun x1 x2=>x1++x2) #[] (List.replicate (if its.toArray.isEmpty=true then 0 else k.toNat) its.toArray)=(List.replicate k.toNat its).flatten.toArray:=by
  have f0:∀m:Nat,List.foldl (fun x1 x2=>x1++x2) #[] (List.replicate m its.toArray)=(List.replicate m its).flatten.toArray:=fun m=>by
   have:=foldl_rep its m []
   rw [List.nil_append] at this
   exact this
  rw [f0]
  cases its with
  |nil=>simp
  |cons a r'=>rw [if_neg (by simp)]
 refine wpAny_binaryOp_repeat_ref (T:="list") (U:="int") (by decide) ⟨_,e,rfl⟩ (fun s'=>typeIs_int s' k t) noFill_list_mul F.fills_int_mul F.slot_int_rmul repeat_list F.slot_int_index.lookup
  (call_meets F.slot_int_rmul (typeIs_int s k t) F.entry_int_rmul (F.args_int_rmul_2 _ _) (int___rmul___int_list k t l its.toArray n)
   ⟨e,rfl,⟨_,e,rfl⟩,call_meets F.slot_list_mul ⟨_,e,rfl⟩ F.entry_list_mul (F.args_list_mul_2 _ _) (AutoListH.list___mul___list_int_3 l its.toArray n k t hfit hcap hlong) ⟨e,?_⟩⟩)
 rw [hnew]
 exact⟨.ref _,_,I.lnew (t':=s.toks) (r.rep k.toNat) (by rw [len_rep,Nat.mul_comm];exact hz),rfl,q _ I.fresh⟩
end
section
variable {prog:Program}{w:World}{A:Around}{E:Value->Shared->Prop}{s:Shared}
set_option maxRecDepth 100000 in
end
section
variable {X:Cx}
end
end L2
namespace L2
open PySem PySem.Spec PyProof.Rows
theorem Vals.ints:∀{ns:List Int} {us:List Value},Vals (ns.map V.int) us->IntsAre us ns
 |[],us,h=>by
  rw [List.map_nil] at h
  cases h
  exact IntsAre.nil
 |n::ns,us,h=>by
  rw [List.map_cons] at h
  cases h with
  |cons r t=>
   obtain⟨k,rfl⟩:=r
   exact IntsAre.cons n k (Vals.ints t)
theorem Vals.bls:∀{bs:List Bool} {us:List Value},Vals (bs.map V.bl) us->us=bs.map Value.bool
 |[],us,h=>by
  rw [List.map_nil] at h
  cases h
  rfl
 |b::bs,us,h=>by
  rw [List.map_cons] at h
  cases h with
  |cons r t=>
   cases r
   rw [Vals.bls t,List.map_cons]
theorem Vals.ref1{a:Addr}{us:List Value}(r:Vals [V.ref a] us):us=[Value.ref a]:=by
 cases r with
 |cons r t=>
  cases t
  cases r
  rfl
section
variable {prog:Program}{w:World}{A:Around}{E:Value->Shared->Prop}{s:Shared}{l:Addr}{its:List Value}{ns:List Int}{Q:Value->Shared->Prop}
theorem ud(hh:A.handled=none)(hl:s.heap.IsList l its.toArray)(hi:IntsAre its ns)
  (h:∀h' tk t',(∀b o,s.heap.get? b=some o->h'.get? b=some o)->Q (.int ns.sum t') {s with heap:=h',toks:=tk}):wpAny (model prog w) A (call (.builtin "sum") [.ref l]) Q E s:=by
 obtain⟨xs,e⟩:=hi.allInts.items
 have hn:numsOf (intItems xs).toList=ns:=by rw [<-e];exact hi.numsOf
 rw [nums_intItems] at hn
 rw [e] at hl
 refine PySem.sum_intListG hh hl fun h' tk t' hk=>?_
 have:=h h' tk t' hk
 rw [preSum_eq,List.take_of_length_le (by simp),hn];exact this
end
section
variable {X:Cx}
inductive rW(K:PySem.W.Frag)(vs:List V)(H:Hp)(Q:VK):Prop
 |mk:∀(a:Addr) (ns:List Int),(vs=[V.ref a])->(SqL K H a (ns.map V.int))->(Q (.int ns.sum) H)->rW K vs H Q
def rSum(K:PySem.W.Frag):List V->Hp->VK->Prop:=fun vs H Q=>rW K vs H Q
theorem kZ(hc:X.calm=true):CallR X (.builtin "sum") (rSum X.K):=by
 intro pins s σ H vs us Q I r h
 obtain⟨a,ns,rfl,hs,q⟩:=h
 obtain⟨its,rv,hl,_⟩:=I.list hs
 rw [Vals.ref1 r]
 exact ud (I.ok.hd hc) hl.isList rv.ints fun h' tk t' hk=>⟨.int _,H,I.kept hk,⟨_,rfl⟩,q⟩
end
section
variable {X:Cx}
end
section
variable {X:Cx}
end
theorem sk{prog:Program}{w:World}{A:Around}{E:Value->Shared->Prop}{s:Shared}{l:Addr}{items:Array Value}{Q:Value->Shared->Prop}(hl:s.heap.IsList l items)
  (h:∀s₂:Shared,s₂={s with heap:=s.heap.push {cls:=.type "list_iterator",data:=.fields #[.ref l,.int 0 0]}}->
   (s₂.heap.IsListIter s.heap.objs.size l 0/\s₂.heap.IsList l items)->l≠s.heap.objs.size->Q (.ref s.heap.objs.size) s₂):wpAny (model prog w) A (pyIter (.ref l)) Q E s:=by
 have hlt:l<s.heap.objs.size:=by obtain⟨_,e,_⟩:=hl;exact Heap.lt_size e
 exact wpAny_pyIter_list hl (h _ rfl ⟨⟨_,Heap.get?_push_size _ rfl,rfl,rfl⟩,hl.push _⟩ (Nat.ne_of_lt hlt))
theorem lK{prog:Program}{w:World}{A:Around}{bs:List Bool}{its:List Value}(e:its=bs.map Value.bool):
  TruthOf prog w A (fun i v=>its.toArray[i]?=some v) (fun i=>bs.getD i false):=fun i v s Q E hv hq=>by
 have hv':its[i]?=some v:=by simpa using hv
 rw [e,List.getElem?_map] at hv'
 obtain⟨b,hb,rfl⟩:=Option.map_eq_some_iff.mp hv'
 have hg:bs.getD i false=b:=by rw [List.getD_eq_getElem?_getD,hb] <;> rfl
 have hq':Q (bs.getD i false) s:=hq
 rw [hg] at hq'
 exact wpAny_truthy_bool hq'
theorem all_range:∀bs:List Bool,(List.range bs.length).all (fun i=>bs.getD i false)=bs.all id
 |[]=>rfl
 |b::bs=>by
  rw [List.length_cons,List.range_succ_eq_map,List.all_cons,List.all_map,List.all_cons,<-all_range bs]
  all_goals rfl
section
variable {X:Cx}
inductive sv(K:PySem.W.Frag)(vs:List V)(H:Hp)(Q:VK):Prop
 |mk:∀(a:Addr) (bs:List Bool),(vs=[V.ref a])->(SqL K H a (bs.map V.bl))->(Q (.bl (bs.all id)) H)->sv K vs H Q
def rAll(K:PySem.W.Frag):List V->Hp->VK->Prop:=fun vs H Q=>sv K vs H Q
theorem qX(hc:X.calm=true):CallR X (.builtin "all") (rAll X.K):=by
 intro pins s σ H vs us Q I r h
 obtain⟨a,bs,rfl,hs,q⟩:=h
 obtain⟨its,rv,hl,_⟩:=I.list hs
 rw [Vals.ref1 r]
 have hb:=rv.bls
 refine call_all_walk (sk hl.isList fun s₂ e2 st hne=>?_)
 subst e2
 refine⟨_,_,_,_,_,_,_,rfl,Walks.list (A:=X.A.in1) (I.ok.hd hc) _ a hne its.toArray,st,lK hb,fun h' tk hk=>?_⟩
 refine⟨.bl _,H,I.kept fun b o eo=>hk b o (fun hmem=>?_) (Heap.get?_push_of_some _ eo),?_,q⟩
 ·rcases List.mem_cons.mp hmem with e1 |hmem
  ·exact absurd (e1 ▸ Heap.lt_size eo) (Nat.lt_irrefl _)
  ·cases hmem
 ·show Value.bool _=Value.bool _
  rw [<-all_range,hb,List.size_toArray,List.length_map]
end
mutual
inductive Dp(K:PySem.W.Frag)(H:Hp):V->PyData->Prop
 |non:Dp K H .non .none
 |bl (b:Bool):Dp K H (.bl b) (.bool b)
 |int (i:Int):Dp K H (.int i) (.int i)
 |str (x:Str):Dp K H (.str x) (.str x)
 |lst {a:Addr} {xs:List V} {ds:List PyData}:SqL K H a xs->DpAll K H xs ds->Dp K H (.ref a) (.list ds)
 |tup {a:Addr} {xs:List V} {ds:List PyData}:SqT K H a xs->DpAll K H xs ds->Dp K H (.ref a) (.tuple ds)
inductive DpAll(K:PySem.W.Frag)(H:Hp):List V->List PyData->Prop
 |nil:DpAll K H [] []
 |cons {v:V} {vs:List V} {d:PyData} {ds:List PyData}:Dp K H v d->DpAll K H vs ds->DpAll K H (v::vs) (d::ds)
end
section
variable {X:Cx}{pins:List (Addr × Obj)}{σ:St}{H:Hp}{s:Shared}
mutual
theorem Dp.reads(I:Inv X pins σ H s):∀(d:PyData) (v:V) (u:Value),Dp X.K H v d->RelV v u->∃as,Reads s.heap u d as
 |.none,_,_,h,r=>by
  cases h
  cases r
  exact⟨_,Reads.none⟩
 |.bool b,_,_,h,r=>by
  cases h
  cases r
  exact⟨_,Reads.bool b⟩
 |.int i,_,_,h,r=>by
  cases h
  obtain⟨t,rfl⟩:=r
  exact⟨_,Reads.int i t⟩
 |.str x,_,_,h,r=>by
  cases h
  obtain⟨t,rfl⟩:=r
  exact⟨_,Reads.str x t⟩
 |.list ds,_,_,h,r=>by
  cases h with
  |lst hs ha=>
   cases r
   obtain⟨its,rv,⟨o,n,ho,hc,_,hd⟩,_⟩:=I.list hs
   obtain⟨as,hr⟩:=Dp.readsAll I ds _ its ha rv
   exact⟨_,Reads.list ho hc hd hr⟩
 |.tuple ds,_,_,h,r=>by
  cases h with
  |tup hs ha=>
   cases r
   obtain⟨its,rv,⟨o,ho,hc,n,hd⟩,_⟩:=I.tuple hs
   obtain⟨as,hr⟩:=Dp.readsAll I ds _ its ha rv
   exact⟨_,Reads.tuple ho hc hd hr⟩
 |.dict _,_,_,h,_=>by cases h
theorem Dp.readsAll(I:Inv X pins σ H s):∀(ds:List PyData) (vs:List V) (us:List Value),DpAll X.K H vs ds->Vals vs us->∃as,ReadsAll s.heap us ds as
 |[],_,_,h,r=>by
  cases h
  cases r
  exact⟨_,ReadsAll.nil⟩
 |d::ds,_,_,h,r=>by
  cases h with
  |cons h1 h2=>
   cases r with
   |cons r1 r2=>
    obtain⟨as,q1⟩:=Dp.reads I d _ _ h1 r1
    obtain⟨bs,q2⟩:=Dp.readsAll I ds _ _ h2 r2
    exact⟨_,ReadsAll.cons q1 q2⟩
end
end
section
variable {X:Cx}
def rEqD(K:PySem.W.Frag):R2:=fun x y H Q=>∃d e,Dp K H x d/\Dp K H y e/\SeqAt.shaped d=true/\SeqAt.shaped e=true/\Q (.bl (PyData.eqv d e)) H
theorem sE(hu:X.A.units+64<cLine):OpR X (compareOp .Eq) (rEqD X.K):=by
 intro pins s σ H x y v u Q I rx ry h
 obtain⟨d,e,hd,he,sd,se,q⟩:=h
 obtain⟨as,r1⟩:=Dp.reads I d x v hd rx
 obtain⟨bs,r2⟩:=Dp.reads I e y u he ry
 exact SeqAt.compareEq_shaped r1 r2 sd se hu ⟨.bl _,H,I,rfl,q⟩
end
end L2
namespace L2
open PySem PySem.Spec PyProof.Rows
abbrev CellAt(h:Heap)(c:Addr)(v:Option Value):Prop:=h.IsCell c v
def relS(scope sc:Scope):Scope:=
 {scope with names:=scope.names.map fun (n,k)=>if (k==.free && sc.kind==.function && sc.names.lookup n==some .cell) then (n,.cell) else (n,k)}
def bo(cells:List (Str × Addr)):List (Str × NameKind)->List (Str × Addr)->List (Str × Addr)
 |[],acc=>acc
 |(n,k)::r,acc=>if k==.free then bo cells r ((n,(cells.lookup n).getD 0)::acc) else bo cells r acc
theorem fU(env:Env)(f:Str × NameKind->List (Str × Addr)->Sem (ForInStep (List (Str × Addr))))
  (hf:∀n k c,f (n,k) c=if k==.free then (do let a <-cellOf env n;pure (.yield ((n,a)::c))) else pure (.yield c)):
  ∀(names:List (Str × NameKind)) (acc:List (Str × Addr)),(∀y∈names,y.2=.free->∃c,env.cells.lookup y.1=some c)->forIn names acc f=pure (bo env.cells names acc)
 |[],acc,_=>by rw [List.forIn_nil];rfl
 |(n,k)::r,acc,h=>by
  rw [List.forIn_cons,hf]
  have ih:=fun acc=>fU env f hf r acc fun y hy=>h y (List.mem_cons_of_mem _ hy)
  unfold bo
  by_cases hk:(k==NameKind.free)=true
  ·rw [if_pos hk,if_pos hk]
   obtain⟨c,hc⟩:=h (n,k) List.mem_cons_self (by simpa using hk)
   have e:cellOf env n=pure c:=by unfold cellOf;rw [hc]
   rw [e]
   have e2:(env.cells.lookup n).getD 0=c:=by rw [hc];rfl
   rw [e2]
   exact ih _
  ·rw [if_neg hk,if_neg hk]
   exact ih _
theorem ng{scope:Scope}{env:Env}(h:∀y∈scope.names,y.2=.free->∃c,env.cells.lookup y.1=some c):closureFor scope env=pure (bo env.cells scope.names []):=by
 simp only [closureFor]
 rw [fU env _ (fun n k c=>rfl) scope.names [] h]
 rfl
theorem mem_lookup{α:Type}:∀{l:List (Str × α)} {n:Str} {c:α},(n,c)∈l->∃c',l.lookup n=some c'
 |(k,v)::r,n,c,h=>by
  rw [List.lookup_cons]
  cases hb:n==k with
  |true=>exact⟨_,rfl⟩
  |false=>
   rcases List.mem_cons.mp h with e |h
   ·cases e;simp at hb
   ·exact mem_lookup h
theorem cZ{cells:List (Str × Addr)}:∀{names:List (Str × NameKind)} {acc:List (Str × Addr)} {n:Str} {c:Addr},(n,c)∈bo cells names acc->(n,c)∈acc\/((n,.free)∈names/\c=(cells.lookup n).getD 0)
 |[],_,_,_,h=>.inl h
 |(m,k)::r,acc,n,c,h=>by
  unfold bo at h
  split at h
  ·rename_i hk
   have hk:k=.free:=by simpa using hk
   rcases cZ h with h |⟨h1,h2⟩
   ·rcases List.mem_cons.mp h with e |h
    ·cases e;exact .inr ⟨hk ▸ List.mem_cons_self,rfl⟩
    ·exact .inl h
   ·exact .inr ⟨List.mem_cons_of_mem _ h1,h2⟩
  ·rcases cZ h with h |⟨h1,h2⟩
   ·exact .inl h
   ·exact .inr ⟨List.mem_cons_of_mem _ h1,h2⟩
theorem dZ{cells:List (Str × Addr)}:∀{names:List (Str × NameKind)} {acc:List (Str × Addr)} {p:Str × Addr},p∈acc->p∈bo cells names acc
 |[],_,_,h=>h
 |(m,k)::r,acc,p,h=>by
  unfold bo
  split
  ·exact dZ (List.mem_cons_of_mem _ h)
  ·exact dZ h
theorem eK{cells:List (Str × Addr)}:∀{names:List (Str × NameKind)} {acc:List (Str × Addr)} {n:Str},(n,.free)∈names->(n,(cells.lookup n).getD 0)∈bo cells names acc
 |(m,k)::r,acc,n,h=>by
  unfold bo
  rcases List.mem_cons.mp h with e |h
  ·cases e
   exact dZ List.mem_cons_self
  ·split
   ·exact eK h
   ·exact eK h
theorem df:∀{names:List (Str × NameKind)} {h:Heap} {acc:List (Str × Addr)} {x:Str} {c:Addr},(x,c)∈cellsFrom h.objs.size names acc->
  (x,c)∈acc\/((x,.cell)∈names/\h.objs.size<=c/\CellAt (pushCells h names) c none)
 |[],_,_,_,_,h=>.inl h
 |(n,k)::r,h,acc,x,c,hm=>by
  unfold cellsFrom at hm
  unfold pushCells
  split at hm
  ·rename_i hk
   rw [if_pos hk]
   have hk:k=.cell:=by simpa using hk
   rw [<-Heap.size_push h {cls:=.type "cell",data:=.cell none}] at hm
   rcases df hm with hm |⟨h1,h2,h3⟩
   ·rcases List.mem_cons.mp hm with e |hm
    ·cases e
     exact .inr ⟨hk ▸ List.mem_cons_self,Nat.le_refl _,_,pushCells_keeps r _ _ _ (Heap.get?_push_size _ rfl),rfl⟩
    ·exact .inl hm
   ·rw [Heap.size_push] at h2
    exact .inr ⟨List.mem_cons_of_mem _ h1,Nat.le_of_succ_le h2,h3⟩
  ·rename_i hk
   rw [if_neg hk]
   rcases df hm with hm |⟨h1,h2,h3⟩
   ·exact .inl hm
   ·exact .inr ⟨List.mem_cons_of_mem _ h1,h2,h3⟩
theorem eX:∀{names:List (Str × NameKind)} {n:Nat} {acc:List (Str × Addr)} {p:Str × Addr},p∈acc->p∈cellsFrom n names acc
 |[],_,_,_,h=>h
 |(m,k)::r,n,acc,p,h=>by
  unfold cellsFrom
  split
  ·exact eX (List.mem_cons_of_mem _ h)
  ·exact eX h
theorem gk:∀{names:List (Str × NameKind)} {n:Nat} {acc:List (Str × Addr)} {x:Str},(x,.cell)∈names->∃c,(x,c)∈cellsFrom n names acc
 |(m,k)::r,n,acc,x,h=>by
  unfold cellsFrom
  rcases List.mem_cons.mp h with e |h
  ·cases e
   exact⟨n,eX List.mem_cons_self⟩
  ·split
   ·exact gk h
   ·exact gk h
theorem gJ:∀{names:List (Str × NameKind)} {h:Heap} {acc:List (Str × Addr)} {x y:Str} {c:Addr},(∀p∈acc,p.2<h.objs.size)->(∀x y c,(x,c)∈acc->(y,c)∈acc->x=y)->
  (x,c)∈cellsFrom h.objs.size names acc->(y,c)∈cellsFrom h.objs.size names acc->x=y
 |[],_,_,_,_,_,_,hi,h1,h2=>hi _ _ _ h1 h2
 |(n,k)::r,h,acc,x,y,c,hl,hi,h1,h2=>by
  unfold cellsFrom at h1 h2
  split at h1
  ·rename_i hk
   rw [if_pos hk] at h2
   rw [<-Heap.size_push h {cls:=.type "cell",data:=.cell none}] at h1 h2
   refine gJ (h:=h.push _) (fun p hp=>?_) (fun x y c a b=>?_) h1 h2
   ·rw [Heap.size_push]
    rcases List.mem_cons.mp hp with rfl |hp
    ·exact Nat.lt_succ_self _
    ·exact Nat.lt_succ_of_lt (hl p hp)
   ·rcases List.mem_cons.mp a with e |a <;> rcases List.mem_cons.mp b with e' |b
    ·cases e;cases e';rfl
    ·cases e;exact absurd (hl _ b) (Nat.lt_irrefl _)
    ·cases e';exact absurd (hl _ a) (Nat.lt_irrefl _)
    ·exact hi _ _ _ a b
  ·rename_i hk
   rw [if_neg hk] at h2
   exact gJ hl hi h1 h2
theorem lM{M:Model}{A:Around}{E:Value->Shared->Prop}{s:Shared}{scope:Scope}{globals:Addr}{closure:List (Str × Addr)}{qual:Str}{func:Option Addr}{code:Value}{around:Env}{builtins:Addr}{Q:Env->Shared->Prop}
  (h:Q (newEnv scope s.heap.objs.size globals (cellsFrom (s.heap.objs.size+1) scope.names closure) qual func code (some around) builtins)
   {s with heap:=pushCells (s.heap.push {cls:=.type "dict",data:=.dict #[]}) scope.names}):
  wpAny M A (newFunctionEnv scope globals closure [] qual func code (some around) builtins) Q E s:=by
 simp only [newFunctionEnv,Option.isSome_some,if_true]
 refine wpAny_bind (wpAny_alloc ?_)
 refine wpAny_bind (wpAny_layCells _ (fun n k c=>rfl) scope.names closure _ _ ?_)
 rw [show ({s with heap:=s.heap.push {cls:=.type "dict",data:=.dict #[]}}:Shared).heap.objs.size=s.heap.objs.size+1 from Heap.size_push ..]
 rw [List.forIn_nil]
 exact wpAny_bind (wpAny_pure (wpAny_pure h))
theorem dU{sc:Scope}:∀{names:List (Str × NameKind)} {x:Str} {k:NameKind},
  (names.map fun (n,k)=>if (k==NameKind.free && sc.kind==.function && sc.names.lookup n==some .cell) then (n,NameKind.cell) else (n,k)).lookup x=some k->
  ∃k',names.lookup x=some k'/\(k=k'\/(k'=.free/\k=.cell))
 |[],_,_,h=>by simp at h
 |(n,k₀)::r,x,k,h=>by
  have ih:=@dU sc r x k
  have h':List.lookup x ((if (k₀==NameKind.free && sc.kind==.function && sc.names.lookup n==some .cell)=true then (n,NameKind.cell) else (n,k₀))::(r.map _))=some k:=h
  cases hx:x==n with
  |true=>
   simp only [List.lookup_cons,hx]
   by_cases hc:(k₀==NameKind.free && sc.kind==.function && sc.names.lookup n==some .cell)=true
   ·rw [if_pos hc] at h'
    simp only [List.lookup_cons,hx] at h'
    cases h'
    simp only [Bool.and_eq_true,beq_iff_eq] at hc
    exact⟨k₀,rfl,.inr ⟨hc.1.1,rfl⟩⟩
   ·rw [if_neg hc] at h'
    simp only [List.lookup_cons,hx] at h'
    cases h'
    exact⟨_,rfl,.inl rfl⟩
  |false=>
   simp only [List.lookup_cons,hx]
   by_cases hc:(k₀==NameKind.free && sc.kind==.function && sc.names.lookup n==some .cell)=true
   ·rw [if_pos hc] at h'
    simp only [List.lookup_cons,hx] at h'
    exact ih h'
   ·rw [if_neg hc] at h'
    simp only [List.lookup_cons,hx] at h'
    exact ih h'
structure BlkOk(N:List Str)(sc scope:Scope)(own:List (Str × Nat)):Prop where
 kind:scope.kind=.function
 uniq:∀y∈scope.names,scope.names.lookup y.1=some y.2
 ix:∀p∈own,N[p.2]?=some p.1
 free:∀y∈scope.names,y.2=.free->sc.names.lookup y.1=some .cell\/sc.names.lookup y.1=some .free
 own:∀y∈scope.names,y.2=.local\/y.2=.cell->y.1∈own.map (·.1)\/y.1∉N
def wipe(σ:St):List Nat->St
 |[]=>σ
 |v::vs=>(wipe σ vs).set v none
theorem eI(σ:St):∀vs:List Nat,(wipe σ vs).length=σ.length
 |[]=>rfl
 |v::vs=>by unfold wipe;rw [List.length_set,eI σ vs]
theorem gq{σ:St}{i:Nat}{x:V}:∀{vs:List Nat},(wipe σ vs)[i]?=some (some x)->σ[i]?=some (some x)/\i∉vs
 |[],h=>⟨h,by simp⟩
 |v::vs,h=>by
  unfold wipe at h
  by_cases hi:v=i
  ·subst hi
   by_cases hv:v<(wipe σ vs).length
   ·rw [List.getElem?_set_self hv] at h;cases h
   ·rw [List.getElem?_eq_none (by simpa using hv)] at h;cases h
  ·rw [List.getElem?_set_ne hi] at h
   obtain⟨h1,h2⟩:=gq h
   exact⟨h1,by simp only [List.mem_cons,not_or];exact⟨fun e=>hi e.symm,h2⟩⟩
abbrev Cx.blk(X:Cx)(s:Shared)(H:Hp)(scope:Scope)(cenv:Env)(fp:List Addr):Cx:={X with s_0:=s,H_0:=H,env:=cenv,outer:=X.stack,ex:=fp,fn:=fun x=>scope.names.lookup x==some .cell,pn:=[],xe:=fun _ _=>False}
section
variable {X:Cx}{pins:List (Addr × Obj)}{σ:St}{H:Hp}{s:Shared}
theorem lE{scope:Scope}{own:List (Str × Nat)}{fp:List Addr}(I:Inv X pins σ H s)(ok:BlkOk X.N X.env.scope scope own)(hN:X.N.Nodup)(hfp:∀b∈fp,FpOk X pins H b/\b<s.heap.objs.size):
  Inv (X.blk s H scope (compEnvC scope (cellsFrom (s.heap.objs.size+1) scope.names (bo X.env.cells scope.names [])) s.heap.objs.size X.env) fp) [] (wipe σ (own.map (·.2))) H {s with heap:=pushCells (s.heap.push {cls:=.type "dict",data:=.dict #[]}) scope.names}:=by
 have hfree:∀y∈scope.names,y.2=.free->∃c,X.env.cells.lookup y.1=some c:=fun y hy e=>by
  rcases ok.free y hy e with k |k
  ·exact I.ok.has _ (.inl k)
  ·exact I.ok.has _ (.inr k)
 generalize hcenv:compEnvC scope (cellsFrom (s.heap.objs.size+1) scope.names (bo X.env.cells scope.names [])) s.heap.objs.size X.env=cenv
 have kp:∀b o,s.heap.get? b=some o->(pushCells (s.heap.push {cls:=.type "dict",data:=.dict #[]}) scope.names).get? b=some o:=fun b o e=>pushCells_keeps _ _ _ _ (Heap.get?_push_of_some _ e)
 have hL:cenv.locals=s.heap.objs.size:=by rw [<-hcenv];rfl
 have hcl:cenv.cells=cellsFrom (s.heap.objs.size+1) scope.names (bo X.env.cells scope.names []):=by rw [<-hcenv];rfl
 have hsc:cenv.scope=relS scope X.env.scope:=by rw [<-hcenv];rfl
 rw [<-Heap.size_push s.heap {cls:=.type "dict",data:=.dict #[]}] at hcl
 have cm:∀{y c},(y,c)∈bo X.env.cells scope.names []->X.env.cells.lookup y=some c/\c<s.heap.objs.size:=fun {y c} hm=>by
  rcases cZ hm with hm |⟨h1,rfl⟩
  ·cases hm
  ·obtain⟨c,hc⟩:=hfree _ h1 rfl
   rw [hc]
   obtain⟨w,z⟩:=I.cell _ _ hc
   exact⟨rfl,z.lt⟩
 have mem:∀{y c},cenv.cells.lookup y=some c->(X.env.cells.lookup y=some c/\c<s.heap.objs.size)\/(s.heap.objs.size+1<=c/\CellAt (pushCells (s.heap.push {cls:=.type "dict",data:=.dict #[]}) scope.names) c none):=fun {y c} e=>by
  rw [hcl] at e
  rcases df (PySem.mem_of_lookup e) with hm |⟨_,h2,h3⟩
  ·exact .inl (cm hm)
  ·rw [Heap.size_push] at h2;exact .inr ⟨h2,h3⟩
 have look:∀{y},scope.names.lookup y=some .free->∃c,cenv.cells.lookup y=some c/\X.env.cells.lookup y=some c:=fun {y} hl=>by
  have hy:(y,NameKind.free)∈scope.names:=PySem.mem_of_lookup hl
  obtain⟨c',e'⟩:=mem_lookup (eX (names:=scope.names) (n:=(s.heap.push {cls:=.type "dict",data:=.dict #[]}).objs.size) (eK (cells:=X.env.cells) (acc:=[]) hy))
  rw [<-hcl] at e'
  refine⟨c',e',?_⟩
  rw [hcl] at e'
  rcases df (PySem.mem_of_lookup e') with hm |⟨h1,_,_⟩
  ·exact (cm hm).1
  ·have:=ok.uniq _ h1
   rw [hl] at this;cases this
 have okB:(X.blk s H scope cenv fp).Ok:=by
  refine⟨I.ok.mod,by show cenv.scope.kind=_;rw [hsc];exact ok.kind,by show cenv.globals=_;rw [<-hcenv];exact I.ok.glob,by show cenv.builtins=_;rw [<-hcenv];exact I.ok.blt,by show s.heap.objs.size<=cenv.locals;rw [hL];exact Nat.le_refl _,
   fun y z c e1 e2=>?_,fun y hy=>?_,fun y c z e=>?_,I.ok.hd,I.ok.frames,.inl rfl,fun b hb=>⟨?_,fun y c e z=>?_⟩,I.bs,Nat.le_trans I.ok.bsz I.sz,fun b o e hb=>?_,fun b hb z=>?_,I.stack,I.stkFree⟩
  ·have e1:cenv.cells.lookup y=some c:=e1
   have e2:cenv.cells.lookup z=some c:=e2
   rw [hcl] at e1 e2
   refine gJ (fun p hp=>?_) (fun y z c a b=>I.ok.inj y z c (cm a).1 (cm b).1) (PySem.mem_of_lookup e1) (PySem.mem_of_lookup e2)
   rw [Heap.size_push]
   exact Nat.lt_succ_of_lt (cm (y:=p.1) (c:=p.2) hp).2
  ·show ∃c,cenv.cells.lookup y=some c
   have key:∀k,cenv.kindOf y=some k->(k=.cell\/k=.free)->∃c,cenv.cells.lookup y=some c:=fun k hk hk'=>by
    unfold Env.kindOf at hk
    rw [hsc] at hk
    obtain⟨k',e,r⟩:=dU hk
    have:k'=.cell\/k'=.free:=by
     rcases r with rfl |⟨rfl,_⟩
     ·exact hk'
     ·exact .inr rfl
    rcases this with rfl |rfl
    ·obtain⟨c,hm⟩:=gk (n:=(s.heap.push {cls:=.type "dict",data:=.dict #[]}).objs.size) (acc:=bo X.env.cells scope.names []) (PySem.mem_of_lookup e)
     obtain⟨c',e'⟩:=mem_lookup hm
     exact⟨c',by rw [hcl];exact e'⟩
    ·obtain⟨c,h1,_⟩:=look e
     exact⟨c,h1⟩
   rcases hy with hy |hy
   ·exact key _ hy (.inl rfl)
   ·exact key _ hy (.inr rfl)
  ·have z:(scope.names.lookup y==some NameKind.cell)=true:=z
   have z:scope.names.lookup y=some .cell:=by simpa using z
   have e:cenv.cells.lookup y=some c:=e
   rw [hcl] at e
   rcases df (PySem.mem_of_lookup e) with hm |⟨_,h2,_⟩
   ·rcases cZ hm with hm |⟨h1,_⟩
    ·cases hm
    ·have q:=ok.uniq _ h1
     rw [z] at q;cases q
   ·rw [Heap.size_push] at h2
    exact Nat.le_of_succ_le h2
  ·show b≠cenv.locals
   rw [hL];exact Nat.ne_of_lt (hfp b hb).2
  ·have e:cenv.cells.lookup y=some c:=e
   rcases mem e with⟨h1,_⟩|⟨h1,_⟩
   ·exact (hfp b hb).1.2.2.2.2.1 y c h1 z
   ·have h2:s.heap.objs.size+1<=b:=by rw [<-z];exact h1
    exact absurd (Nat.lt_of_lt_of_le (hfp b hb).2 (Nat.le_of_succ_le h2)) (Nat.lt_irrefl _)
  ·rcases (hfp b hb).1.2.2.2.1 with z |z
   ·exact I.ok.noex b o e z
   ·exact absurd (Nat.lt_of_lt_of_le (Heap.lt_size e) (Nat.le_trans I.ok.bsz z)) (Nat.lt_irrefl _)
  ·rcases List.mem_cons.mp (I.stkSub b z) with z |z
   ·exact (hfp b hb).1.2.1 z
   ·exact (hfp b hb).1.2.2.1 z
 refine⟨okB,rfl,I.bare,Un.kept kp,⟨fun _=>none,?_,fun i y av e1 e2 e3=>?_⟩,fun y c e=>?_,?_,fun y c e=>?_,fun p hp=>?_,I.hok.kept kp,by rw [eI];exact I.len⟩
 ·show Heap.Ns _ cenv.locals _
  rw [hL]
  exact Heap.Ns.keeps (Heap.Ns.new ..) fun b o e=>pushCells_keeps _ _ _ _ e
 ·obtain⟨e2,hne⟩:=gq e2
  have hfr:scope.names.lookup y=some .free/\(cenv.kindOf y=some .cell\/cenv.kindOf y=some .free):=by
   have key:∀k,cenv.scope.names.lookup y=some k->k=.local\/k=.cell\/k=.free->scope.names.lookup y=some .free/\(cenv.kindOf y=some .cell\/cenv.kindOf y=some .free):=fun k hk hk'=>by
    have hk0:=hk
    rw [hsc] at hk
    obtain⟨k',e,r⟩:=dU hk
    have no:¬(k'=.local\/k'=.cell):=fun hh=>by
     rcases ok.own _ (PySem.mem_of_lookup e) hh with e' |e'
     ·obtain⟨p,hp,hpy⟩:=List.mem_map.mp e'
      have e3:=ok.ix p hp
      have:p.1=y:=hpy
      rw [this] at e3
      exact hne (List.mem_map.mpr ⟨p,hp,jk hN e3 e1⟩)
     ·exact e' (List.mem_of_getElem? e1)
    rcases r with rfl |⟨rfl,rfl⟩
    ·rcases hk' with rfl |rfl |rfl
     ·exact absurd (.inl rfl) no
     ·exact absurd (.inr rfl) no
     ·exact⟨e,.inr hk0⟩
    ·exact⟨e,.inl hk0⟩
   have e3:Vis cenv.scope y:=e3
   rcases e3 with e3 |e3 |e3
   ·exact key _ e3 (.inl rfl)
   ·exact key _ e3 (.inr (.inl rfl))
   ·exact key _ e3 (.inr (.inr rfl))
  obtain⟨m,hn,hl⟩:=I.loc
  have hvis:Vis X.env.scope y:=(ok.free _ (PySem.mem_of_lookup hfr.1) rfl).elim (fun k=>.inr (.inl k)) (fun k=>.inr (.inr k))
  obtain⟨w,r,q⟩:=hl i y av e1 e2 hvis
  refine⟨w,r,.inr ⟨hfr.2,?_⟩⟩
  obtain⟨c,h1,h2⟩:=look hfr.1
  rcases q with⟨k,_⟩|⟨_,c',e',z⟩
  ·have k:X.env.scope.names.lookup y=some .local:=k
   rcases ok.free _ (PySem.mem_of_lookup hfr.1) rfl with k' |k' <;> rw [show X.env.scope.names.lookup y=_ from k'] at k <;> cases k
  ·rw [h2] at e';cases e'
   exact⟨c,h1,z.keeps kp⟩
 ·have e:cenv.cells.lookup y=some c:=e
  rcases mem e with⟨h1,_⟩|⟨_,z⟩
  ·obtain⟨w,z⟩:=I.cell y c h1
   exact⟨w,z.keeps kp⟩
  ·exact⟨_,z⟩
 ·show H cenv.locals=none
  rw [hL];exact I.hok.fresh (Nat.le_refl _)
 ·have e:cenv.cells.lookup y=some c:=e
  rcases mem e with⟨h1,_⟩|⟨h1,_⟩
  ·exact I.freeC y c h1
  ·exact I.hok.fresh (Nat.le_of_succ_le h1)
 ·exact absurd (show p∈([]:List (Addr × Obj))++[] from hp) (by simp)
theorem uU{E:Value->Shared->Prop}{D:Addr}{xs:List V}{y:V}{v:Value}{Q:Value->Shared->Prop}(I:Inv X pins σ H s)(hD:H D=some (.lst xs))(hz:xs.length<sizeLine)(r:RelV y v)
  (h:∀s',Inv X pins σ (upd H D (.lst (xs++[y]))) s'->Q .none s'):wpAny (model X.prog X.w) X.A (call (.builtin "list.append") [.ref D,v]) Q E s:=by
 obtain⟨hz',its,n,ri,e⟩:=I.hok D _ hD
 have hl:=ri.length
 refine append_at (hsz:=by rw [List.size_toArray];omega) e fun h' sb ho'=>?_
 refine h {s with heap:=h'} (I.write (t':=s.toks) (by rw [hD];trivial) (.inl rfl) (fun b u hb q=>(sb.2 b hb).trans q) ⟨_,ho'⟩ ⟨by rw [List.length_append];exact hz,its++[v],n+1,ri.append (.cons r .nil),?_⟩)
 rw [ho']
 simp
def PTs(X:Cx)(ifs:List Expr)(t:TT):Prop:=
 ∀(pins:List (Addr × Obj)) (s:Shared) (σ:St) (H:Hp) (Q:Bool->Hp->Prop),Inv X pins σ H s->t σ H Q->
  wpAny (model X.prog X.w) X.A (forIn ifs true fun c r=>if r=true then do let ok <-isTrue c X.env (eval c X.env);pure (ForInStep.yield ok) else pure (ForInStep.yield r)) (TP X pins σ Q) X.xe s
def tYes:TT:=fun _ H Q=>Q true H
theorem bG:PTs X [] tYes:=fun _ _ _ H _ I h=>wpAny_tests_nil ⟨H,I,h⟩
theorem oP{c:Expr}{t:TT}(h:PT X c t):PTs X [c] t:=fun pins s σ H Q I hw=>wpAny_tests_one (h pins s σ H Q I hw)
end
theorem thnF{α:Type}{t:Sem α}{Q Q':α->Shared->Prop}{M:Model}{A:Around}{E:Value->Shared->Prop}{s:Shared}(h:wpAny M A t Q (fun _ _=>False) s)(hQ:∀a s,Q a s->Q' a s):wpAny M A t Q' E s:=wpAny_mono h hQ fun _ _ z=>False.elim z
theorem kL{prog:Program}{w:World}{A:Around}{R:Result->Shared->Prop}{s:Shared}{elt target iter:Expr}{ifs:List Expr}{scope:Scope}{pos:Pos}{it acc:Value}{env:Env}(I:Nat->Shared->Prop)
  (turn:∀n s,I n s->wpAny (model prog w) A (pyNext it) (fun r s₁=>match r with
   |none=>R (.ok .next) s₁
   |some v=>wpAny (model prog w) A (letOwnedTupleGo target it v) (fun _ s₁'=>wpAny (model prog w) A (assign target env v) (fun _ s₂=>
     wpAny (model prog w) A (forIn ifs true fun c r=>if r=true then do let ok <-isTrue c env (eval c env);pure (ForInStep.yield ok) else pure (ForInStep.yield r)) (fun ok s₃=>
      if ok=true then wpAny (model prog w) A (eval elt env) (fun x s₄=>
       wpAny (model prog w) A (call (.builtin "list.append") [acc,x]) (fun _ s₅=>∃m,m<n/\I m s₅) (notedBy (model prog w) A env fun e s'=>R (.error e) s') s₄) (notedBy (model prog w) A env fun e s'=>R (.error e) s') s₃
      else ∃m,m<n/\I m s₃) (notedBy (model prog w) A env fun e s'=>R (.error e) s') s₂) (notedBy (model prog w) A env fun e s'=>R (.error e) s') s₁') (notedBy (model prog w) A env fun e s'=>R (.error e) s') s₁) (notedBy (model prog w) A env fun e s'=>R (.error e) s') s)
  (n:Nat) (h:I n s):
  codeAny (model prog w) A (.compLoop (.ListComp elt [⟨target,iter,ifs,0⟩] scope pos) 0 it acc env) R s:=by
 refine codeAny_loop rfl I (fun n s hI=>?_) n h
 show wpAny _ A ((compTurn (.ListComp elt [⟨target,iter,ifs,0⟩] scope pos) 0 it acc env).onRaise (fun x=>do noteFrame x env;theTreesLotGoes x)) _ _ s
 refine wpAny_noted ?_
 rw [compTurn_list]
 refine wpAny_bind (wpAny_standAt (wpAny_bind (wpAny_mono (turn n s hI) (fun r s₁ h₁=>?_) fun _ _ h'=>h')))
 cases r with
 |none=>exact wpAny_pure h₁
 |some v=>
  refine wpAny_bind (wpAny_mono h₁ (fun _ s₁' h₁'=>?_) fun _ _ h'=>h')
  refine wpAny_bind (wpAny_mono h₁' (fun _ s₂ h₂=>wpAny_bind (wpAny_mono h₂ (fun ok s₃ h₃=>?_) fun _ _ h'=>h')) fun _ _ h'=>h')
  cases ok with
  |false=>exact wpAny_pure ⟨rfl,h₃⟩
  |true=>
   exact wpAny_bind (wpAny_bind (wpAny_mono h₃ (fun x s₄ h₄=>wpAny_bind (wpAny_mono h₄ (fun _ s₅ h₅=>wpAny_pure (wpAny_pure ⟨rfl,h₅⟩)) fun _ _ h'=>h')) fun _ _ h'=>h'))
section
variable {X:Cx}
def tLc(wi:TI)(g:TG)(tt:TT)(te:TE)(vs:List Nat):TE:=fun σ H Q=>wi σ H fun J H1=>∀D,H1 D=none->∃W:Nat->Nat->Hp->Prop,(∃m,W 0 m (upd H1 D (.lst [])))/\∀i m H,W i m H->
 (J.stop i H/\Q (.ref D) H)\/(J.go i H/\∃Nx:Hp->Prop,(∀H',Nx H'->∃m',m'<m/\W (i+1) m' H')/\∀x H',J.yld i H x H'->g x (wipe σ vs) H' fun σ2 H2=>wipe σ2 vs=wipe σ vs/\tt σ2 H2 fun b H3=>
  if b=true then te σ2 H3 fun y H4=>∃acc,H4 D=some (.lst acc)/\acc.length<sizeLine/\Nx (upd H4 D (.lst (acc++[y]))) else Nx H3)
theorem nN{pins:List (Addr × Obj)}{s:Shared}{σ:St}{H:Hp}{Q:VK}{elt tg iter:Expr}{ifs:List Expr}{scope:Scope}{own:List (Str × Nat)}{pos pos':Pos}{wi:TI}{g:TG}{tt:TT}{te:TE}{use:Option (Value->Sem Unit)}{Qf:Value->Shared->Prop}
  (hc:X.calm=true) (hN:X.N.Nodup) (I:Inv X pins σ H s) (hi:PI X tg iter wi) (ok:BlkOk X.N X.env.scope scope own)
  (hg:∀(s:Shared) (H:Hp) (C:Addr) (cl:List (Str × Addr)) (fp:List Addr),PG (X.blk s H scope (compEnvC scope cl C X.env) fp) tg g) (ht:∀(s:Shared) (H:Hp) (C:Addr) (cl:List (Str × Addr)) (fp:List Addr),PTs (X.blk s H scope (compEnvC scope cl C X.env) fp) ifs tt)
  (he:∀(s:Shared) (H:Hp) (C:Addr) (cl:List (Str × Addr)) (fp:List Addr),PE (X.blk s H scope (compEnvC scope cl C X.env) fp) elt te) (hs:∀x,foldedSetIterable iter X.env x=pure x)
  (h:tLc wi g tt te (own.map (·.2)) σ H Q)
  (hRR:∀D C s' m H',Inv X pins σ H' s'->Q (.ref D) H'->s'.heap.Ns C m->FpOk X pins H' C->compPost (model X.prog X.w) X.A X.xe use Qf (.ref D) C (.ok .next) s'):
  wpAny (model X.prog X.w) X.A (comprehension (.ListComp elt [⟨tg,iter,ifs,0⟩] scope pos) scope X.env pos' (newList []) false (eval iter X.env) use) Qf X.xe s:=by
 have hfree:∀y∈scope.names,y.2=.free->∃c,X.env.cells.lookup y.1=some c:=fun y hy e=>by
  rcases ok.free y hy e with k |k
  ·exact I.ok.has _ (.inl k)
  ·exact I.ok.has _ (.inr k)
 refine wpAny_comprehension_free (use:=use) rfl hs (ng hfree) ok.kind (fun y hy e=>by rw [ok.uniq y hy,e])
  (thn (hi pins s σ H _ I h) fun xv s1 hx=>thn hx fun itv s2 h2=>?_)
 obtain⟨it,fp,tn,J,H2,e,I2,T,st2,f2,q⟩:=h2
 subst e
 refine wpAny_newObj_type (lM ?_) (by show 0<=sizeLine;decide)
 generalize hD:s2.heap.objs.size=D
 have hDn:H2 D=none:=I2.hok.fresh (Nat.le_of_eq hD)
 obtain⟨W,⟨m0,w0⟩,turn⟩:=q D hDn
 generalize hs3:({s2 with heap:=s2.heap.push {cls:=.type "list",data:=.seq ([]:List Value).toArray}}:Shared)=s3
 have I3:Inv X pins σ (upd H2 D (.lst [])) s3:=by
  rw [<-hs3]
  refine I2.laid (t':=s2.toks) (fun b o e=>Heap.get?_push_of_some _ e) (Nat.le_of_eq hD) ⟨Nat.zero_le _,[],0,.nil,?_⟩
  rw [<-hD]
  exact Heap.get?_push_size _ rfl
 have h3:s3.heap=s2.heap.push {cls:=.type "list",data:=.seq ([]:List Value).toArray}:=by rw [<-hs3]
 have sz:∀b∈fp,b<s2.heap.objs.size:=fun b hb=>by
  obtain⟨o,e,_⟩:=T.obj _ _ st2 b hb
  exact Heap.lt_size e
 have f3:∀b∈fp,FpOk X pins (upd H2 D (.lst [])) b/\b<s3.heap.objs.size:=fun b hb=>by
  have hlt:=sz b hb
  refine⟨⟨?_,(f2 b hb).2⟩,by rw [h3,Heap.size_push];exact Nat.lt_succ_of_lt hlt⟩
  rw [aM (by rw [<-hD];exact Nat.ne_of_lt hlt)]
  exact (f2 b hb).1
 have st3:tn 0 s3.heap:=T.keep _ _ _ st2 fun b _ o e=>by rw [h3];exact Heap.get?_push_of_some _ e
 have I4:=lE I3 ok hN f3
 have pg:=hg s3 (upd H2 D (.lst [])) s3.heap.objs.size (cellsFrom (s3.heap.objs.size+1) scope.names (bo X.env.cells scope.names [])) fp
 have pt:=ht s3 (upd H2 D (.lst [])) s3.heap.objs.size (cellsFrom (s3.heap.objs.size+1) scope.names (bo X.env.cells scope.names [])) fp
 have pe:=he s3 (upd H2 D (.lst [])) s3.heap.objs.size (cellsFrom (s3.heap.objs.size+1) scope.names (bo X.env.cells scope.names [])) fp
 show codeAny _ _ (.compStart (.ListComp elt [⟨tg,iter,ifs,0⟩] scope pos) 0 (.ref it) (.ref D) (compEnvC scope (cellsFrom (s3.heap.objs.size+1) scope.names (bo X.env.cells scope.names [])) s3.heap.objs.size X.env)) (compPost (model X.prog X.w) X.A X.xe use Qf (.ref D) s3.heap.objs.size) {s3 with heap:=pushCells (s3.heap.push {cls:=.type "dict",data:=.dict #[]}) scope.names}
 have nfp:∀b∈fp,(upd H2 D (.lst [])) b=none:=fun b hb=>(f3 b hb).1.1
 generalize hce:compEnvC scope (cellsFrom (s3.heap.objs.size+1) scope.names (bo X.env.cells scope.names [])) s3.heap.objs.size X.env=ce at I4 pg pt pe ⊢
 have cL:ce.locals=s3.heap.objs.size:=by subst hce;rfl
 generalize hH3:upd H2 D (.lst [])=H3 at I3 I4 pg pt pe w0 nfp f3
 generalize hs4:({s3 with heap:=pushCells (s3.heap.push {cls:=.type "dict",data:=.dict #[]}) scope.names}:Shared)=s4 at I4 ⊢
 have st4:tn 0 s4.heap:=T.keep _ _ _ st3 fun b _ o e=>by rw [<-hs4];exact pushCells_keeps _ _ _ _ (Heap.get?_push_of_some _ e)
 have stat:∀{σ':St} {H':Hp} {s':Shared},Inv (X.blk s3 H3 scope ce fp) [] σ' H' s'->(∀b∈fp,H' b=none)->∀b∈fp,FpOk (X.blk s3 H3 scope ce fp) [] H' b:=fun {σ' H' s'} I' hn b hb=>
  ⟨hn b hb,(I'.ok.exf b hb).1,I'.ok.exfs b hb,.inl hb,fun x c e=>(I'.ok.exf b hb).2 x c e,fun p hp=>absurd (show p∈([]:List (Addr × Obj))++[] from hp) (by simp)⟩
 have loop:codeAny (model X.prog X.w) X.A (.compLoop (.ListComp elt [⟨tg,iter,ifs,0⟩] scope pos) 0 (.ref it) (.ref D) ce) (compPost (model X.prog X.w) X.A X.xe use Qf (.ref D) s3.heap.objs.size) s4:=by
  refine kL (fun n s'=>∃i H',Inv (X.blk s3 H3 scope ce fp) [] (wipe σ (own.map (·.2))) H' s'/\tn i s'.heap/\(∀b∈fp,H' b=none)/\W i n H') ?_ m0 ⟨0,H3,I4,st4,nfp,w0⟩
  rintro n s5 ⟨i,H5,I5,st5,n5,w5⟩
  rcases turn i n H5 w5 with⟨stop,qq⟩|⟨go,Nx,hNx,step⟩
  ·have td:=T.done (X.blk s3 H3 scope ce fp) rfl rfl rfl hc i [] s5 _ H5 (fun _ _=>False) I5 (stat I5 n5) st5 stop
   refine thnF td fun r s6 ⟨hr,I6⟩=>?_
   subst hr
   have I7:Inv X pins σ H5 s6:=I3.call' (ch:=fp) I6.os I6.base I6.hok I6.bare fun b hb=>⟨(f3 b hb).1.2.2.2.1,(f3 b hb).1.2.1,(f3 b hb).1.2.2.2.2.1,(f3 b hb).1.2.2.2.2.2⟩
   have nC:H5 s3.heap.objs.size=none:=by
    have z:H5 ce.locals=none:=I6.free
    rw [cL] at z
    exact z
   obtain⟨m,hn,_⟩:=I6.loc
   have hn:s6.heap.Ns ce.locals m:=hn
   rw [cL] at hn
   exact hRR D s3.heap.objs.size s6 m H5 I7 qq hn (I3.fpOk (Nat.le_refl _) nC)
  ·have ti:=T.item (X.blk s3 H3 scope ce fp) rfl rfl rfl hc i [] s5 _ H5 (fun _ _=>False) I5 (stat I5 n5) st5 go
   refine thnF ti fun r s6 ⟨u,hr,h6⟩=>?_
   subst hr
   refine thnF h6 fun _ s7 ⟨x,H7,I7,r7,y7,st7,n7⟩=>?_
   have I7':=I7.pinned (stat I7 n7) (T.obj _ _ st7)
   refine thnF (pg _ s7 _ H7 x u _ I7' r7 (step x H7 y7)) fun _ s8 ⟨σ8,H8,I8,hw8,q8⟩=>?_
   refine thnF (pt _ s8 σ8 H8 _ I8 q8) fun b s9 ⟨H9,I9,q9⟩=>?_
   have fin:∀{s':Shared} {H':Hp},Inv (X.blk s3 H3 scope ce fp) ([]++pinsAt fp s7.heap) σ8 H' s'->Nx H'->∃m,m<n/\∃i H',Inv (X.blk s3 H3 scope ce fp) [] (wipe σ (own.map (·.2))) H' s'/\tn i s'.heap/\(∀b∈fp,H' b=none)/\W i m H':=fun {s' H'} I' nx=>by
    obtain⟨m',hm,w'⟩:=hNx H' nx
    have pin':∀b∈fp,∀o,s7.heap.get? b=some o->s'.heap.get? b=some o/\H' b=none:=fun b hb o e=>
     let z:=I'.pin (b,o) (List.mem_append_right _ (List.mem_append_right _ (fj hb e)))
     ⟨z.1,z.2.1⟩
    have hl:(wipe σ (own.map (·.2))).length=σ8.length:=by rw [<-hw8,eI]
    refine⟨m',hm,i+1,H',(I'.unpinned (pins:=[])).weak hl (fun j v e=>?_),T.keep _ _ _ st7 fun b hb o e=>(pin' b hb o e).1,fun b hb=>?_,w'⟩
    ·rw [<-hw8] at e
     exact (gq e).1
    ·obtain⟨o,e,_⟩:=T.obj _ _ st7 b hb
     exact (pin' b hb o e).2
   cases b with
   |false=>
    simp only [Bool.false_eq_true,if_false] at q9 ⊢
    exact fin I9 q9
   |true=>
    simp only [if_true] at q9 ⊢
    refine thnF (pe _ s9 σ8 H9 _ I9 q9) fun z s10 ⟨yv,H10,I10,r10,acc,hD10,hz10,nx⟩=>?_
    exact uU (X:=X.blk s3 H3 scope ce fp) I10 hD10 hz10 r10 fun s11 I11=>fin I11 nx
 exact codeAny_compStart_list loop (T.self X.A 0 _ _ _ st4 loop)
theorem gR{elt tg iter:Expr}{ifs:List Expr}{scope:Scope}{own:List (Str × Nat)}{pos:Pos}{wi:TI}{g:TG}{tt:TT}{te:TE}(hc:X.calm=true)(hN:X.N.Nodup)(hi:PI X tg iter wi)(ok:BlkOk X.N X.env.scope scope own)
  (hg:∀(s:Shared) (H:Hp) (C:Addr) (cl:List (Str × Addr)) (fp:List Addr),PG (X.blk s H scope (compEnvC scope cl C X.env) fp) tg g) (ht:∀(s:Shared) (H:Hp) (C:Addr) (cl:List (Str × Addr)) (fp:List Addr),PTs (X.blk s H scope (compEnvC scope cl C X.env) fp) ifs tt)
  (he:∀(s:Shared) (H:Hp) (C:Addr) (cl:List (Str × Addr)) (fp:List Addr),PE (X.blk s H scope (compEnvC scope cl C X.env) fp) elt te) (hs:∀x,foldedSetIterable iter X.env x=pure x:=by intro _;rfl):
  PE X (.ListComp elt [⟨tg,iter,ifs,0⟩] scope pos) (tLc wi g tt te (own.map (·.2))):=by
 intro pins s σ H Q I h
 rw [eval_ListComp]
 refine nN hc hN I hi ok hg ht he hs h fun D C s' m H' I' q hn f=>⟨m,hn,fun h'' sb=>?_⟩
 obtain⟨f0,f1,f2,f3,f4,f5⟩:=f
 exact⟨.ref D,H',I'.turned (t':=s'.toks) (fun b o hb e=>(sb.2 b hb).trans e) f0 f1 f3 f4 f5,rfl,q⟩
theorem bW{i:Nat}{y:Str}{py:Pos}{elt tg iter:Expr}{ifs:List Expr}{scope:Scope}{own:List (Str × Nat)}{pos spos:Pos}{wi:TI}{g:TG}{tt:TT}{te:TE}(hc:X.calm=true)(hN:X.N.Nodup)(hy:X.N[i]?=some y)(hyl:X.env.scope.names.lookup y=some .local)
  (hsw:swapsWith (.ListComp elt [⟨tg,iter,ifs,0⟩] scope pos) (some (.Name y py)) spos.line X.env=pure true) (hi:PI X tg iter wi) (ok:BlkOk X.N X.env.scope scope own)
  (hg:∀(s:Shared) (H:Hp) (C:Addr) (cl:List (Str × Addr)) (fp:List Addr),PG (X.blk s H scope (compEnvC scope cl C X.env) fp) tg g) (ht:∀(s:Shared) (H:Hp) (C:Addr) (cl:List (Str × Addr)) (fp:List Addr),PTs (X.blk s H scope (compEnvC scope cl C X.env) fp) ifs tt)
  (he:∀(s:Shared) (H:Hp) (C:Addr) (cl:List (Str × Addr)) (fp:List Addr),PE (X.blk s H scope (compEnvC scope cl C X.env) fp) elt te) (hs:∀x,foldedSetIterable iter X.env x=pure x:=by intro _;rfl):
  PS X (.Assign [.Name y py] (.ListComp elt [⟨tg,iter,ifs,0⟩] scope pos) spos) (tAsg (tLc wi g tt te (own.map (·.2))) (gName i)):=by
 intro pins s σ H D I h
 rw [exec_Assign_Name_used _ _ _ _ hsw]
 refine wpAny_bind (wpAny_standAt (wpAny_bind ?_))
 show wpAny _ X.A (do let _ <-comprehension (.ListComp elt [⟨tg,iter,ifs,0⟩] scope pos) scope X.env (firstIterPos [⟨tg,iter,ifs,0⟩] pos) (newList []) false (eval iter X.env) (some (assign (.Name y py) X.env))) _ _ s
 have h:tLc wi g tt te (own.map (·.2)) σ H (fun x H1=>gName i x σ H1 D.nx):=h
 refine wpAny_bind (thn (nN (Qf:=fun _ s'=>SP X pins D .next s') hc hN I hi ok hg ht he hs h fun L C s' m H' I' q hn f=>?_) fun _ s' hq=>wpAny_pure (wpAny_pure hq))
 show wpAny _ _ (assign (.Name y py) X.env (.ref L)) _ _ _
 refine wpAny_assign_Name (j4 (v:=V.ref L) I' hN hy (.inl hyl) rfl (fun s2 I2 ⟨a,sb,ha⟩=>?_) (.inr hyl))
 obtain⟨f0,f1,f2,f3,f4,f5⟩:=f
 have haC:C≠a:=by
  rcases ha with z |z
  ·rw [z];exact f1
  ·exact fun e=>f4 y a z e.symm
 refine⟨m,hn.sameBut sb haC,fun h3 sb3=>?_⟩
 exact⟨_,H',I2.turned (t':=s2.toks) (fun b o hb e=>(sb3.2 b hb).trans e) f0 f1 f3 f4 f5,q⟩
theorem cu{elt:Expr}{gs:List Comprehension}{scope:Scope}{pos py:Pos}{y:Str}{l:Nat}{env:Env}(hk:env.scope.kind=.function)(hy:env.scope.names.lookup y=some .local)(hl:(py.line==pos.line)=true)
  (ha:(scope.names.any fun (n,k)=>n==y && (k==.local || k==.cell))=false):swapsWith (.ListComp elt gs scope pos) (some (.Name y py)) l env=pure true:=by
 have ky:env.kindOf y=some .local:=hy
 have hb:env.blockKind=.function:=by unfold Env.blockKind;rw [hk];rfl
 unfold swapsWith
 simp only [hb,ky,ha,Expr.pos,hl]
 rfl
end
theorem fZ{lo:Int}{n:Nat}{g:TG}{tt:TT}{te:TE}{vs:List Nat}{σ:St}{H1:Hp}{D:Addr}{Qd:Hp->Prop}(Pv:Nat->Hp->Prop)(h0:Pv 0 (upd H1 D (.lst [])))
  (hs:∀i H,i<n->Pv i H->g (.int (lo+i)) (wipe σ vs) H fun σ2 H2=>wipe σ2 vs=wipe σ vs/\tt σ2 H2 fun b H3=>
   if b=true then te σ2 H3 fun y H4=>∃acc,H4 D=some (.lst acc)/\acc.length<sizeLine/\Pv (i+1) (upd H4 D (.lst (acc++[y]))) else Pv (i+1) H3) (hd:∀H,Pv n H->Qd H):
  ∃W:Nat->Nat->Hp->Prop,(∃m,W 0 m (upd H1 D (.lst [])))/\∀i m H,W i m H->
   ((Itr lo n).stop i H/\Qd H)\/((Itr lo n).go i H/\∃Nx:Hp->Prop,(∀H',Nx H'->∃m',m'<m/\W (i+1) m' H')/\∀x H',(Itr lo n).yld i H x H'->g x (wipe σ vs) H' fun σ2 H2=>wipe σ2 vs=wipe σ vs/\tt σ2 H2 fun b H3=>
    if b=true then te σ2 H3 fun y H4=>∃acc,H4 D=some (.lst acc)/\acc.length<sizeLine/\Nx (upd H4 D (.lst (acc++[y]))) else Nx H3):=by
 refine⟨fun i m H=>m=n-i/\i<=n/\Pv i H,⟨n,by simp,Nat.zero_le _,h0⟩,?_⟩
 rintro i m H ⟨rfl,hi,p⟩
 by_cases hlt:i<n
 ·refine .inr ⟨hlt,Pv (i+1),fun H' p'=>⟨n-(i+1),by omega,rfl,hlt,p'⟩,fun x H' y=>?_⟩
  obtain⟨e,y⟩:=y
  subst e y
  exact hs i _ hlt p
 ·have e:i=n:=by omega
  subst e
  exact .inl ⟨Nat.le_refl _,hd H p⟩
theorem fY{K:PySem.W.Frag}{a:Addr}{xs:List V}{g:TG}{tt:TT}{te:TE}{vs:List Nat}{σ:St}{H1:Hp}{D:Addr}{Qd:Hp->Prop}(Pv:Nat->Hp->Prop)(h0:Pv 0 (upd H1 D (.lst [])))(hl:∀i H,i<=xs.length->Pv i H->SqL K H a xs)
  (hs:∀i x H,xs[i]?=some x->Pv i H->g x (wipe σ vs) H fun σ2 H2=>wipe σ2 vs=wipe σ vs/\tt σ2 H2 fun b H3=>
   if b=true then te σ2 H3 fun y H4=>∃acc,H4 D=some (.lst acc)/\acc.length<sizeLine/\Pv (i+1) (upd H4 D (.lst (acc++[y]))) else Pv (i+1) H3) (hd:∀H,Pv xs.length H->Qd H):
  ∃W:Nat->Nat->Hp->Prop,(∃m,W 0 m (upd H1 D (.lst [])))/\∀i m H,W i m H->
   ((Itl K a).stop i H/\Qd H)\/((Itl K a).go i H/\∃Nx:Hp->Prop,(∀H',Nx H'->∃m',m'<m/\W (i+1) m' H')/\∀x H',(Itl K a).yld i H x H'->g x (wipe σ vs) H' fun σ2 H2=>wipe σ2 vs=wipe σ vs/\tt σ2 H2 fun b H3=>
    if b=true then te σ2 H3 fun y H4=>∃acc,H4 D=some (.lst acc)/\acc.length<sizeLine/\Nx (upd H4 D (.lst (acc++[y]))) else Nx H3):=by
 refine⟨fun i m H=>m=xs.length-i/\i<=xs.length/\Pv i H,⟨xs.length,by simp,Nat.zero_le _,h0⟩,?_⟩
 rintro i m H ⟨rfl,hi,p⟩
 have q:=hl i H hi p
 by_cases hlt:i<xs.length
 ·refine .inr ⟨⟨xs,xs[i],q,by simp [hlt]⟩,Pv (i+1),fun H' p'=>⟨xs.length-(i+1),by omega,rfl,hlt,p'⟩,fun x H' y=>?_⟩
  obtain⟨e,y⟩:=y
  subst e
  exact hs i x _ (y xs q) p
 ·have e:i=xs.length:=by omega
  subst e
  exact .inl ⟨⟨xs,q,Nat.le_refl _⟩,hd H p⟩
def blkC(N:List Str)(sc scope:Scope)(own:List (Str × Nat)):Bool:=
 (match scope.kind with |.function=>true |_=>false) && (scope.names.all fun y=>decide (scope.names.lookup y.1=some y.2)) && (own.all fun p=>decide (N[p.2]?=some p.1)) &&
  (scope.names.all fun y=>match y.2 with
   |.free=>(match sc.names.lookup y.1 with |some .cell=>true |some .free=>true |_=>false)
   |.local=>decide (y.1∈own.map (·.1)) || decide (y.1∉N)
   |.cell=>decide (y.1∈own.map (·.1)) || decide (y.1∉N)
   |_=>true)
theorem bf{N:List Str}{sc scope:Scope}{own:List (Str × Nat)}(h:blkC N sc scope own=true):BlkOk N sc scope own:=by
 unfold blkC at h
 simp only [Bool.and_eq_true,List.all_eq_true,decide_eq_true_eq] at h
 obtain⟨⟨⟨h1,h2⟩,h3⟩,h4⟩:=h
 refine⟨?_,h2,h3,fun y hy e=>?_,fun y hy e=>?_⟩
 ·split at h1
  ·assumption
  ·cases h1
 ·have q:=h4 y hy
  simp only [e] at q
  split at q <;> first |exact .inl (by assumption)|exact .inr (by assumption)|cases q
 ·have q:=h4 y hy
  rcases e with e |e <;> (simp only [e,Bool.or_eq_true,decide_eq_true_eq] at q;exact q)
end L2
namespace L2
open PySem PySem.Spec PyProof.Rows
section
variable {prog:Program}{w:World}{A:Around}{R:Result->Shared->Prop}{s:Shared}{elt t0 i0 t1 i1:Expr}{ifs0 ifs1:List Expr}{scope:Scope}{pos:Pos}{it acc:Value}{env:Env}
end
section
variable {X:Cx}
end
end L2
namespace L2
open PySem PySem.Spec PyProof.Rows
section
variable {κ:Type}[DecidableEq κ]
def valV(kvs:List (κ × V))(k:κ):Option V:=(kvs.find? fun kv=>decide (kv.1=k)).map (·.2)
theorem lV{p:κ × V}{r:List (κ × V)}{k:κ}(e:p.1=k):valV (p::r) k=some p.2:=by simp [valV,List.find?_cons,e]
theorem lZ{p:κ × V}{r:List (κ × V)}{k:κ}(e:¬p.1=k):valV (p::r) k=valV r k:=by simp [valV,List.find?_cons,e]
theorem RelO.getD{o:Option V}{u:Option Value}{d:V}{d':Value}(r:RelO o u)(rd:RelV d d'):RelV (o.getD d) (u.getD d'):=by
 cases o with
 |none=>cases u with
  |none=>exact rd
  |some _=>exact (show False from r).elim
 |some _=>cases u with
  |none=>exact (show False from r).elim
  |some _=>exact r
end
theorem vG{P:Program}{w:World}{k:Key}{u:Value}(r:RelV (kV k) u):(mixKind P w).is k u=true:=by
 cases k with
 |inl i=>obtain⟨t,e⟩:=(show ∃t,u=Value.int i t from r);subst e;exact eE P w i t
 |inr x=>obtain⟨t,e⟩:=(show ∃t,u=Value.str x t from r);subst e;exact lS P w x t
theorem jV{P:Program}{w:World}:∀{ks:List Key} {us:List Value},Vals (ks.map kV) us->ItemsAre (mixKind P w) ks us
 |[],_,r=>by rw [List.map_nil] at r;cases r;exact .nil
 |k::ks,_,r=>by
  rw [List.map_cons] at r
  cases r with
  |cons h t=>exact .cons (vG h) (jV t)
section
variable {P:Program}{w:World}{H:Hp}{h:Heap}{a:Addr}
theorem uM{ks:List Key}(ok:HOk P w H h)(e:H a=some (.tup (ks.map kV))):(tupleKind (mixKind P w)).is h ks a:=by
 obtain⟨_,its,r,o,h1,h2,n,h3⟩:=(show ObjOk P w H h a (.tup (ks.map kV)) from ok a _ e)
 exact⟨o,its.toArray,n,h1,h2,h3,by simpa using jV r⟩
end
section
variable {X:Cx}{pins:List (Addr × Obj)}{σ:St}{H:Hp}{s:Shared}{a:Addr}{y v:V}{u r:Value}{o:Option V}{A:Around}{E:Value->Shared->Prop}
end
section
variable {X:Cx}{pins:List (Addr × Obj)}{σ:St}{H:Hp}{s:Shared}{a:Addr}{kvs:List (Key × V)}{k:Key}{u:Value}{A:Around}{E:Value->Shared->Prop}
end
section
variable {X:Cx}{o i e value:Expr}{pos pos' tpos:Pos}{td ty tv:TE}
end
section
variable {X:Cx}{pos:Pos}
end
structure M2(X:Cx)(o:Expr)(m:Str)(apos:Pos)(e f:Expr)(cpos:Pos):Prop where
 base:attributeBase o m X.env (eval o X.env)=eval o X.env
 few:((backTo cpos (starEach [e,f] X.env)).all (fun x=>!x.1) && (backToKw cpos (keywordEach [] X.env)).all (fun x=>x.1.isSome)
  && decide (([e,f]:List Expr).length+([]:List Keyword).length+(if ([]:List Keyword).isEmpty then 0 else 1)<30))=true
 line:(apos.endLine==cpos.line)=true
 trees:backTo cpos (starEach [e,f] X.env)=[(false,eval e X.env),(false,eval f X.env)]
section
variable {X:Cx}{pins:List (Addr × Obj)}{σ:St}{H:Hp}{s:Shared}{a:Addr}{y d:V}{u r:Value}{o:Option V}{A:Around}{E:Value->Shared->Prop}
end
section
variable {X:Cx}{o e f:Expr}{apos cpos:Pos}{td ty tx:TE}
end
section
variable {X:Cx}{pins:List (Addr × Obj)}{σ:St}{H:Hp}{s:Shared}{a:Addr}{kvs:List (Key × V)}{A:Around}{E:Value->Shared->Prop}
end
section
variable {X:Cx}{pins:List (Addr × Obj)}{σ:St}{H:Hp}{s:Shared}{a:Addr}{y:V}{u:Value}{A:Around}{E:Value->Shared->Prop}
end
end L2
namespace L2
open PySem PySem.Spec PyProof.Rows
section
variable {prog:Program}{w:World}{A:Around}{E:Value->Shared->Prop}
end
section
variable {X:Cx}
end
end L2
namespace L2
open PySem PySem.Spec PyProof.Rows
section
variable {X:Cx}{pins:List (Addr × Obj)}{σ:St}{H:Hp}{s:Shared}{h':Heap}
theorem Inv.turnedL{t':Nat}{ch:List Addr}(I:Inv X pins σ H s)(k:∀b o,b∉ch->s.heap.get? b=some o->h'.get? b=some o)(hf:∀b∈ch,FpOk X pins H b):Inv X pins σ H {s with heap:=h',toks:=t'}:=by
 have nit:∀b u,H b=some u->b∉ch:=fun b u e z=>by
  have q:=(hf b z).1
  rw [q] at e;cases e
 refine I.step (g':=s.gens) (d':=s.drawn) (ch:=ch) (fun b hb=>⟨(hf b hb).2.2.2.1,(hf b hb).2.1,(hf b hb).2.2.2.2.1,(hf b hb).2.2.2.2.2⟩) (fun b o _ _ hc e _=>k b o hc e) (fun b o _ _ hc e _=>⟨o.slots,k b o hc e⟩)
  (fun _ _ _ _ n=>n) (fun b o hc e=>⟨o,k b o hc e⟩) (fun _ _ e=>e) (fun _ _ _ e=>e) (fun b ps e=>⟨#[],by rw [e];simp⟩) (fun m hm=>?_) (fun b u e=>?_) I.bare
 ·obtain⟨o,es,ep,ho,r⟩:=hm
  exact⟨o,es,ep,k _ o (fun z=>(hf _ z).2.1 rfl) ho,r⟩
 ·refine (I.hok b u e).stay (fun c v hc q=>k c v ?_ q) (fun _ q=>q) fun _ _ q=>q
  rcases hc with z |z
  ·rw [z];exact nit b u e
  ·exact nit c _ z
theorem Inv.turnedNew{t':Nat}{ch:List Addr}{T:Addr}{ob:HO}(I:Inv X pins σ H s)(k:∀b o,b∉ch->s.heap.get? b=some o->h'.get? b=some o)(hf:∀b∈ch,FpOk X pins H b)(hT:s.heap.objs.size<=T)
  (new:ObjOk X.prog X.w (upd H T ob) h' T ob):Inv X pins σ (upd H T ob) {s with heap:=h',toks:=t'}:=by
 have hn:H T=none:=I.hok.fresh hT
 have nit:∀b u,H b=some u->b∉ch:=fun b u e z=>by
  have q:=(hf b z).1
  rw [q] at e;cases e
 refine I.step (g':=s.gens) (d':=s.drawn) (ch:=ch) (fun b hb=>⟨(hf b hb).2.2.2.1,(hf b hb).2.1,(hf b hb).2.2.2.2.1,(hf b hb).2.2.2.2.2⟩) (fun b o _ _ hc e _=>k b o hc e) (fun b o _ _ hc e _=>⟨o.slots,k b o hc e⟩)
  (fun b o _ e n=>?_) (fun b o hc e=>⟨o,k b o hc e⟩) (fun b xs e=>?_) (fun b o u e=>?_) (fun b ps e=>⟨#[],?_⟩) (fun m hm=>?_) (fun b u e=>?_) I.bare
 ·rw [aM (Nat.ne_of_lt (Nat.lt_of_lt_of_le (Heap.lt_size e) hT))];exact n
 ·rw [aM (aD e hn)];exact e
 ·rw [aM (aD e hn)];exact e
 ·rw [aM (aD e hn),e];simp
 ·obtain⟨o,es,ep,ho,r⟩:=hm
  exact⟨o,es,ep,k _ o (fun z=>(hf _ z).2.1 rfl) ho,r⟩
 ·by_cases hb:b=T
  ·subst hb
   rw [ae] at e
   cases e
   exact new
  ·rw [aM hb] at e
   refine (I.hok b u e).stay (fun c v hc q=>k c v ?_ q) (fun c q=>by rw [aM (aD q hn)];exact q) fun c xs q=>by rw [aM (aD q hn)];exact q
   rcases hc with z |z
   ·rw [z];exact nit b u e
   ·exact nit c _ z
end
section
variable {X:Cx}
theorem vD{tg:Expr}{pins:List (Addr × Obj)}{σ:St}{H:Hp}{s:Shared}{R:It->Hp->Prop}{J:It}{tn:Nat->Heap->Prop}{tk:Nat}(I:Inv X pins σ H s)(o:Obj)
  (T:Turn X.prog X.w X.K tg J [s.heap.objs.size] s.heap.objs.size tn) (st:tn 0 (s.heap.push o)) (q:R J H):PIE X pins σ tg R (.ref s.heap.objs.size) {s with heap:=s.heap.push o,toks:=tk}:=by
 refine⟨s.heap.objs.size,[s.heap.objs.size],tn,J,H,rfl,I.kept fun b ob e=>Heap.get?_push_of_some _ e,T,st,fun b hb=>?_,q⟩
 have e:b=s.heap.objs.size:=by simpa using hb
 subst e
 exact I.fpOk (Nat.le_refl _) (I.hok.fresh (Nat.le_refl _))
end
def Itc(lo c:Int)(n:Nat):It:=⟨fun i _=>i<n,fun i H x H'=>H'=H/\x=.int (lo+(i:Nat)*c),fun i _=>n<=i⟩
theorem lJ{P:Program}{w:World}{K:PySem.W.Frag}{tg:Expr}(it:Addr)(lo c:Int)(n:Nat):Turn P w K tg (Itc lo c n) [it] it (fun i h=>IsRangeIter h it (lo+(i:Nat)*c) ((n:Int)-(i:Nat)) c) where
 mem:=by simp
 obj:=fun i h st b hb=>by
  have e:b=it:=by simpa using hb
  subst e
  exact⟨_,st,fun v z=>nomatch z⟩
 keep:=fun i h h' st k=>k it (by simp) _ st
 item:=by
  intro X hP hw hK hc i pins s σ H E I hf st hg
  subst hP hw hK
  obtain⟨f0,f1,f2,f3,f4,f5⟩:=hf it (by simp)
  have W:=Walks.range (prog:=X.prog) (w:=X.w) (I.ok.hd hc) it lo c n
  refine W.item i s _ _ hg st fun v h' tk hv st' kk=>?_
  obtain⟨t,rfl⟩:=hv
  have I1:Inv X pins σ H {s with heap:=h',toks:=tk}:=I.turned (fun b o hb e=>kk b o (by simpa using hb) e) f0 f1 f3 f4 f5
  exact⟨_,rfl,rF (s:={s with heap:=h',toks:=tk}) (n:="range_iterator") st' rfl rfl (by decide) ⟨.int (lo+(i:Nat)*c),H,I1,⟨t,rfl⟩,⟨rfl,rfl⟩,st',fun b hb=>(hf b hb).1⟩⟩
 done:=by
  intro X hP hw hK hc i pins s σ H E I hf st hg
  subst hP hw hK
  obtain⟨f0,f1,f2,f3,f4,f5⟩:=hf it (by simp)
  exact wpAny_pyNext_range_end (I.ok.hd hc) st (by have:n<=i:=hg;omega) fun h' eb=>⟨rfl,I.turned (t':=s.toks) (fun b o hb e=>eb b o hb e) f0 f1 f3 f4 f5⟩
 self:=fun A i s Q E st h=>wpAny_pyIter_rangeiter st h
def RgC(i j c:Int)(n:Nat):Prop:=c≠0/\c.natAbs<1073741824/\Builtin.Range.small i j c=true/\Builtin.Range.rangeSize i j c=n
theorem RgC.neg{i j:Int}(ha:-(2^62)<=i)(ha':i<2^62)(hb:-(2^62)<=j)(hb':j<2^62):RgC i j (-1) (i-j).toNat:=
 ⟨by decide,by decide,PySem.W.small_down ha ha' hb hb',PySem.W.rangeSize_downNat i j⟩
def iRng3(ta:TA):TI:=fun σ H R=>ta σ H fun vs H1=>∃(i j c:Int) (n:Nat),vs=[.int i,.int j,.int c]/\RgC i j c n/\R (Itc i c n) H1
section
variable {X:Cx}{tg:Expr}
theorem jZ{a b c:Expr}{ta:TA}{p pos:Pos}(hg:Gl X "range")(hm:X.mg "range"=none)(ha:PA X [a,b,c] ta)
  (hs:starEach [a,b,c] X.env=(false,eval a X.env)::starEach [b,c] X.env:=by rfl) (hpl:(backTo pos (starEach [b,c] X.env)).any (·.1)=false:=by rfl):
  PI X tg (.Call (.Name "range" p) [a,b,c] [] pos) (iRng3 ta):=by
 intro pins s σ H R I h
 refine Call_ (eG I hg hm boot_range (PyProof.Rows.callWith_type1 (thn (ha pos pins s σ H _ I h) fun us s1 ⟨vs,H1,I1,r1,q1⟩=>?_) hs hpl))
 obtain⟨i,j,k,n,e,⟨c0,c1,c2,c3⟩,q⟩:=q1
 subst e
 cases r1 with
 |cons r rr=>
  cases rr with
  |cons r' rr=>
   cases rr with
   |cons r'' rr=>
    cases rr
    obtain⟨t,rfl⟩:=r
    obtain⟨t',rfl⟩:=r'
    obtain⟨t'',rfl⟩:=r''
    refine call_range_3 c0 ?_ (.inl (PyProof.noPylong_small c1))
    refine wpAny_pyIter_range (IsRange.new ..) c2 ?_
    have I2:Inv X pins σ H1 {s1 with heap:=s1.heap.push {cls:=.type "range",data:=.fields #[.int i t,.int j t',.int k t'']}}:=I1.kept (t':=s1.toks) fun b o e=>Heap.get?_push_of_some _ e
    refine vD (tk:=s1.toks) I2 _ (lJ _ i k n) ?_ q
    have e1:i+((0:Nat):Int)*k=i:=by simp
    have e2:(n:Int)-((0:Nat):Int)=Builtin.Range.rangeSize i j k:=by rw [c3];simp
    show IsRangeIter _ _ (i+((0:Nat):Int)*k) ((n:Int)-((0:Nat):Int)) k
    rw [e1,e2]
    exact Heap.get?_push_size _ rfl
end
theorem iQ{lo c:Int}{n:Nat}{g:TG}{tb:TS}{D:Ends}{σ:St}{H:Hp}(Pv:Nat->St->Hp->Prop)(h0:Pv 0 σ H)
  (hs:∀i σ H,i<n->Pv i σ H->g (.int (lo+(i:Nat)*c)) σ H fun σ2 H2=>tb {D with nx:=Pv (i+1),ct:=Pv (i+1),bk:=D.nx} σ2 H2) (hd:∀σ H,Pv n σ H->D.nx σ H):
  ∃W:Nat->Nat->St->Hp->Prop,(∃m,W 0 m σ H)/\∀i m σ H,W i m σ H->
   ((Itc lo c n).stop i H/\D.nx σ H)\/((Itc lo c n).go i H/\∃N:St->Hp->Prop,(∀σ' H',N σ' H'->∃m',m'<m/\W (i+1) m' σ' H')/\∀x H',(Itc lo c n).yld i H x H'->g x σ H' fun σ2 H2=>tb {D with nx:=N,ct:=N,bk:=D.nx} σ2 H2):=by
 refine⟨fun i m σ H=>m=n-i/\i<=n/\Pv i σ H,⟨n,by simp,Nat.zero_le _,h0⟩,?_⟩
 rintro i m σ H ⟨rfl,hi,p⟩
 by_cases hlt:i<n
 ·refine .inr ⟨hlt,Pv (i+1),fun σ' H' p'=>⟨n-(i+1),by omega,rfl,hlt,p'⟩,fun x H' y=>?_⟩
  obtain⟨e,y⟩:=y
  subst e y
  exact hs i σ _ hlt p
 ·have e:i=n:=by omega
  subst e
  exact .inl ⟨Nat.le_refl _,hd σ H p⟩
section
variable {X:Cx}{tg:Expr}
end
section
variable {prog:Program}{w:World}{A:Around}{E:Value->Shared->Prop}{s:Shared}
end
section
variable {X:Cx}{pins:List (Addr × Obj)}{σ:St}{H:Hp}{s:Shared}{d:Addr}{o:Obj}
end
section
variable {P:Program}{w:World}{K:PySem.W.Frag}{tg:Expr}{d:Addr}{o:Obj}{es:Array DictEntry}{ep:Nat}
end
section
variable {X:Cx}{tg e:Expr}{td:TE}{apos cpos:Pos}
end
def Ite(K:PySem.W.Frag)(a:Addr):It:=
 ⟨fun i H=>∃(xs:List V) (x:V),SqL K H a xs/\xs[i]?=some x,fun i H v H'=>∃T x,v=.ref T/\H T=none/\H'=upd H T (.tup [.int (i:Nat),x])/\∀xs,SqL K H a xs->xs[i]?=some x,fun i H=>∃xs:List V,SqL K H a xs/\xs.length<=i⟩
theorem pS{P:Program}{w:World}{K:PySem.W.Frag}{elts:List Expr}{kk:Nat}{tpos:Pos}(a e it:Addr):
  Turn P w K (.Tuple elts kk tpos) (Ite K a) [e,it] e (fun i h=>(∃old,IsEnum h e it ((i:Nat):Int) old)/\h.IsListIter it a i/\e≠it) where
 mem:=by simp
 obj:=fun i h st b hb=>by
  obtain⟨⟨old,he⟩,⟨o,ho,hc,hd⟩,_⟩:=st
  have e':b=e\/b=it:=by simpa using hb
  rcases e' with z |z
  ·rw [z];exact⟨_,he,fun v q=>nomatch q⟩
  ·rw [z];exact⟨o,ho,fun v q=>by rw [hd] at q;cases q⟩
 keep:=fun i h h' st k=>let ⟨⟨old,he⟩,hi,hne⟩:=st;⟨⟨old,k e (by simp) _ he⟩,hi.at fun o q=>k it (by simp) o q,hne⟩
 item:=by
  intro X hP hw hK hc i pins s σ H E I hf st hg
  subst hP hw hK
  obtain⟨⟨old,he⟩,hit,hne⟩:=st
  obtain⟨xs,x,hq,hx⟩:=hg
  obtain⟨its,rv,p,hz⟩:=I.list hq
  obtain⟨u,hu,ru⟩:=rv.get hx
  have hel:e<s.heap.objs.size:=Heap.lt_size he
  have hil:it<s.heap.objs.size:=by obtain⟨_,q,_⟩:=hit;exact Heap.lt_size q
  refine wpAny_pyNext_enum_item he hit p.isList (x:=u) (by simpa using hu) hne fun h' ho hit' hT hsz hk=>?_
  refine⟨_,rfl,wpAny_letOwnedTupleGo_enum (s:={s with heap:=h',toks:=s.toks+1}) ho fun h'' he' sb=>?_⟩
  have hT2:h''.get? s.heap.objs.size=some {cls:=.type "tuple",data:=.seq #[.int i s.toks,u]}:=(sb.2 _ (Nat.ne_of_gt hel)).trans hT
  have new:ObjOk X.prog X.w (upd H s.heap.objs.size (.tup [.int (i:Nat),x])) h'' s.heap.objs.size (.tup [.int (i:Nat),x]):=
   ⟨by show 2<=sizeLine;decide,[.int i s.toks,u],.cons ⟨_,rfl⟩ (.cons ru .nil),⟨_,hT2,rfl,_,rfl⟩⟩
  have I1:Inv X pins σ (upd H s.heap.objs.size (.tup [.int (i:Nat),x])) {s with heap:=h'',toks:=s.toks+1}:=
   I.turnedNew (ch:=[e,it]) (fun b ob hb q=>(sb.2 b (fun z=>hb (by simp [z]))).trans (hk b ob (fun z=>hb (by simp [z])) (fun z=>hb (by simp [z])) q)) hf (Nat.le_refl _) new
  refine⟨.ref s.heap.objs.size,_,I1,rfl,⟨_,x,rfl,I.hok.fresh (Nat.le_refl _),rfl,fun ys hy=>by rw [I.list_inj hy hq];exact hx⟩,⟨⟨u,?_⟩,hit'.at fun o q=>(sb.2 it (Ne.symm hne)).trans q,hne⟩,fun b hb=>?_⟩
  ·have e1:((i+1:Nat):Int)=(i:Int)+1:=by omega
   rw [e1];exact he'
  ·have hb':b<s.heap.objs.size:=by
    have e':b=e\/b=it:=by simpa using hb
    rcases e' with z |z
    ·rw [z];exact hel
    ·rw [z];exact hil
   rw [aM (Nat.ne_of_lt hb')]
   exact (hf b hb).1
 done:=by
  intro X hP hw hK hc i pins s σ H E I hf st hg
  subst hP hw hK
  obtain⟨⟨old,he⟩,hit,hne⟩:=st
  obtain⟨xs,hq,hx⟩:=hg
  obtain⟨its,rv,p,hz⟩:=I.list hq
  obtain⟨f0,f1,f2,f3,f4,f5⟩:=hf it (by simp)
  have hl:=rv.length
  exact wpAny_pyNext_enum_end (I.ok.hd hc) he hit p.isList (by simp;omega) fun h' eb=>⟨rfl,I.turned (t':=s.toks) (fun b o hb q=>eb b o hb q) f0 f1 f3 f4 f5⟩
 self:=fun A i s Q E st h=>let ⟨⟨_,he⟩,_⟩:=st;wpAny_pyIter_enum he h
inductive oK(K:PySem.W.Frag)(vs:List V)(H1:Hp)(R:It->Hp->Prop):Prop
 |mk:∀a xs,(vs=[.ref a])->(SqL K H1 a xs)->(R (Ite K a) H1)->oK K vs H1 R
def iEnum(K:PySem.W.Frag)(ta:TA):TI:=fun σ H R=>ta σ H fun vs H1=>oK K vs H1 R
theorem kQ{X:Cx}{e:Expr}{ta:TA}{p pos tpos:Pos}{elts:List Expr}{kk:Nat}(hg:Gl X "enumerate")(hm:X.mg "enumerate"=none)(ha:PA X [e] ta)(hs:starEach [e] X.env=[(false,eval e X.env)]:=by rfl):
  PI X (.Tuple elts kk tpos) (.Call (.Name "enumerate" p) [e] [] pos) (iEnum X.K ta):=by
 intro pins s σ H R I h
 refine Call_ (eG I hg hm boot_enumerate (PyProof.Rows.callWith_type1 (thn (ha pos pins s σ H _ I h) fun us s1 ⟨vs,H1,I1,r1,q1⟩=>?_) hs rfl))
 obtain⟨a,xs,ex,hq,q⟩:=q1
 subst ex
 cases r1 with
 |cons r rr=>
  cases rr
  cases r
  obtain⟨its,rv,p',hz⟩:=I1.list hq
  refine call_enumerate_list p'.isList fun h' he hit hsz hk=>wpAny_pyIter_enum he ?_
  have I2:Inv X pins σ H1 {s1 with heap:=h'}:=I1.kept (t':=s1.toks) hk
  refine⟨s1.heap.objs.size+1,[s1.heap.objs.size+1,s1.heap.objs.size],_,_,H1,rfl,I2,pS a (s1.heap.objs.size+1) s1.heap.objs.size,⟨⟨.none,he⟩,hit,Nat.succ_ne_self _⟩,fun b hb=>?_,q⟩
  have e':b=s1.heap.objs.size+1\/b=s1.heap.objs.size:=by simpa using hb
  have hle:s1.heap.objs.size<=b:=by
   rcases e' with z |z
   ·rw [z];exact Nat.le_add_right _ _
   ·rw [z];exact Nat.le_refl _
  exact I1.fpOk hle (I1.hok.fresh hle)
theorem jH:bootBuiltins "zip"=some (.type "zip"):=by decide+kernel
def Itz(K:PySem.W.Frag)(a b:Addr):It:=
 ⟨fun i H=>∃(xs ys:List V) (x y:V),SqL K H a xs/\SqL K H b ys/\xs[i]?=some x/\ys[i]?=some y,
  fun i H v H'=>∃T x y,v=.ref T/\H T=none/\H'=upd H T (.tup [x,y])/\(∀xs,SqL K H a xs->xs[i]?=some x)/\∀ys,SqL K H b ys->ys[i]?=some y,
  fun i H=>∃xs ys:List V,SqL K H a xs/\SqL K H b ys/\(xs.length<=i\/ys.length<=i)⟩
theorem qu{P:Program}{w:World}{K:PySem.W.Frag}{elts:List Expr}{kk:Nat}{tpos:Pos}{a b z TI TO i1 i2:Addr}(D:ZipApart z TI TO i1 i2 a b):
  Turn P w K (.Tuple elts kk tpos) (Itz K a b) [z,TI,TO,i1,i2] z (fun i h=>IsZip h z TI TO .none/\IsPair h TI (.ref i1) (.ref i2)/\(∃x y,IsPair h TO x y)/\h.IsListIter i1 a i/\h.IsListIter i2 b i) where
 mem:=by simp
 obj:=fun i h st c hc=>by
  obtain⟨hz,hTI,⟨x,y,hTO⟩,⟨o1,e1,_,d1⟩,⟨o2,e2,_,d2⟩⟩:=st
  have e':c=z\/c=TI\/c=TO\/c=i1\/c=i2:=by simpa using hc
  rcases e' with q |q |q |q |q
  ·rw [q];exact⟨_,hz,fun v q=>nomatch q⟩
  ·rw [q];exact⟨_,hTI,fun v q=>nomatch q⟩
  ·rw [q];exact⟨_,hTO,fun v q=>nomatch q⟩
  ·rw [q];exact⟨o1,e1,fun v q=>by rw [d1] at q;cases q⟩
  ·rw [q];exact⟨o2,e2,fun v q=>by rw [d2] at q;cases q⟩
 keep:=fun i h h' st k=>by
  obtain⟨hz,hTI,⟨x,y,hTO⟩,h1,h2⟩:=st
  exact⟨k z (by simp) _ hz,k TI (by simp) _ hTI,⟨x,y,k TO (by simp) _ hTO⟩,h1.at fun o q=>k i1 (by simp) o q,h2.at fun o q=>k i2 (by simp) o q⟩
 item:=by
  intro X hP hw hK hc i pins s σ H E I hf st hg
  subst hP hw hK
  obtain⟨hz,hTI,⟨x0,y0,hTO⟩,h1,h2⟩:=st
  obtain⟨xs,ys,x,y,hqx,hqy,hx,hy⟩:=hg
  obtain⟨its,rv,p,_⟩:=I.list hqx
  obtain⟨its2,rv2,p2,_⟩:=I.list hqy
  obtain⟨u,hu,ru⟩:=rv.get hx
  obtain⟨u2,hu2,ru2⟩:=rv2.get hy
  have hzl:z<s.heap.objs.size:=Heap.lt_size hz
  refine wpAny_pyNext_zip_item D hz hTI hTO h1 h2 p.isList p2.isList (x:=u) (y:=u2) (by simpa using hu) (by simpa using hu2) fun h' z' TO' h1' h2' hT hsz hk=>?_
  refine⟨_,rfl,wpAny_letOwnedTupleGo_zip (s:={s with heap:=h'}) z' fun h'' z'' sb=>?_⟩
  have hT2:h''.get? s.heap.objs.size=some {cls:=.type "tuple",data:=.seq #[u,u2]}:=(sb.2 _ (Nat.ne_of_gt hzl)).trans hT
  have new:ObjOk X.prog X.w (upd H s.heap.objs.size (.tup [x,y])) h'' s.heap.objs.size (.tup [x,y]):=
   ⟨by show 2<=sizeLine;decide,[u,u2],.cons ru (.cons ru2 .nil),⟨_,hT2,rfl,_,rfl⟩⟩
  have I1:Inv X pins σ (upd H s.heap.objs.size (.tup [x,y])) {s with heap:=h''}:=
   I.turnedNew (t':=s.toks) (ch:=[z,TI,TO,i1,i2]) (fun c o hb q=>(sb.2 c (fun q'=>hb (by simp [q']))).trans (hk c o (fun q'=>hb (by simp [q'])) (fun q'=>hb (by simp [q'])) (fun q'=>hb (by simp [q'])) (fun q'=>hb (by simp [q'])) q)) hf (Nat.le_refl _) new
  refine⟨.ref s.heap.objs.size,_,I1,rfl,⟨_,x,y,rfl,I.hok.fresh (Nat.le_refl _),rfl,fun l hl=>by rw [I.list_inj hl hqx];exact hx,fun l hl=>by rw [I.list_inj hl hqy];exact hy⟩,⟨z'',?_,⟨u,u2,?_⟩,?_,?_⟩,fun c hcm=>?_⟩
  ·exact (sb.2 _ D.TIz).trans (hk _ _ D.TIz D.TITO D.TIi1 D.TIi2 hTI)
  ·exact (sb.2 _ D.TOz).trans TO'
  ·exact h1'.at fun o q=>(sb.2 _ D.i1z).trans q
  ·exact h2'.at fun o q=>(sb.2 _ D.i2z).trans q
  ·have hlt:c<s.heap.objs.size:=by
    have e':c=z\/c=TI\/c=TO\/c=i1\/c=i2:=by simpa using hcm
    rcases e' with q |q |q |q |q
    ·rw [q];exact hzl
    ·rw [q];exact Heap.lt_size hTI
    ·rw [q];exact Heap.lt_size hTO
    ·rw [q];obtain⟨_,e1,_⟩:=h1;exact Heap.lt_size e1
    ·rw [q];obtain⟨_,e2,_⟩:=h2;exact Heap.lt_size e2
   rw [aM (Nat.ne_of_lt hlt)]
   exact (hf c hcm).1
 done:=by
  intro X hP hw hK hc i pins s σ H E I hf st hg
  subst hP hw hK
  obtain⟨hz,hTI,⟨x0,y0,hTO⟩,h1,h2⟩:=st
  obtain⟨xs,ys,hqx,hqy,hend⟩:=hg
  obtain⟨its,rv,p,_⟩:=I.list hqx
  obtain⟨its2,rv2,p2,_⟩:=I.list hqy
  have l1:=rv.length
  have l2:=rv2.length
  have he:its.toArray[i]?=none\/its2.toArray[i]?=none:=by
   rcases hend with q |q
   ·exact .inl (by simp;omega)
   ·exact .inr (by simp;omega)
  exact wpAny_pyNext_zip_end (I.ok.hd hc) D hz hTI hTO h1 h2 p.isList p2.isList he fun h' hk=>⟨rfl,I.turnedL (t':=s.toks) (ch:=[z,TI,TO,i1,i2]) (fun c o hb q=>
   hk c o (fun q'=>hb (by simp [q'])) (fun q'=>hb (by simp [q'])) (fun q'=>hb (by simp [q'])) (fun q'=>hb (by simp [q'])) q) hf⟩
 self:=fun A i s Q E st h=>wpAny_pyIter_zip st.1 h
inductive nI(K:PySem.W.Frag)(vs:List V)(H1:Hp)(R:It->Hp->Prop):Prop
 |mk:∀a b xs ys,(vs=[.ref a,.ref b])->(SqL K H1 a xs)->(SqL K H1 b ys)->(R (Itz K a b) H1)->nI K vs H1 R
def iZip(K:PySem.W.Frag)(ta:TA):TI:=fun σ H R=>ta σ H fun vs H1=>nI K vs H1 R
theorem jf{X:Cx}{e e2:Expr}{ta:TA}{p pos tpos:Pos}{elts:List Expr}{kk:Nat}(hg:Gl X "zip")(hm:X.mg "zip"=none)(ha:PA X [e,e2] ta)
  (hs:starEach [e,e2] X.env=(false,eval e X.env)::starEach [e2] X.env:=by rfl) (hpl:(backTo pos (starEach [e2] X.env)).any (·.1)=false:=by rfl):
  PI X (.Tuple elts kk tpos) (.Call (.Name "zip" p) [e,e2] [] pos) (iZip X.K ta):=by
 intro pins s σ H R I h
 refine Call_ (eG I hg hm jH (PyProof.Rows.callWith_type1 (thn (ha pos pins s σ H _ I h) fun us s1 ⟨vs,H1,I1,r1,q1⟩=>?_) hs hpl))
 obtain⟨a,b,xs,ys,ex,hqx,hqy,q⟩:=q1
 subst ex
 cases r1 with
 |cons r rr=>
  cases rr with
  |cons r' rr=>
   cases rr
   cases r
   cases r'
   obtain⟨its,rv,p1,_⟩:=I1.list hqx
   obtain⟨its2,rv2,p2,_⟩:=I1.list hqy
   have la:a<s1.heap.objs.size:=p1.lt
   have lb:b<s1.heap.objs.size:=p2.lt
   refine call_zip_2 p1.isList p2.isList fun h' hz hTI hTO h1 h2 hsz hk=>wpAny_pyIter_zip hz ?_
   have I2:Inv X pins σ H1 {s1 with heap:=h'}:=I1.kept (t':=s1.toks) hk
   refine⟨s1.heap.objs.size+4,[s1.heap.objs.size+4,s1.heap.objs.size+2,s1.heap.objs.size+3,s1.heap.objs.size,s1.heap.objs.size+1],_,_,H1,rfl,I2,qu (PySem.W.ktu_apart s1.heap.objs.size a b la lb),⟨hz,hTI,⟨_,_,hTO⟩,h1,h2⟩,fun c hcm=>?_,q⟩
   have e':c=s1.heap.objs.size+4\/c=s1.heap.objs.size+2\/c=s1.heap.objs.size+3\/c=s1.heap.objs.size\/c=s1.heap.objs.size+1:=by simpa using hcm
   have hle:s1.heap.objs.size<=c:=by
    rcases e' with z |z |z |z |z
    ·rw [z];exact Nat.le_add_right _ _
    ·rw [z];exact Nat.le_add_right _ _
    ·rw [z];exact Nat.le_add_right _ _
    ·rw [z];exact Nat.le_refl _
    ·rw [z];exact Nat.le_add_right _ _
   exact I1.fpOk hle (I1.hok.fresh hle)
end L2
section
namespace Bits
open PySem PyProof.Rows
end Bits
end
section
namespace TL
open PySem PySem.Builtin PySem.Builtin.Str PySem.StrLaws
end TL
end
namespace L2
open PySem PySem.Spec PyProof.Rows
section
variable {X:Cx}{pins:List (Addr × Obj)}{σ:St}{H:Hp}{s:Shared}{Q:VK}
end
section
variable {X:Cx}
end
section
variable {X:Cx}{o e:Expr}{to te:TE}
end
end L2
namespace L2
open PySem PySem.Spec PyProof.Rows
section
variable {X:Cx}
end
end L2
namespace Att
open PySem PySem.W PySem.Calls PyProof.Rows
section
variable {prog:Program}{w:World}{A:Around}{E:Value->Shared->Prop}{s:Shared}{K:Frag}
end
end Att
namespace L2
open PySem PySem.Spec PyProof.Rows
end L2
namespace L2
open PySem PySem.Spec PyProof.Rows
end L2
namespace L2
open PySem PySem.Spec PyProof.Rows
def inClass(s:Stmt)(j:Nat):Stmt:=match s with
 |.ClassDef _ _ _ body _ _ _ _ _ _ _=>body.getD j (.Pass ⟨0,0,0,0⟩)
 |_=>.Pass ⟨0,0,0,0⟩
def defArgs(s:Stmt):Arguments:=match s with
 |.FunctionDef _ a _ _ _ _ _ _ _ _=>a
 |_=>{posonlyargs:=[],args:=[],vararg:=none,kwonlyargs:=[],kw_defaults:=[],kwarg:=none,defaults:=[]}
def defBody(s:Stmt):List Stmt:=match s with
 |.FunctionDef _ _ b _ _ _ _ _ _ _=>b
 |_=>[]
def ax(s:Stmt):Scope:=match s with
 |.FunctionDef _ _ _ _ _ _ sc _ _ _=>sc
 |_=>{kind:=.function,names:=[],isGenerator:=false,isCoroutine:=false}
abbrev CX0:CXT:=fun _ _ _ _ _ _=>False
abbrev E0:XK:=fun _ _ _=>False
theorem pass0{X:Cx}:Passes CX0 X E0:=fun _ _ _ _ _ _ _ h=>h.elim
structure Fun(K:PySem.W.Frag)(x qual:Str)(st:Stmt)(f:Addr)(fd:FuncData):Prop where
 ex:∃(oc:Value) (od:Option Addr) (kV doc pm:Value) (an:Option Addr) (cdv ct:Value) (osl:Array (Option Value)),
  fd=PySem.W.fnOf x qual (defArgs st) (defBody st) (ax st) .none kV doc pm an cdv ct/\K.lookup f=some ⟨oc,od,.func fd,osl⟩/\PySem.W.codeIn K cdv qual=true
 kp:PySem.W.keepIn K (.ref f)=true
section
variable {P:Program}{w:World}{K:PySem.W.Frag}{mg:Str->Option Value}{base:Heap}
theorem Fun.ok{x qual:Str}{st:Stmt}{f:Addr}{fd:FuncData}{N ps:List Str}{k:Nat}{sp:Sp}(F:Fun K x qual st f fd)(S:aB N ps (ax st))(len:∀vs H Q E,sp vs H Q E->vs.length=ps.length)
  (hbody:∀(cdv:Value) (A:Around) (outer:List Env) (s:Shared) (H:Hp) (vs:List V) (Q:VK) (E:XK),Room k (A.deeper (envOfC qual (ax st) s.heap.objs.size f cdv))->sp vs H Q E->
   ∃t,PSs (cxOf CX0 P w K mg base N qual (ax st) f cdv A outer s H E).nox (defBody st) t/\t {nx:=fun _ H'=>Q .non H',rt:=Q} (start N vs) H):FnOk P w K mg base CX0 (k+1) f fd ps sp:=by
 obtain⟨oc,od,kV,doc,pm,an,cdv,ct,osl,rfl,lk,hcd⟩:=F.ex
 refine vQ lk hcd S len fun A outer s H vs Q E hr hsp=>?_
 obtain⟨t,h,q⟩:=hbody cdv A outer s H vs Q E hr hsp
 exact⟨t,h.nox,q⟩
theorem Fun.binds{x qual:Str}{st:Stmt}{f:Addr}{fd:FuncData}{ps:List Str}(F:Fun K x qual st f fd)
  (h:∀(kV doc pm:Value) (an:Option Addr) (cdv ct:Value) (us:List Value),us.length=ps.length->bindArgs (PySem.W.fnOf x qual (defArgs st) (defBody st) (ax st) .none kV doc pm an cdv ct) ⟨us,[]⟩=pure (ps.zip us)):Binds K fd ps []:=by
 obtain⟨oc,od,kV,doc,pm,an,cdv,ct,osl,rfl,lk,hcd⟩:=F.ex
 exact .all (h kV doc pm an cdv ct)
theorem aI{x qual:Str}{st:Stmt}{f:Addr}{oc:Value}{od an:Option Addr}{osl:Array (Option Value)}{kV doc pm cdv ct:Value}(l:K.lookup f=some ⟨oc,od,.func (PySem.W.fnOf x qual (defArgs st) (defBody st) (ax st) .none kV doc pm an cdv ct),osl⟩)
  (c:PySem.W.codeIn K cdv qual=true) (k:PySem.W.keepIn K (.ref f)=true):Fun K x qual st f (PySem.W.fnOf x qual (defArgs st) (defBody st) (ax st) .none kV doc pm an cdv ct):=⟨⟨oc,od,kV,doc,pm,an,cdv,ct,osl,rfl,l,c⟩,k⟩
end
theorem vE{A:Around}{k:Nat}(hr:Room k A):A.units+1<cLine:=Nat.lt_of_le_of_lt (Nat.add_le_add_left (by decide:1<=64) _) hr.units
theorem small1000{n:Nat}(h:n<=1000):n<sizeLine:=Nat.lt_of_le_of_lt h (by decide)
section
variable {X:Cx}
theorem pv(i:Nat){x:Str}{pos:Pos}(hN:X.N[i]?=some x:=by rfl)(hv:Vis X.env.scope x:=by first |exact Or.inl rfl |exact Or.inr (Or.inl rfl)|exact Or.inr (Or.inr rfl))(hd:(x==("__debug__":Str))=false:=by decide)
  (hcd:(x==("__classdict__":Str))=false:=by decide):PE X (.Name x pos) (tVar i):=uI hN hv hd hcd
end
theorem iteF{A B:Prop}(h:B):if false=true then A else B:=by
 rw [if_neg Bool.false_ne_true]
 exact h
theorem iteT{A B:Prop}(h:A):if true=true then A else B:=by
 rw [if_pos rfl]
 exact h
theorem ite2{c A B:Prop}[Decidable c](h1:c->A)(h2:¬c->B):if c then A else B:=by
 by_cases h:c
 ·rw [if_pos h]
  exact h1 h
 ·rw [if_neg h]
  exact h2 h
def Same(H H':Hp):Prop:=∀b o,H b=some o->H' b=some o
theorem Same.refl(H:Hp):Same H H:=fun _ _ h=>h
theorem Same.trans{H H1 H2:Hp}(a:Same H H1)(b:Same H1 H2):Same H H2:=fun c o h=>b c o (a c o h)
theorem Same.free{H H':Hp}(e:Same H H'){l:Addr}(h:H' l=Option.none):H l=Option.none:=by
 cases q:H l with
 |none=>rfl
 |some o=>
  rw [e l o q] at h
  cases h
theorem Same.seq{K:PySem.W.Frag}{H H':Hp}{a:Addr}{xs:List V}(e:Same H H')(h:SqL K H a xs):SqL K H' a xs:=by
 rcases h with (h |⟨o,h⟩)|h
 ·exact .inl (.inl (e _ _ h))
 ·exact .inl (.inr ⟨o,e _ _ h⟩)
 ·exact .inr h
section
variable {κ:Type}[DecidableEq κ]
end
theorem Same.made{H H1:Hp}{x dx C:Addr}(nx:H x=Option.none)(nd:H dx=Option.none)(k:∀b o,(upd (upd H dx (.own x)) x (.ins C dx [])) b=some o->b≠x->H1 b=some o):Same H H1:=fun b o e=>
 k b o (by rw [aM (aD e nx),aM (aD e nd)];exact e) (aD e nx)
end L2
end
section
section
namespace L2
open PySem PySem.Spec PyProof.Rows
open PySem.W (WData Codec OpenSpec Well WellAll ReadsW ReadsAllW)
mutual
inductive Dw(K:PySem.W.Frag)(H:Hp):V->WData->Prop
 |non:Dw K H .non .none
 |bl (b:Bool):Dw K H (.bl b) (.bool b)
 |int (i:Int):Dw K H (.int i) (.int i)
 |str (x:Str):Dw K H (.str x) (.str x)
 |byt (b:Array UInt8):Dw K H (.byt b) (.bytes b.toList)
 |lst {a:Addr} {xs:List V} {ds:List WData}:SqL K H a xs->DwAll K H xs ds->Dw K H (.ref a) (.list ds)
 |tup {a:Addr} {xs:List V} {ds:List WData}:SqT K H a xs->DwAll K H xs ds->Dw K H (.ref a) (.tuple ds)
inductive DwAll(K:PySem.W.Frag)(H:Hp):List V->List WData->Prop
 |nil:DwAll K H [] []
 |cons {v:V} {vs:List V} {d:WData} {ds:List WData}:Dw K H v d->DwAll K H vs ds->DwAll K H (v::vs) (d::ds)
end
theorem nW{K:PySem.W.Frag}{H:Hp}:∀ns:List Int,DwAll K H (ns.map V.int) (ns.map WData.int)
 |[]=>.nil
 |n::r=>.cons (.int n) (nW r)
theorem oF{K:PySem.W.Frag}{H:Hp}:∀(ns:List Int) (xs:List V),DwAll K H xs (ns.map WData.int)->xs=ns.map V.int
 |[],xs,h=>by
  cases h
  rfl
 |n::r,xs,h=>by
  cases h with
  |cons h1 h2=>
   cases h1
   rw [oF r _ h2] <;> rfl
section
variable {P:Program}{w:World}{K:PySem.W.Frag}{H:Hp}{h:Heap}{R:PySem.W.WRecords}{cl:Str->Option Addr}
theorem uR{a:Addr}{xs:List V}(hok:HOk P w H h)(KX:K.In h)(q:SqL K H a xs):∃(its:List Value) (o:Obj) (n:Nat),Vals xs its/\h.get? a=some o/\o.cls=.type "list"/\o.data=.seq its.toArray n:=by
 rcases q with q |⟨o,its,n,e,hc,_,hd,_,hv⟩
 ·obtain⟨_,its,n,hv,e⟩:=(show ObjOk P w H h a (.lst xs) from q.ok hok)
  exact⟨its,_,n,hv,e,rfl,rfl⟩
 ·exact⟨its.toList,o,n,hv,KX _ _ e,hc,by simp [hd]⟩
theorem uT{a:Addr}{xs:List V}(hok:HOk P w H h)(KX:K.In h)(q:SqT K H a xs):∃(its:List Value) (o:Obj) (n:Nat),Vals xs its/\h.get? a=some o/\o.cls=.type "tuple"/\o.data=.seq its.toArray n:=by
 rcases q with q |⟨o,its,n,e,hc,hd,_,hv⟩
 ·obtain⟨_,its,hv,o,e,hc,n,hd⟩:=(show ObjOk P w H h a (.tup xs) from q.ok hok)
  exact⟨its,o,n,hv,e,hc,hd⟩
 ·exact⟨its.toList,o,n,hv,KX _ _ e,hc,by simp [hd]⟩
mutual
theorem Dw.reads(hok:HOk P w H h)(KX:K.In h):∀(d:WData) (v:V) (u:Value),Dw K H v d->RelV v u->∃as,ReadsW R cl h u d as
 |.none,_,_,x,r=>by
  cases x
  cases r
  exact⟨_,ReadsW.none⟩
 |.bool b,_,_,x,r=>by
  cases x
  cases r
  exact⟨_,ReadsW.bool b⟩
 |.int i,_,_,x,r=>by
  cases x
  obtain⟨t,rfl⟩:=r
  exact⟨_,ReadsW.int i t⟩
 |.str s,_,_,x,r=>by
  cases x
  obtain⟨t,rfl⟩:=r
  exact⟨_,ReadsW.str s t⟩
 |.bytes b,_,_,x,r=>by
  cases x
  obtain⟨t,rfl⟩:=r
  exact⟨_,ReadsW.bytes _ t⟩
 |.list ds,_,_,x,r=>by
  cases x with
  |lst hs ha=>
   cases r
   obtain⟨its,o,n,rv,ho,hc,hd⟩:=uR hok KX hs
   obtain⟨as,hr⟩:=Dw.readsAll hok KX ds _ its ha rv
   exact⟨_,ReadsW.list ho hc hd hr⟩
 |.tuple ds,_,_,x,r=>by
  cases x with
  |tup hs ha=>
   cases r
   obtain⟨its,o,n,rv,ho,hc,hd⟩:=uT hok KX hs
   obtain⟨as,hr⟩:=Dw.readsAll hok KX ds _ its ha rv
   exact⟨_,ReadsW.tuple ho hc hd hr⟩
 |.float _,_,_,x,_=>by cases x
 |.dict _,_,_,x,_=>by cases x
 |.bytearray _,_,_,x,_=>by cases x
 |.set _,_,_,x,_=>by cases x
 |.frozenset _,_,_,x,_=>by cases x
 |.obj _ _,_,_,x,_=>by cases x
theorem Dw.readsAll(hok:HOk P w H h)(KX:K.In h):∀(ds:List WData) (vs:List V) (us:List Value),DwAll K H vs ds->Vals vs us->∃as,ReadsAllW R cl h us ds as
 |[],_,_,x,r=>by
  cases x
  cases r
  exact⟨_,ReadsAllW.nil⟩
 |d::ds,_,_,x,r=>by
  cases x with
  |cons h1 h2=>
   cases r with
   |cons r1 r2=>
    obtain⟨as,q1⟩:=Dw.reads hok KX d _ _ h1 r1
    obtain⟨bs,q2⟩:=Dw.readsAll hok KX ds _ _ h2 r2
    exact⟨_,ReadsAllW.cons q1 q2⟩
end
end
mutual
def plW:WData->Bool
 |.none=>true
 |.bool _=>true
 |.int _=>true
 |.str _=>true
 |.bytes _=>true
 |.list xs=>plWs xs
 |.tuple xs=>plWs xs
 |_=>false
def plWs:List WData->Bool
 |[]=>true
 |x::r=>plW x && plWs r
end
theorem lU{α:Type}{f:α->WData}(h:∀a,plW (f a)=true):∀l:List α,plWs (l.map f)=true
 |[]=>rfl
 |x::r=>by
  show (plW (f x) && plWs (r.map f))=true
  rw [h x,lU h r] <;> rfl
theorem ek:∀(c:Codec) (a:c.denote),plW (c.enc a)=true
 |.unit,_=>rfl
 |.bool,_=>rfl
 |.int _ _,_=>rfl
 |.nat _ _,_=>rfl
 |.u8,_=>rfl
 |.bytes _ _,_=>rfl
 |.text _ _ _ _,_=>rfl
 |.list _ _ c,a=>lU (fun x=>ek c x) a
 |.pair c d,a=>by
  show (plW (c.enc a.1) && (plW (d.enc a.2) && true))=true
  rw [ek c a.1,ek d a.2] <;> rfl
 |.triple c d e,a=>by
  show (plW (c.enc a.1) && (plW (d.enc a.2.1) && (plW (e.enc a.2.2) && true)))=true
  rw [ek c a.1,ek d a.2.1,ek e a.2.2] <;> rfl
 |.option c,none=>rfl
 |.option c,some x=>ek c x
theorem j2:∀(cs:List Codec) (a:Codec.denoteAll cs),plWs (Codec.encAll cs a)=true
 |[],_=>rfl
 |c::cs,a=>by
  show (plW (c.enc a.1) && plWs (Codec.encAll cs a.2))=true
  rw [ek c a.1,j2 cs a.2] <;> rfl
theorem fC:∀{xs:List WData} {d:WData},d∈xs->d.weight<=WData.weightAll xs
 |[],d,h=>absurd h (by simp)
 |x::r,d,h=>by
  show d.weight<=x.weight+1+WData.weightAll r
  rcases List.mem_cons.mp h with e |m
  ·rw [e]
   omega
  ·have z:=fC m
   omega
def toV:Value->V
 |.none=>.non
 |.bool b=>.bl b
 |.int i _=>.int i
 |.str x _=>.str x
 |.bytes b _=>.byt b
 |.ref a=>.ref a
 |_=>.non
def OkU(A:List Addr):Value->Prop
 |.none=>True
 |.bool _=>True
 |.int _ _=>True
 |.str _ _=>True
 |.bytes _ _=>True
 |.ref a=>a∈A
 |_=>False
theorem OkU.mono{A B:List Addr}(h:∀a∈A,a∈B):∀{u:Value},OkU A u->OkU B u:=fun {u} x=>by
 cases u with
 |ref a=>exact h a x
 |none=>trivial
 |bool b=>trivial
 |int i t=>trivial
 |str s t=>trivial
 |bytes b t=>trivial
 |_=>exact False.elim x
theorem tD{A:List Addr}{u:Value}(x:OkU A u):RelV (toV u) u:=by
 cases u with
 |ref a=>rfl
 |none=>rfl
 |bool b=>rfl
 |int i t=>exact⟨t,rfl⟩
 |str s t=>exact⟨t,rfl⟩
 |bytes b t=>exact⟨t,rfl⟩
 |_=>exact False.elim x
theorem dm{A:List Addr}:∀{vs:List Value},(∀u∈vs,OkU A u)->Vals (vs.map toV) vs
 |[],_=>.nil
 |u::r,h=>.cons (tD (h u (List.mem_cons_self ..))) (dm fun x hx=>h x (List.mem_cons_of_mem _ hx))
def ArgOb(h:Heap)(A:List Addr)(a:Addr):Prop:=∃vs:List Value,vs.length<=sizeLine/\(∀u∈vs,OkU A u)/\
 (h.get? a=some {cls:=.type "list",data:=.seq vs.toArray}\/h.get? a=some {cls:=.type "tuple",data:=.seq vs.toArray})
theorem ArgOb.mono{h:Heap}{A B:List Addr}{a:Addr}(k:∀a∈A,a∈B)(x:ArgOb h A a):ArgOb h B a:=by
 obtain⟨vs,h1,h2,h3⟩:=x
 exact⟨vs,h1,fun u hu=>(h2 u hu).mono k,h3⟩
theorem cW{P:Params}{h:Heap}:∀{vs:List Value} {ds:List WData},WellAll P h vs ds->vs.length=ds.length
 |_,_,.nil=>rfl
 |_,_,.cons _ b=>by
  show _+1=_+1
  rw [cW b]
theorem jM{P:Params}{h:Heap}{v:Value}{ds:List WData}(x:Well P h v (.list ds)):∃(a:Addr) (vs:List Value),v=.ref a/\h.get? a=some {cls:=.type "list",data:=.seq vs.toArray}/\WellAll P h vs ds:=by
 cases x with
 |list ho hall=>exact⟨_,_,rfl,ho,hall⟩
theorem jo{P:Params}{h:Heap}{v:Value}{ds:List WData}(x:Well P h v (.tuple ds)):∃(a:Addr) (vs:List Value),v=.ref a/\h.get? a=some {cls:=.type "tuple",data:=.seq vs.toArray}/\WellAll P h vs ds:=by
 cases x with
 |tuple ho hall=>exact⟨_,_,rfl,ho,hall⟩
theorem jz{P:Params}{h:Heap}{us:List Value}{d:WData}{ds:List WData}(x:WellAll P h us (d::ds)):∃(v:Value) (vs:List Value),us=v::vs/\Well P h v d/\WellAll P h vs ds:=by
 cases x with
 |cons a b=>exact⟨_,_,rfl,a,b⟩
theorem nR{n:Nat}(h:n<=1048576):n<=sizeLine:=Nat.le_trans h (by decide)
section
variable {P:Params}{h:Heap}
mutual
theorem sI:∀(d:WData) (v:Value),Well P h v d->plW d=true->d.weight<=1048576->∃A:List Addr,OkU A v/\∀a∈A,ArgOb h A a
 |.none,_,x,_,_=>by
  cases x
  exact⟨[],trivial,fun a m=>absurd m (by simp)⟩
 |.bool b,_,x,_,_=>by
  cases x
  exact⟨[],trivial,fun a m=>absurd m (by simp)⟩
 |.int i,_,x,_,_=>by
  cases x
  exact⟨[],trivial,fun a m=>absurd m (by simp)⟩
 |.str s,_,x,_,_=>by
  cases x
  exact⟨[],trivial,fun a m=>absurd m (by simp)⟩
 |.bytes b,_,x,_,_=>by
  cases x
  exact⟨[],trivial,fun a m=>absurd m (by simp)⟩
 |.list ds,_,x,p,z=>by
  obtain⟨a,vs,rfl,ho,hall⟩:=jM x
  have z2:WData.weightAll ds<=1048576:=z
  obtain⟨A,h1,h2⟩:=fR ds _ hall p fun d hd=>Nat.le_trans (fC hd) z2
  have k:∀b∈A,b∈a::A:=fun b hb=>List.mem_cons_of_mem _ hb
  refine⟨a::A,List.mem_cons_self ..,fun b hb=>?_⟩
  rcases List.mem_cons.mp hb with e |m
  ·rw [e]
   exact⟨vs,nR (by rw [cW hall];exact Nat.le_trans (PySem.W.length_le_weightAllW ds) z2),fun u hu=>(h1 u hu).mono k,.inl ho⟩
  ·exact (h2 b m).mono k
 |.tuple ds,_,x,p,z=>by
  obtain⟨a,vs,rfl,ho,hall⟩:=jo x
  have z2:WData.weightAll ds<=1048576:=z
  obtain⟨A,h1,h2⟩:=fR ds _ hall p fun d hd=>Nat.le_trans (fC hd) z2
  have k:∀b∈A,b∈a::A:=fun b hb=>List.mem_cons_of_mem _ hb
  refine⟨a::A,List.mem_cons_self ..,fun b hb=>?_⟩
  rcases List.mem_cons.mp hb with e |m
  ·rw [e]
   exact⟨vs,nR (by rw [cW hall];exact Nat.le_trans (PySem.W.length_le_weightAllW ds) z2),fun u hu=>(h1 u hu).mono k,.inr ho⟩
  ·exact (h2 b m).mono k
 |.float _,_,_,p,_=>Bool.noConfusion (show false=true from p)
 |.dict _,_,_,p,_=>Bool.noConfusion (show false=true from p)
 |.bytearray _,_,_,p,_=>Bool.noConfusion (show false=true from p)
 |.set _,_,_,p,_=>Bool.noConfusion (show false=true from p)
 |.frozenset _,_,_,p,_=>Bool.noConfusion (show false=true from p)
 |.obj _ _,_,_,p,_=>Bool.noConfusion (show false=true from p)
theorem fR:∀(ds:List WData) (vs:List Value),WellAll P h vs ds->plWs ds=true->(∀d∈ds,d.weight<=1048576)->∃A:List Addr,(∀u∈vs,OkU A u)/\∀a∈A,ArgOb h A a
 |[],_,x,_,_=>by
  cases x
  exact⟨[],fun u m=>absurd m (by simp),fun a m=>absurd m (by simp)⟩
 |d::ds,_,x,p,z=>by
  obtain⟨v,vs,rfl,x1,x2⟩:=jz x
  have q:plW d=true/\plWs ds=true:=Bool.and_eq_true_iff.mp p
  obtain⟨A,a1,a2⟩:=sI d v x1 q.1 (z d (List.mem_cons_self ..))
  obtain⟨B,b1,b2⟩:=fR ds vs x2 q.2 fun e he=>z e (List.mem_cons_of_mem _ he)
  have kA:∀b∈A,b∈A++B:=fun b hb=>List.mem_append.mpr (.inl hb)
  have kB:∀b∈B,b∈A++B:=fun b hb=>List.mem_append.mpr (.inr hb)
  refine⟨A++B,fun u hu=>?_,fun b hb=>?_⟩
  ·rcases List.mem_cons.mp hu with e |m
   ·rw [e]
    exact a1.mono kA
   ·exact (b1 u m).mono kB
  ·rcases List.mem_append.mp hb with m |m
   ·exact (a2 b m).mono kA
   ·exact (b2 b m).mono kB
end
end
def hoOf(o:Obj):Option HO:=match o.data with
 |.seq vs _=>if (o.cls==Value.type "list")=true then some (.frz o (.lst (vs.toList.map toV))) else some (.frz o (.tup (vs.toList.map toV)))
 |_=>none
def argH(K:PySem.W.Frag)(h:Heap)(A:List Addr):Hp:=fun b=>if b∈A then (if (K.lookup b).isNone=true then (h.get? b).bind hoOf else none) else none
def OnlyF(H:Hp):Prop:=∀b,H b=none\/∃o u,H b=some (.frz o u)
theorem mn(vs:List Value):hoOf {cls:=.type "list",data:=.seq vs.toArray}=some (.frz {cls:=.type "list",data:=.seq vs.toArray} (.lst (vs.map toV))):=by
 show (if (Value.type "list"==Value.type "list")=true then some (HO.frz {cls:=.type "list",data:=.seq vs.toArray} (.lst (vs.toArray.toList.map toV))) else some (HO.frz {cls:=.type "list",data:=.seq vs.toArray} (.tup (vs.toArray.toList.map toV))))=_
 rw [if_pos (beq_self_eq_true _)]
theorem mx(vs:List Value):hoOf {cls:=.type "tuple",data:=.seq vs.toArray}=some (.frz {cls:=.type "tuple",data:=.seq vs.toArray} (.tup (vs.map toV))):=by
 show (if (Value.type "tuple"==Value.type "list")=true then some (HO.frz {cls:=.type "tuple",data:=.seq vs.toArray} (.lst (vs.toArray.toList.map toV))) else some (HO.frz {cls:=.type "tuple",data:=.seq vs.toArray} (.tup (vs.toArray.toList.map toV))))=_
 rw [if_neg (by decide)]
section
variable {P:Program}{w:World}{K:PySem.W.Frag}{h:Heap}{A:List Addr}
theorem iq{b:Addr}{o:Obj}(hb:b∈A)(hk:K.lookup b=none)(e:h.get? b=some o):argH K h A b=hoOf o:=by
 unfold argH
 rw [if_pos hb,hk,if_pos (show (none:Option Obj).isNone=true from rfl),e] <;> rfl
theorem uq{b:Addr}{u:HO}(q:argH K h A b=some u):b∈A/\K.lookup b=none:=by
 unfold argH at q
 by_cases hb:b∈A
 ·rw [if_pos hb] at q
  cases hk:K.lookup b with
  |none=>exact⟨hb,rfl⟩
  |some o=>
   rw [hk,if_neg (by simp)] at q
   cases q
 ·rw [if_neg hb] at q
  cases q
theorem ie(ar:∀a∈A,ArgOb h A a){b:Addr}{u:HO}(q:argH K h A b=some u):K.lookup b=none/\∃vs:List Value,vs.length<=sizeLine/\(∀u∈vs,OkU A u)/\
  ((h.get? b=some {cls:=.type "list",data:=.seq vs.toArray}/\u=.frz {cls:=.type "list",data:=.seq vs.toArray} (.lst (vs.map toV)))\/
   (h.get? b=some {cls:=.type "tuple",data:=.seq vs.toArray}/\u=.frz {cls:=.type "tuple",data:=.seq vs.toArray} (.tup (vs.map toV)))):=by
 obtain⟨hb,hk⟩:=uq q
 obtain⟨vs,h1,h2,h3⟩:=ar b hb
 refine⟨hk,vs,h1,h2,?_⟩
 rcases h3 with e |e
 ·rw [iq hb hk e,mn] at q
  exact .inl ⟨e,(Option.some.inj q).symm⟩
 ·rw [iq hb hk e,mx] at q
  exact .inr ⟨e,(Option.some.inj q).symm⟩
theorem pb(ar:∀a∈A,ArgOb h A a):OnlyF (argH K h A):=fun b=>by
 cases q:argH K h A b with
 |none=>exact .inl rfl
 |some u=>
  obtain⟨_,vs,_,_,⟨_,e⟩|⟨_,e⟩⟩:=ie ar q
  ·exact .inr ⟨_,_,by rw [e]⟩
  ·exact .inr ⟨_,_,by rw [e]⟩
theorem t7(ar:∀a∈A,ArgOb h A a):HOk P w (argH K h A) h:=fun b u q=>by
 obtain⟨_,vs,h1,h2,⟨e,rfl⟩|⟨e,rfl⟩⟩:=ie ar q
 ·exact⟨e,by rw [List.length_map];exact h1,vs,_,dm h2,e⟩
 ·exact⟨e,by rw [List.length_map];exact h1,vs,dm h2,_,e,rfl,_,rfl⟩
theorem hZ{c c':Value}{vs us:List Value}(e:(some {cls:=c,data:=.seq vs.toArray}:Option Obj)=some {cls:=c',data:=.seq us.toArray}):c=c'/\vs=us:=by
 have e1:=Option.some.inj e
 have e2:c=c':=congrArg Obj.cls e1
 have e3:Data.seq vs.toArray=Data.seq us.toArray:=congrArg Obj.data e1
 injection e3 with e4
 refine⟨e2,?_⟩
 have e5:=congrArg Array.toList e4
 simpa using e5
theorem argL(KX:K.In h)(ar:∀a∈A,ArgOb h A a){a:Addr}{vs:List Value}(ha:a∈A)(e:h.get? a=some {cls:=.type "list",data:=.seq vs.toArray}):(∀u∈vs,OkU A u)/\SqL K (argH K h A) a (vs.map toV):=by
 obtain⟨us,h1,h2,h3⟩:=ar a ha
 have hu:us=vs:=by
  rcases h3 with q |q
  ·rw [e] at q
   exact (hZ q).2.symm
  ·rw [e] at q
   exact absurd (Value.type.inj (hZ q).1) (by decide)
 subst hu
 refine⟨h2,?_⟩
 cases hk:K.lookup a with
 |none=>exact .inl (.inr ⟨_,by rw [iq ha hk e,mn]⟩)
 |some o=>
  have e2:=KX a o hk
  rw [e] at e2
  obtain rfl:=Option.some.inj e2
  exact .inr ⟨_,us.toArray,_,hk,rfl,rfl,rfl,by rw [List.size_toArray];exact h1,by simpa using dm h2⟩
theorem argT(KX:K.In h)(ar:∀a∈A,ArgOb h A a){a:Addr}{vs:List Value}(ha:a∈A)(e:h.get? a=some {cls:=.type "tuple",data:=.seq vs.toArray}):(∀u∈vs,OkU A u)/\SqT K (argH K h A) a (vs.map toV):=by
 obtain⟨us,h1,h2,h3⟩:=ar a ha
 have hu:us=vs:=by
  rcases h3 with q |q
  ·rw [e] at q
   exact absurd (Value.type.inj (hZ q).1) (by decide)
  ·rw [e] at q
   exact (hZ q).2.symm
 subst hu
 refine⟨h2,?_⟩
 cases hk:K.lookup a with
 |none=>exact .inl (.inr ⟨_,by rw [iq ha hk e,mx]⟩)
 |some o=>
  have e2:=KX a o hk
  rw [e] at e2
  obtain rfl:=Option.some.inj e2
  exact .inr ⟨_,us.toArray,_,hk,rfl,rfl,by rw [List.size_toArray];exact h1,by simpa using dm h2⟩
mutual
theorem uN{Pm:Params}(KX:K.In h)(ar:∀a∈A,ArgOb h A a):∀(d:WData) (v:Value),Well Pm h v d->plW d=true->OkU A v->Dw K (argH K h A) (toV v) d
 |.none,_,x,_,_=>by
  cases x
  exact .non
 |.bool b,_,x,_,_=>by
  cases x
  exact .bl b
 |.int i,_,x,_,_=>by
  cases x
  exact .int i
 |.str s,_,x,_,_=>by
  cases x
  exact .str s
 |.bytes b,_,x,_,_=>by
  cases x
  have z:=Dw.byt (K:=K) (H:=argH K h A) b.toArray
  exact z
 |.list ds,_,x,p,hu=>by
  obtain⟨a,vs,rfl,ho,hall⟩:=jM x
  obtain⟨h2,hs⟩:=argL KX ar hu ho
  exact .lst hs (kO KX ar ds _ hall p h2)
 |.tuple ds,_,x,p,hu=>by
  obtain⟨a,vs,rfl,ho,hall⟩:=jo x
  obtain⟨h2,hs⟩:=argT KX ar hu ho
  exact .tup hs (kO KX ar ds _ hall p h2)
 |.float _,_,_,p,_=>Bool.noConfusion (show false=true from p)
 |.dict _,_,_,p,_=>Bool.noConfusion (show false=true from p)
 |.bytearray _,_,_,p,_=>Bool.noConfusion (show false=true from p)
 |.set _,_,_,p,_=>Bool.noConfusion (show false=true from p)
 |.frozenset _,_,_,p,_=>Bool.noConfusion (show false=true from p)
 |.obj _ _,_,_,p,_=>Bool.noConfusion (show false=true from p)
theorem kO{Pm:Params}(KX:K.In h)(ar:∀a∈A,ArgOb h A a):∀(ds:List WData) (vs:List Value),WellAll Pm h vs ds->plWs ds=true->(∀u∈vs,OkU A u)->DwAll K (argH K h A) (vs.map toV) ds
 |[],_,x,_,_=>by
  cases x
  exact .nil
 |d::ds,_,x,p,hu=>by
  obtain⟨v,vs,rfl,x1,x2⟩:=jz x
  have q:plW d=true/\plWs ds=true:=Bool.and_eq_true_iff.mp p
  exact .cons (uN KX ar d v x1 q.1 (hu _ (List.mem_cons_self ..))) (kO KX ar ds vs x2 q.2 fun u m=>hu u (List.mem_cons_of_mem _ m))
end
end
theorem pF{P:Program}{w:World}{K:PySem.W.Frag}{mg mb:Str->Option Value}{CX:CXT}{k:Nat}{fa:Addr}{fd:FuncData}{ps:List Str}{sp:Sp}{s₁:Shared}{vals:List Value}{ds:List WData}{R:PySem.W.WRecords}{cl:Str->Option Addr}{d0:WData}
  (KX:K.In s₁.heap) (hns:s₁.heap.Ns mainGlobals mg) (hb:s₁.heap.Ns builtinsNs mb) (hbb:∀x:Str,x≠"__name__"->mb x=bootBuiltins x) (hlim:s₁.heap.NoLimit) (hg:s₁.gens=#[])
  (hwl:WellAll w.params s₁.heap vals ds) (hpl:plWs ds=true) (hwt:∀d∈ds,d.weight<=1048576) (hr:Room k callerA)
  (F:∀base:Heap,K.In base->base.Ns mainGlobals mg->FnOk P w K mg base CX k fa fd ps sp) (hbind:∀(s:Shared) (us:List Value),us.length=ps.length->BindsTo s fd ⟨us,[]⟩ (ps.zip us)) (hlen:ds.length=ps.length)
  (hsp:∀(H:Hp) (xs:List V),OnlyF H->DwAll K H xs ds->sp xs H (fun v H'=>Dw K H' v d0) fun _ _ _=>False)
  (hCX:∀H e s',CX [] H s₁ (fun _ _ _=>False) e s'->False):
  codeAny (model P w) callerA (.call (.ref fa) ⟨vals,[]⟩) (fun r s'=>∃u as,r=.ok (.ret u)/\ReadsW R cl s'.heap u d0 as/\OldK s₁.heap s'.heap/\s'.os=s₁.os/\AllBare s'.gens) s₁:=by
 obtain⟨A,ho,ar⟩:=fR ds vals hwl hpl hwt
 have hO:OnlyF (argH K s₁.heap A):=pb ar
 have hok:HOk P w (argH K s₁.heap A) s₁.heap:=t7 ar
 have hS:=kO KX ar ds vals hwl hpl ho
 have hV:=dm ho
 have hK:∀b u,argH K s₁.heap A b=some u->K.lookup b=none:=fun b u q=>(ie ar q).1
 have noA:∀{b:Addr} {o:Obj} {es:Array DictEntry} {ep:Nat},s₁.heap.get? b=some o->o.data=.dict es ep->argH K s₁.heap A b=none:=fun {b o es ep} e d=>by
  cases q:argH K s₁.heap A b with
  |none=>rfl
  |some u=>
   obtain⟨_,vs,_,_,⟨e2,_⟩|⟨e2,_⟩⟩:=ie ar q
   ·rw [e2] at e
    cases e
    have d':Data.seq vs.toArray _=Data.dict es ep:=d
    cases d'
   ·rw [e2] at e
    cases e
    have d':Data.seq vs.toArray _=Data.dict es ep:=d
    cases d'
 generalize argH K s₁.heap A=H at hO hok hS hK noA
 have base_of:∀{b:Addr} {o:Obj},s₁.heap.get? b=some o->H b=none->(hidT s₁.heap H).get? b=some o:=fun e n=>rB e n
 have nsK:∀{b:Addr} {m:Str->Option Value},s₁.heap.Ns b m->(hidT s₁.heap H).Ns b m:=fun {b m} ⟨o,es,ep,e,d,r⟩=>⟨o,es,ep,base_of e (noA e d),d,r⟩
 have nK:∀b o,K.lookup b=some o->H b=none:=fun b o e=>by
  cases q:H b with
  |none=>rfl
  |some u=>
   rw [hK b u q] at e
   cases e
 have hKb:K.In (hidT s₁.heap H):=fun b o e=>base_of (KX b o e) (nK b o e)
 have hM:Mod K mg (hidT s₁.heap H):=⟨hKb,nsK hns,⟨mb,nsK hb,hbb⟩,let ⟨mc,h1,h2⟩:=hlim;⟨mc,nsK h1,h2⟩⟩
 have e0:Env0 P w K mg (hidT s₁.heap H) callerA [] s₁ H:=⟨rfl,hM,fun b o e=>tS e,Nat.le_of_eq (ph _ _),trivial,fun b hb=>absurd (show b∈([]:List Addr) from hb) (by simp),hok,.of_eq hg⟩
 have hl:vals.length=ps.length:=by rw [cW hwl];exact hlen
 refine codeAny_mono ((F _ hKb (nsK hns)).run callerA [] s₁ H ⟨vals,[]⟩ vals (vals.map toV) _ _ hr e0 (hbind s₁ vals hl) hV (hsp H _ hO hS)) fun r s' x=>?_
 cases r with
 |error e=>exact (hCX H e s' x).elim
 |ok fl=>
  cases fl with
  |next=>exact False.elim x
  |brk=>exact False.elim x
  |cont=>exact False.elim x
  |ret u=>
   obtain⟨v,H',os,bare,un,hok',r',q⟩:=x
   have kept:∀b o,s₁.heap.get? b=some o->s'.heap.get? b=some o:=fun b o e=>by
    cases q2:H b with
    |none=>exact un.keep b o e q2 (by intro z;exact absurd (show b∈([]:List Addr) from z) (by simp)) (by simp)
    |some u2=>
     rcases hO b with z |⟨ob,u3,z⟩
     ·rw [q2] at z
      cases z
     ·have z2:=un.frzs b ob _ z
      obtain⟨e1,_⟩:=hok b _ z
      obtain⟨e2,_⟩:=hok' b _ z2
      rw [e] at e1
      cases e1
      exact e2
   have KX':K.In s'.heap:=fun b o e=>kept b o (KX b o e)
   obtain⟨as,hrd⟩:=Dw.reads (R:=R) (cl:=cl) hok' KX' d0 v u q r'
   exact⟨u,as,rfl,hrd,OldK.of_keep kept,os,bare⟩
theorem iE{ds:List WData}(h:WData.layableAll ds=true):∀d∈ds,d.weight<=1048576:=fun d hd=>
 (PySem.W.layableW_iff.mp (List.all_eq_true.mp h d hd)).2.2
theorem iF:∀(cs:List Codec) (a:Codec.denoteAll cs),(Codec.encAll cs a).length=cs.length
 |[],_=>rfl
 |c::cs,a=>by
  show (Codec.encAll cs a.2).length+1=cs.length+1
  rw [iF cs a.2]
theorem pG{r:OpenSpec}{k:Nat}{q:Program}{loose:List Str}{XP:(Str->Option Value)->Heap->Prop}{YP:World->Heap->Prop}{d:DefRec}{K:Params->PySem.W.Frag}{CX:World->CXT}{ps:List Str}{sp:World->Sp}
  (hwell:r.wellSaid=true) (hdf:d.params.defaults=[]) (hlen:r.args.length=ps.length) (hr:Room k callerA)
  (hY:∀(w:World) (h:Heap),YP w h->(K w.params).In h)
  (F:∀(w:World) (mg:Str->Option Value) (fa:Addr) (h:Heap),YP w h->(K w.params).In h->h.Ns mainGlobals mg->mg d.name=some (.ref fa)->
   ∃fd:FuncData,(∀(s:Shared) (us:List Value),us.length=ps.length->BindsTo s fd ⟨us,[]⟩ (ps.zip us))/\
    ∀base:Heap,(K w.params).In base->base.Ns mainGlobals mg->FnOk r.prog w (K w.params) mg base (CX w) k fa fd ps (sp w))
  (hsp:∀(w:World) (H:Hp) (xs:List V) (a:Codec.denoteAll r.args),OnlyF H->Codec.withinAll r.args a=true->Codec.app r.args r.asked a=true->DwAll (K w.params) H xs (Codec.encAll r.args a)->
   sp w xs H (fun v H'=>Dw (K w.params) H' v (r.ret.enc (Codec.app r.args r.f a))) fun _ _ _=>False)
  (hCX:∀(w:World) (H:Hp) (s:Shared) (e:Value) (s':Shared),CX w [] H s (fun _ _ _=>False) e s'->False):
  PySem.W.WalkOS q loose XP YP r d [] (fun f vs=>PySem.call f vs):=by
 intro w s_0 s₁ mg mb G Y fa o pm cd doc dV kV ho hd hcd hD hmg hg args vals as hpre hlay hrd hwl hlo
 obtain⟨a,e1,e2⟩:=PySem.W.os_pre_some hpre
 obtain⟨e3,hwi⟩:=Codec.encAll_of_decAll r.args args a e1
 subst e3
 have KX:=hY w _ Y
 obtain⟨fd,hb,hF⟩:=F w mg fa _ Y KX G.T.g hmg
 refine PySem.W.enter_call (codeAny_mono (pF (R:=[]) (cl:=classAt s_0.heap) (d0:=r.ret.enc (Codec.app r.args r.f a)) KX G.T.g G.T.b G.T.builtins G.T.nolimit hg hwl (j2 _ _) (iE hlay) hr hF hb (by rw [iF];exact hlen)
  (fun H xs hO hS=>hsp w H xs a hO hwi e2 hS) fun H e s'=>hCX w H s₁ e s') fun r' s' hq=>?_)
 obtain⟨u,as',rfl,h1,h2,h3,h4⟩:=hq
 exact⟨.inl ⟨u,_,as',rfl,fun _=>rfl,h1,(OpenSpec.post_iff hwell hwi _ _).mpr rfl,fun z=>Bool.noConfusion (show false=true from z)⟩,h2,h3,h4⟩
theorem mK{r:OpenSpec}{k:Nat}{q:Program}{loose:List Str}{XP:(Str->Option Value)->Heap->Prop}{YP:World->Heap->Prop}{d:DefRec}{K:Params->PySem.W.Frag}{CX:CXT}{ps:List Str}{sp:PySem.W.Frag->Sp}
  (hwell:r.wellSaid=true) (hdf:d.params.defaults=[]) (hlen:r.args.length=ps.length) (hr:Room k callerA)
  (hY:∀(w:World) (h:Heap),YP w h->(K w.params).In h)
  (F:∀(w:World) (mg:Str->Option Value) (fa:Addr) (h:Heap),YP w h->(K w.params).In h->h.Ns mainGlobals mg->mg d.name=some (.ref fa)->
   ∃fd:FuncData,(∀(s:Shared) (us:List Value),us.length=ps.length->BindsTo s fd ⟨us,[]⟩ (ps.zip us))/\
    ∀base:Heap,(K w.params).In base->base.Ns mainGlobals mg->FnOk r.prog w (K w.params) mg base CX k fa fd ps (sp (K w.params)))
  (hsp:∀(K:PySem.W.Frag) (H:Hp) (xs:List V) (a:Codec.denoteAll r.args),OnlyF H->Codec.withinAll r.args a=true->Codec.app r.args r.asked a=true->DwAll K H xs (Codec.encAll r.args a)->
   sp K xs H (fun v H'=>Dw K H' v (r.ret.enc (Codec.app r.args r.f a))) fun _ _ _=>False)
  (hCX:∀(H:Hp) (s:Shared) (e:Value) (s':Shared),CX [] H s (fun _ _ _=>False) e s'->False):
  PySem.W.WalkOS q loose XP YP r d [] (fun f vs=>PySem.call f vs):=
 pG (K:=K) (CX:=fun _=>CX) (sp:=fun w=>sp (K w.params)) hwell hdf hlen hr hY F (fun w H xs a h1 h2 h3 h4=>hsp (K w.params) H xs a h1 h2 h3 h4) fun _ H s e s'=>hCX H s e s'
end L2
end
end
section
namespace Fs
def mg(x y:Int × Int):Int × Int:=if x.1<y.1 then x else if y.1<x.1 then y else (x.1,x.2+y.2)
def cnt(c:Int):List (Int × Int)->Int
 |[]=>0
 |x::r=>(if x.1=c then x.2 else 0)+cnt c r
theorem cnt_append(c:Int):∀(l r:List (Int × Int)),cnt c (l++r)=cnt c l+cnt c r
 |[],r=>by simp [cnt]
 |x::l,r=>by simp only [List.cons_append,cnt,cnt_append c l r];omega
theorem ed(c:Int):∀(l:List (Int × Int)),(∀x∈l,x.1≠c)->cnt c l=0
 |[],_=>rfl
 |x::l,h=>by
  have h1:=h x (by simp)
  simp only [cnt,if_neg h1,ed c l (fun y hy=>h y (by simp [hy]))];rfl
theorem fk(c:Int):∀(l:List (Int × Int)),(∀x∈l,0<=x.2)->0<=cnt c l
 |[],_=>by simp [cnt]
 |x::l,h=>by
  have h1:=h x (by simp)
  have h2:=fk c l (fun y hy=>h y (by simp [hy]))
  simp only [cnt];split <;> omega
theorem oN(c:Int):∀(l:List (Int × Int)),(∀x∈l,1<=x.2)->(∃x∈l,x.1=c)->1<=cnt c l
 |[],_,h=>by obtain⟨x,hx,_⟩:=h;simp at hx
 |x::l,h,e=>by
  have h1:=h x (by simp)
  have h2:=fk c l (fun y hy=>by have:=h y (by simp [hy]);omega)
  simp only [cnt]
  by_cases q:x.1=c
  ·rw [if_pos q];omega
  ·rw [if_neg q]
   have:=oN c l (fun y hy=>h y (by simp [hy])) (by
    obtain⟨y,hy,e⟩:=e
    rcases List.mem_cons.mp hy with rfl |hy
    ·exact (q e).elim
    ·exact⟨y,hy,e⟩)
   omega
structure Sm(far b:Int)(l:List (Int × Int))(v:Int × Int):Prop where
 bd:∀x∈l,-b<=x.1/\x.1<=b
 ps:∀x∈l,1<=x.2
 em:l=[]->v.2=0/\far-b<=v.1
 at_:l≠[]->∃x∈l,x.1=v.1
 le:∀x∈l,v.1<=x.1
 ct:l≠[]->v.2=cnt v.1 l
theorem Sm.ways_nonneg{far b l v}(h:Sm far b l v):0<=v.2:=by
 by_cases e:l=[]
 ·rw [(h.em e).1];exact Int.le_refl _
 ·rw [h.ct e];exact fk _ _ fun x hx=>by have:=h.ps x hx;omega
theorem Sm.ways_pos{far b l v}(h:Sm far b l v)(e:l≠[]):1<=v.2:=by
 rw [h.ct e];exact oN _ _ h.ps (h.at_ e)
theorem Sm.lo{far b l v}(h:Sm far b l v)(hb:0<=b)(hf:0<=far):- b<=v.1:=by
 by_cases e:l=[]
 ·have:=(h.em e).2;omega
 ·obtain⟨x,hx,q⟩:=h.at_ e
  have:=h.bd x hx;omega
theorem Sm.hi{far b l v}(h:Sm far b l v)(e:l≠[]):v.1<=b:=by
 obtain⟨x,hx,q⟩:=h.at_ e
 have:=h.bd x hx;omega
theorem Sm.mono{far b b' l v}(h:Sm far b l v)(q:b<=b'):Sm far b' l v:=
 ⟨fun x hx=>by have:=h.bd x hx;omega,h.ps,fun e=>by have:=h.em e;exact⟨this.1,by omega⟩,h.at_,h.le,h.ct⟩
theorem Sm.nil{far b:Int}{v:Int × Int}(h1:v.2=0)(h2:far-b<=v.1):Sm far b [] v:=
 ⟨by simp,by simp,fun _=>⟨h1,h2⟩,fun h=>(h rfl).elim,by simp,fun h=>(h rfl).elim⟩
theorem Sm.one{far b c n:Int}(h1:-b<=c)(h2:c<=b)(h3:1<=n):Sm far b [(c,n)] (c,n):=by
 refine⟨?_,?_,by simp,fun _=>⟨(c,n),by simp⟩,by simp,fun _=>by simp [cnt]⟩
 ·intro x hx;simp at hx;subst hx;exact⟨h1,h2⟩
 ·intro x hx;simp at hx;subst hx;exact h3
theorem Sm.append{far b l r v u}(h:Sm far b l v)(g:Sm far b r u)(hb:2*b<far):Sm far b (l++r) (mg v u):=by
 have bd:∀x∈l++r,-b<=x.1/\x.1<=b:=fun x hx=>by
  rcases List.mem_append.mp hx with q |q
  ·exact h.bd x q
  ·exact g.bd x q
 have ps:∀x∈l++r,1<=x.2:=fun x hx=>by
  rcases List.mem_append.mp hx with q |q
  ·exact h.ps x q
  ·exact g.ps x q
 by_cases e1:l=[]
 ·subst e1
  have h1:=h.em rfl
  by_cases e2:r=[]
  ·subst e2
   have g1:=g.em rfl
   refine⟨by simpa using bd,by simpa using ps,fun _=>?_,fun q=>(q rfl).elim,by simp,fun q=>(q rfl).elim⟩
   unfold mg
   split
   ·exact h1
   ·split
    ·exact g1
    ·exact⟨by show v.2+u.2=0;omega,h1.2⟩
  ·have g1:=g.hi e2
   have:mg v u=u:=by
    unfold mg
    rw [if_neg (by omega),if_pos (by omega)]
   rw [this,List.nil_append];exact g
 ·have h1:=h.hi e1
  by_cases e2:r=[]
  ·subst e2
   have g1:=g.em rfl
   have:mg v u=v:=by
    unfold mg
    rw [if_pos (by omega)]
   rw [this,List.append_nil];exact h
  ·refine⟨bd,ps,fun q=>(e1 (List.append_eq_nil_iff.mp q).1).elim,fun _=>?_,fun x hx=>?_,fun _=>?_⟩
   ·obtain⟨x,hx,ex⟩:=h.at_ e1
    obtain⟨y,hy,ey⟩:=g.at_ e2
    unfold mg
    split
    ·exact⟨x,by simp [hx],ex⟩
    ·split
     ·exact⟨y,by simp [hy],ey⟩
     ·exact⟨x,by simp [hx],ex⟩
   ·unfold mg
    rcases List.mem_append.mp hx with q |q
    ·have:=h.le x q
     split
     ·exact this
     ·split <;> (try simp only) <;> omega
    ·have:=g.le x q
     split
     ·omega
     ·split <;> (try simp only) <;> omega
   ·rw [cnt_append]
    unfold mg
    split
    ·rename_i q
     rw [h.ct e1,ed v.1 r (fun x hx=>by have:=g.le x hx;omega)];omega
    ·split
     ·rename_i q
      rw [g.ct e2,ed u.1 l (fun x hx=>by have:=h.le x hx;omega)];omega
     ·rename_i q1 q2
      have e:v.1=u.1:=by omega
      show v.2+u.2=cnt v.1 l+cnt v.1 r
      rw [h.ct e1,g.ct e2,e]
theorem gD(c d k:Int):∀l:List (Int × Int),cnt (c+d) (l.map fun x=>(x.1+d,k*x.2))=k*cnt c l
 |[]=>by simp [cnt]
 |x::l=>by
  simp only [List.map_cons,cnt,gD c d k l]
  by_cases e:x.1=c
  ·rw [if_pos (by omega),if_pos e,Int.mul_add]
  ·rw [if_neg (by omega),if_neg e];simp
theorem Sm.shift{far b l v}(h:Sm far b l v)(d k b':Int)(hk:1<=k)(h1:b+d<=b')(h2:b-d<=b'):Sm far b' (l.map fun x=>(x.1+d,k*x.2)) (v.1+d,k*v.2):=by
 have ne:(l.map fun x=>(x.1+d,k*x.2))≠[]->l≠[]:=fun q e=>by subst e;exact q rfl
 refine⟨fun x hx=>?_,fun x hx=>?_,fun e=>?_,fun e=>?_,fun x hx=>?_,fun e=>?_⟩
 ·obtain⟨y,hy,rfl⟩:=List.mem_map.mp hx
  have:=h.bd y hy
  show -b'<=y.1+d/\y.1+d<=b'
  omega
 ·obtain⟨y,hy,rfl⟩:=List.mem_map.mp hx
  have:=h.ps y hy
  show 1<=k*y.2
  have:=Int.mul_le_mul hk this (by omega) (by omega)
  omega
 ·have e':l=[]:=List.map_eq_nil_iff.mp e
  have:=h.em e'
  refine⟨?_,by show far-b'<=v.1+d;omega⟩
  show k*v.2=0
  rw [this.1];simp
 ·obtain⟨y,hy,q⟩:=h.at_ (ne e)
  exact⟨_,List.mem_map.mpr ⟨y,hy,rfl⟩,by show y.1+d=v.1+d;omega⟩
 ·obtain⟨y,hy,rfl⟩:=List.mem_map.mp hx
  have:=h.le y hy
  show v.1+d<=y.1+d
  omega
 ·show k*v.2=cnt (v.1+d) _
  rw [gD,h.ct (ne e)]
def prod(l r:List (Int × Int)):List (Int × Int):=l.flatMap fun x=>r.map fun y=>(x.1+y.1,x.2*y.2)
theorem gU(c d:Int):∀(l r:List (Int × Int)),(∀x∈l,c<=x.1)->(∀y∈r,d<=y.1)->cnt (c+d) (prod l r)=cnt c l*cnt d r
 |[],r,_,_=>by simp [prod,cnt]
 |x::l,r,h1,h2=>by
  have ih:=gU c d l r (fun y hy=>h1 y (by simp [hy])) h2
  unfold prod at ih ⊢
  rw [List.flatMap_cons,cnt_append,ih]
  have hx:=h1 x (by simp)
  simp only [cnt]
  by_cases e:x.1=c
  ·rw [if_pos e,Int.add_mul]
   congr 1
   have:=gD d x.1 x.2 r
   rw [<-this,e,Int.add_comm c d]
   congr 1
   apply List.map_congr_left
   intro y _
   rw [Int.add_comm y.1 c]
  ·rw [if_neg e,Int.zero_add,ed,Int.zero_add]
   intro z hz
   obtain⟨y,hy,rfl⟩:=List.mem_map.mp hz
   have:=h2 y hy
   show ¬x.1+y.1=c+d
   omega
theorem Sm.prod{far b b1 b2 l r v u}(h:Sm far b1 l v)(g:Sm far b2 r u)(hb:b1+b2<=b)(h1:0<=b1)(h2:0<=b2)(hf:0<=far):Sm far b (Fs.prod l r) (v.1+u.1,v.2*u.2):=by
 have mem:∀z,z∈Fs.prod l r↔∃x∈l,∃y∈r,z=(x.1+y.1,x.2*y.2):=fun z=>by
  unfold Fs.prod
  rw [List.mem_flatMap]
  constructor
  ·rintro⟨x,hx,q⟩
   obtain⟨y,hy,rfl⟩:=List.mem_map.mp q
   exact⟨x,hx,y,hy,rfl⟩
  ·rintro⟨x,hx,y,hy,rfl⟩
   exact⟨x,hx,List.mem_map.mpr ⟨y,hy,rfl⟩⟩
 have ne:Fs.prod l r≠[]->l≠[]/\r≠[]:=fun q=>⟨fun e=>by subst e;exact q rfl,fun e=>by
  subst e
  apply q
  rw [List.eq_nil_iff_forall_not_mem]
  intro z hz
  obtain⟨x,hx,y,hy,_⟩:=(mem z).mp hz
  simp at hy⟩
 refine⟨fun z hz=>?_,fun z hz=>?_,fun e=>?_,fun e=>?_,fun z hz=>?_,fun e=>?_⟩
 ·obtain⟨x,hx,y,hy,rfl⟩:=(mem z).mp hz
  have:=h.bd x hx
  have:=g.bd y hy
  show -b<=x.1+y.1/\x.1+y.1<=b
  omega
 ·obtain⟨x,hx,y,hy,rfl⟩:=(mem z).mp hz
  have p:=h.ps x hx
  have q:=g.ps y hy
  show 1<=x.2*y.2
  have:=Int.mul_le_mul p q (by omega) (by omega)
  omega
 ·have lo1:=h.lo h1 hf
  have lo2:=g.lo h2 hf
  by_cases e1:l=[]
  ·have q:=h.em e1
   exact⟨by show v.2*u.2=0;rw [q.1];simp,by show far-b<=v.1+u.1;omega⟩
  ·by_cases e2:r=[]
   ·have q:=g.em e2
    exact⟨by show v.2*u.2=0;rw [q.1];simp,by show far-b<=v.1+u.1;omega⟩
   ·obtain⟨x,hx⟩:=List.exists_mem_of_ne_nil _ e1
    obtain⟨y,hy⟩:=List.exists_mem_of_ne_nil _ e2
    have:=(mem _).mpr ⟨x,hx,y,hy,rfl⟩
    rw [e] at this
    simp at this
 ·obtain⟨e1,e2⟩:=ne e
  obtain⟨x,hx,q⟩:=h.at_ e1
  obtain⟨y,hy,q'⟩:=g.at_ e2
  exact⟨_,(mem _).mpr ⟨x,hx,y,hy,rfl⟩,by show x.1+y.1=v.1+u.1;omega⟩
 ·obtain⟨x,hx,y,hy,rfl⟩:=(mem z).mp hz
  have:=h.le x hx
  have:=g.le y hy
  show v.1+u.1<=x.1+y.1
  omega
 ·obtain⟨e1,e2⟩:=ne e
  show v.2*u.2=cnt (v.1+u.1) _
  rw [gU _ _ _ _ h.le g.le,h.ct e1,g.ct e2]
structure En{α:Type}(L:List α)(P:α->Prop):Prop where
 nd:L.Nodup
 mem:∀t,t∈L↔P t
theorem jg{α:Type}[DecidableEq α]{l r:List α}(h1:l.Nodup)(h2:r.Nodup)(h:∀x,x∈l↔x∈r):l.Perm r:=by
 rw [List.perm_iff_count]
 intro a
 rw [List.Nodup.count h1,List.Nodup.count h2]
 by_cases q:a∈l
 ·rw [if_pos q,if_pos ((h a).mp q)]
 ·rw [if_neg q,if_neg (fun z=>q ((h a).mpr z))]
theorem En.perm{α:Type}{P:α->Prop}{l r:List α}(h:En l P)(g:En r P):l.Perm r:=by
 classical
 exact jg h.nd g.nd fun x=>(h.mem x).trans (g.mem x).symm
theorem eF{α:Type}:∀{l r:List α},l.Nodup->(∀x∈l,x∈r)->l.length<=r.length
 |[],_,_,_=>Nat.zero_le _
 |a::l,r,h,q=>by
  classical
  have ha:a∈r:=q a (by simp)
  have:=eF (l:=l) (r:=r.erase a) (List.nodup_cons.mp h).2 (fun x hx=>by
   have ne:x≠a:=fun e=>(List.nodup_cons.mp h).1 (e ▸ hx)
   exact (List.mem_erase_of_ne ne).mpr (q x (by simp [hx])))
  rw [List.length_erase_of_mem ha] at this
  have:0<r.length:=List.length_pos_of_mem ha
  simp only [List.length_cons]
  omega
def Is{α:Type}(far b:Int)(P:α->Prop)(c w:α->Int)(v:Int × Int):Prop:=
 ∃L:List α,En L P/\Sm far b (L.map fun t=>(c t,w t)) v
section
variable {α β γ:Type}{far b b' b1 b2:Int}{P P1 P2:α->Prop}{c w c' w':α->Int}{v v1 v2:Int × Int}
theorem Is.mono(h:Is far b P c w v)(q:b<=b'):Is far b' P c w v:=by
 obtain⟨L,e,s⟩:=h
 exact⟨L,e,s.mono q⟩
theorem Is.congr{P':α->Prop}(h:Is far b P c w v)(hp:∀t,P t↔P' t)(hc:∀t,P t->c t=c' t)(hw:∀t,P t->w t=w' t):Is far b P' c' w' v:=by
 obtain⟨L,e,s⟩:=h
 refine⟨L,⟨e.nd,fun t=>(e.mem t).trans (hp t)⟩,?_⟩
 have:(L.map fun t=>(c' t,w' t))=L.map fun t=>(c t,w t):=by
  apply List.map_congr_left
  intro t ht
  rw [hc t ((e.mem t).mp ht),hw t ((e.mem t).mp ht)]
 rw [this];exact s
theorem Is.ways_nonneg(h:Is far b P c w v):0<=v.2:=by
 obtain⟨L,e,s⟩:=h
 exact s.ways_nonneg
theorem Is.none_of_zero(h:Is far b P c w v)(q:¬v.2 > 0):∀t,¬P t:=by
 obtain⟨L,e,s⟩:=h
 intro t ht
 have hm:=(e.mem t).mpr ht
 have:(L.map fun t=>(c t,w t))≠[]:=fun z=>by
  have z':=List.map_eq_nil_iff.mp z
  rw [z'] at hm;simp at hm
 have:=s.ways_pos this
 omega
theorem Is.empty(h:∀t,¬P t)(h1:v.2=0)(h2:far-b<=v.1):Is far b P c w v:=
 ⟨[],⟨List.nodup_nil,fun t=>by simp [h t]⟩,Sm.nil h1 h2⟩
theorem Is.one(t:α)(h:∀u,P u↔u=t)(h1:-b<=c t)(h2:c t<=b)(h3:1<=w t):Is far b P c w (c t,w t):=
 ⟨[t],⟨by simp,fun u=>by simp [h u]⟩,Sm.one h1 h2 h3⟩
theorem Is.union(h:Is far b P1 c w v1)(g:Is far b P2 c w v2)(hb:2*b<far)(dj:∀t,P1 t->P2 t->False)(hp:∀t,P t↔P1 t\/P2 t):Is far b P c w (mg v1 v2):=by
 obtain⟨L,e,s⟩:=h
 obtain⟨M,e',s'⟩:=g
 refine⟨L++M,⟨List.nodup_append.mpr ⟨e.nd,e'.nd,fun x hx y hy q=>?_⟩,fun t=>?_⟩,?_⟩
 ·subst q
  exact dj x ((e.mem x).mp hx) ((e'.mem x).mp hy)
 ·rw [List.mem_append,e.mem,e'.mem,hp]
 ·rw [List.map_append]
  exact s.append s' hb
theorem b8{f:α->β}:∀{l:List α},l.Nodup->(∀x∈l,∀y∈l,f x=f y->x=y)->(l.map f).Nodup
 |[],_,_=>by simp
 |a::l,h,q=>by
  rw [List.map_cons,List.nodup_cons]
  refine⟨fun z=>?_,b8 (List.nodup_cons.mp h).2 fun x hx y hy=>q x (by simp [hx]) y (by simp [hy])⟩
  obtain⟨y,hy,e⟩:=List.mem_map.mp z
  have:=q y (by simp [hy]) a (by simp) e
  subst this
  exact (List.nodup_cons.mp h).1 hy
theorem Is.map{P':β->Prop}{c' w':β->Int}(h:Is far b P c w v)(f:α->β)(d k:Int)(inj:∀x y,P x->P y->f x=f y->x=y)(hc:∀x,P x->c' (f x)=c x+d)(hw:∀x,P x->w' (f x)=k*w x)
  (hp:∀u,P' u↔∃x,P x/\u=f x) (hk:1<=k) (h1:b+d<=b') (h2:b-d<=b'):Is far b' P' c' w' (v.1+d,k*v.2):=by
 obtain⟨L,e,s⟩:=h
 refine⟨L.map f,⟨b8 e.nd fun x hx y hy=>inj x y ((e.mem x).mp hx) ((e.mem y).mp hy),fun u=>?_⟩,?_⟩
 ·rw [List.mem_map,hp]
  constructor
  ·rintro⟨x,hx,rfl⟩
   exact⟨x,(e.mem x).mp hx,rfl⟩
  ·rintro⟨x,hx,rfl⟩
   exact⟨x,(e.mem x).mpr hx,rfl⟩
 ·have:(L.map f).map (fun t=>(c' t,w' t))=(L.map fun t=>(c t,w t)).map fun x=>(x.1+d,k*x.2):=by
   rw [List.map_map,List.map_map]
   apply List.map_congr_left
   intro t ht
   show (c' (f t),w' (f t))=(c t+d,k*w t)
   rw [hc t ((e.mem t).mp ht),hw t ((e.mem t).mp ht)]
  rw [this]
  exact s.shift d k b' hk h1 h2
theorem fu{f:α->β->γ}:∀{l:List α} {r:List β},l.Nodup->r.Nodup->(∀x∈l,∀x'∈l,∀y∈r,∀y'∈r,f x y=f x' y'->x=x'/\y=y')->(l.flatMap fun x=>r.map (f x)).Nodup
 |[],_,_,_,_=>by simp
 |a::l,r,h,g,q=>by
  rw [List.flatMap_cons,List.nodup_append]
  refine⟨b8 g fun x hx y hy e=>(q a (by simp) a (by simp) x hx y hy e).2,fu (List.nodup_cons.mp h).2 g fun x hx x' hx' y hy y' hy'=>q x (by simp [hx]) x' (by simp [hx']) y hy y' hy',fun x hx y hy e=>?_⟩
  obtain⟨s,hs,rfl⟩:=List.mem_map.mp hx
  obtain⟨z,hz,hy⟩:=List.mem_flatMap.mp hy
  obtain⟨u,hu,rfl⟩:=List.mem_map.mp hy
  have:=(q a (by simp) z (by simp [hz]) s hs u hu e).1
  subst this
  exact (List.nodup_cons.mp h).1 hz
theorem Is.prod{Q:β->Prop}{cq wq:β->Int}{R:γ->Prop}{cr wr:γ->Int}(h:Is far b1 P c w v1)(g:Is far b2 Q cq wq v2)(f:α->β->γ)
  (inj:∀x x' y y',P x->P x'->Q y->Q y'->f x y=f x' y'->x=x'/\y=y') (hc:∀x y,P x->Q y->cr (f x y)=c x+cq y) (hw:∀x y,P x->Q y->wr (f x y)=w x*wq y)
  (hp:∀u,R u↔∃x y,P x/\Q y/\u=f x y) (hb:b1+b2<=b) (h1:0<=b1) (h2:0<=b2) (hf:0<=far):Is far b R cr wr (v1.1+v2.1,v1.2*v2.2):=by
 obtain⟨L,e,s⟩:=h
 obtain⟨M,e',s'⟩:=g
 refine⟨L.flatMap fun x=>M.map (f x),⟨fu e.nd e'.nd fun x hx x' hx' y hy y' hy'=>inj x x' y y' ((e.mem x).mp hx) ((e.mem x').mp hx') ((e'.mem y).mp hy) ((e'.mem y').mp hy'),fun u=>?_⟩,?_⟩
 ·rw [List.mem_flatMap,hp]
  constructor
  ·rintro⟨x,hx,hu⟩
   obtain⟨y,hy,rfl⟩:=List.mem_map.mp hu
   exact⟨x,y,(e.mem x).mp hx,(e'.mem y).mp hy,rfl⟩
  ·rintro⟨x,y,hx,hy,rfl⟩
   exact⟨x,(e.mem x).mpr hx,List.mem_map.mpr ⟨y,(e'.mem y).mpr hy,rfl⟩⟩
 ·have:(L.flatMap fun x=>M.map (f x)).map (fun t=>(cr t,wr t))=Fs.prod (L.map fun t=>(c t,w t)) (M.map fun t=>(cq t,wq t)):=by
   unfold Fs.prod
   rw [List.map_flatMap,List.flatMap_map]
   have:∀(L0:List α),(∀x∈L0,P x)->(L0.flatMap fun a=>(M.map (f a)).map fun t=>(cr t,wr t))=L0.flatMap fun a=>(M.map fun t=>(cq t,wq t)).map fun y=>(c a+y.1,w a*y.2):=by
    intro L0
    induction L0 with
    |nil=>intro _;rfl
    |cons a L0 ih=>
     intro hL
     rw [List.flatMap_cons,List.flatMap_cons,ih fun x hx=>hL x (by simp [hx])]
     congr 1
     rw [List.map_map,List.map_map]
     apply List.map_congr_left
     intro y hy
     show (cr (f a y),wr (f a y))=(c a+cq y,w a*wq y)
     rw [hc a y (hL a (by simp)) ((e'.mem y).mp hy),hw a y (hL a (by simp)) ((e'.mem y).mp hy)]
   exact this L fun x hx=>(e.mem x).mp hx
  rw [this]
  exact s.prod s' hb h1 h2 hf
theorem Is.family{ι:Type}{Pf:ι->α->Prop}{vf:ι->Int × Int}:∀(is:List ι) {P0 P:α->Prop} {v0:Int × Int},Is far b P0 c w v0->2*b<far->is.Nodup->(∀i∈is,Is far b (Pf i) c w (vf i))->
  (∀i∈is,∀j∈is,∀t,Pf i t->Pf j t->i=j)->(∀i∈is,∀t,P0 t->Pf i t->False)->(∀t,P t↔P0 t\/∃i∈is,Pf i t)->Is far b P c w (is.foldl (fun a i=>mg a (vf i)) v0)
 |[],P0,P,v0,h,_,_,_,_,_,hp=>h.congr (fun t=>by rw [hp];simp) (fun _ _=>rfl) (fun _ _=>rfl)
 |i::is,P0,P,v0,h,hb,nd,hf,dj,d0,hp=>by
  rw [List.foldl_cons]
  have h1:Is far b (fun t=>P0 t\/Pf i t) c w (mg v0 (vf i)):=h.union (hf i (by simp)) hb (d0 i (by simp)) (fun t=>Iff.rfl)
  refine Is.family is h1 hb (List.nodup_cons.mp nd).2 (fun j hj=>hf j (by simp [hj])) (fun j hj k hk=>dj j (by simp [hj]) k (by simp [hk])) (fun j hj t q z=>?_) (fun t=>?_)
  ·rcases q with q |q
   ·exact d0 j (by simp [hj]) t q z
   ·have:=dj i (by simp) j (by simp [hj]) t q z
    subst this
    exact (List.nodup_cons.mp nd).1 hj
  ·rw [hp]
   constructor
   ·rintro (q |⟨j,hj,q⟩)
    ·exact .inl (.inl q)
    ·rcases List.mem_cons.mp hj with rfl |hj
     ·exact .inl (.inr q)
     ·exact .inr ⟨j,hj,q⟩
   ·rintro ((q |q)|⟨j,hj,q⟩)
    ·exact .inl q
    ·exact .inr ⟨i,by simp,q⟩
    ·exact .inr ⟨j,by simp [hj],q⟩
end
end Fs
end
section
namespace Fs
def g(l:List Int)(i:Nat):Int:=l.getD i 0
def iter{σ:Type}(f:Nat->σ->σ)(lo:Nat):Nat->σ->σ
 |0,s=>s
 |k+1,s=>f (lo+k) (iter f lo k s)
def sortsGet(a b:Int):Int:=
 if a=65/\b=85 then 0 else if a=67/\b=71 then 1 else if a=71/\b=67 then 2 else if a=71/\b=85 then 3 else if a=85/\b=65 then 4 else if a=85/\b=71 then 5 else -1
def aE(s:List Int)(l r:Nat):Int:=if (r:Int)-l<4 then -1 else sortsGet (g s l) (g s r)
structure Tab where
 stacks:List Int
 ends:List Int
 sides:List Int
 both:List Int
 once:Int
 pair:Int
 letter:Int
def stretched(l:List Int):List Int:=l++List.replicate (100-l.length) (l.getLastD 0)
def tables(ns:List Int)(scale:Int):Tab:=
 let sc:=ns.map (· *scale)
 ⟨sc.take 36,stretched ((sc.drop 36).take 31),stretched ((sc.drop 67).take 31),stretched ((sc.drop 98).take 31),g sc 129,g sc 130,g sc 131⟩
structure Prc where
 tab:Tab
 far:Int
 opening:List Int
 closing:List Int
 mark:Option (Int × Int)
 weight:Int
def Prc.down(p:Prc):List Int:=((p.tab.both.drop 2).take 98).reverse
structure Row where
 pc:List Int
 pw:List Int
 oc:List Int
 ow:List Int
 tc:List Int
 tw:List Int
instance:Inhabited Row:=⟨⟨[],[],[],[],[],[]⟩⟩
def Row.new(n:Nat)(far:Int):Row:=⟨List.replicate n far,List.replicate n 0,List.replicate n far,List.replicate n 0,List.replicate n far,List.replicate n 0⟩
structure Arcs where
 pl:List Int
 cs:List Int
 ws:List Int
instance:Inhabited Arcs:=⟨⟨[],[],[]⟩⟩
def Arcs.put(a:Arcs)(p c w:Int):Arcs:=⟨a.pl++[p],a.cs++[c],a.ws++[w]⟩
structure Win where
 lows:List Int
 cnts:List Int
def Win.new(n:Nat)(far:Int):Win:=⟨List.replicate n far,List.replicate n 0⟩
def Win.take1(widest:Int)(W:Win)(x:Int × Int × Int):Win:=
 let sp:=(widest-x.1).toNat
 if x.2.1<g W.lows sp then ⟨W.lows.set sp x.2.1,W.cnts.set sp x.2.2⟩
 else if x.2.1=g W.lows sp then ⟨W.lows,W.cnts.set sp (g W.cnts sp+x.2.2)⟩ else W
def Arcs.trip(a:Arcs):List (Int × Int × Int):=a.pl.zip (a.cs.zip a.ws)
def Win.widen(W:Win)(a:Arcs)(right:Nat):Win:=a.trip.foldl (Win.take1 ((right:Int)-4-1)) W
def minD(d:Int):List Int->Int
 |[]=>d
 |x::r=>r.foldl min x
def offered(f:Int × Int)(cs ws:List Int):Int × Int:=
 let low:=minD f.1 cs
 if low > f.1 then f else mg f (low,(((cs.zip ws).filter fun x=>x.1=low).map (·.2)).sum)
structure Sr where
 rows:List Row
 arcs:List Arcs
 rc:List Int
 rw:List Int
def Sr.row(S:Sr)(l:Nat):Row:=S.rows.getD l default
def Sr.arc(S:Sr)(r:Nat):Arcs:=S.arcs.getD r default
def Sr.new(n:Nat)(far:Int):Sr:=⟨List.replicate (n+2) (Row.new n far),List.replicate n ⟨[],[],[]⟩,List.replicate (n+1) 0,List.replicate (n+1) 1⟩
section
variable (s:List Int)(p:Prc)
def bz(row:Row)(l:Nat)(r:Nat)(A:List Arcs):List Arcs:=
 if g row.pw r > 0 then A.set r ((A.getD r default).put ((l:Int)-1) (g row.pc r) (g row.pw r)) else A
def release(l:Nat)(S:Sr):Sr:={S with arcs:=iter (bz (S.row l) l) (l+4) (s.length-(l+4)) S.arcs}
def bS(S:Sr)(l r:Nat)(outer:Int):Int × Int:=
 let t:=p.tab
 let wi:=S.row (l+1)
 let found:=mg (g t.ends (r-l-1),1) (g wi.tc (r-1)+(t.once+t.pair),g wi.tw (r-1))
 let inner:=aE s (l+1) (r-1)
 if inner<0 then found else mg found (g wi.pc (r-1)+g t.stacks (6*outer+inner).toNat,g wi.pw (r-1))
def offerSingle(S:Sr)(found:Int × Int)(l r:Nat)(sh:Arcs)(W:Win):Int × Int:=
 let sd:=p.tab.sides
 let found:=offered found ((sh.pl.zip sh.cs).map fun x=>x.2+g sd ((r:Int)-1-x.1).toNat) sh.ws
 let a:=S.arc (r-1)
 let found:=offered found ((a.pl.zip a.cs).map fun x=>x.2+g sd (x.1-(l:Int)).toNat) a.ws
 let room:Int:=(r:Int)-l-2-4
 offered found ((W.lows.zip (p.down.drop ((100:Int)-1-room).toNat)).map fun x=>x.1+x.2) W.cnts
def keepPair(row:Row)(l r:Nat)(found:Int × Int):Row:=
 {row with pc:=row.pc.set r (found.1+g p.opening l+g p.closing r),pw:=row.pw.set r (if p.mark=some ((l:Int),(r:Int)) then found.2*p.weight else found.2)}
structure Pst where
 W:Win
 sh:Arcs
 row:Row
def bJ(S:Sr)(l r:Nat)(st:Pst):Pst:=
 let W:=st.W.widen (S.arc (r-2)) (r-2)
 let wi:=S.row (l+1)
 let sh:=if g wi.pw (r-2) > 0 then st.sh.put ((r:Int)-2) (g wi.pc (r-2)) (g wi.pw (r-2)) else st.sh
 let outer:=aE s l r
 ⟨W,sh,if outer>=0 then keepPair p st.row l r (offerSingle p S (bS s p S l r outer) l r sh W) else st.row⟩
def fillPairs(l:Nat)(S:Sr):Sr:=
 let st:=iter (bJ s p S l) (l+4) (s.length-(l+4)) ⟨Win.new s.length p.far,⟨[],[],[]⟩,S.row l⟩
 {S with rows:=S.rows.set l st.row}
def bj(S:Sr)(r:Nat)(sc sw:List Int):Int × Int:=
 let a:=S.arc r
 let tot:=(a.pl.zip a.cs).map fun x=>g sc x.1.toNat+x.2
 let low:=minD p.far tot
 (low,(((tot.zip (a.pl.zip a.ws)).filter fun x=>x.1=low).map fun x=>g sw x.2.1.toNat*x.2.2).sum)
structure Mst where
 begun:Int × Int
 two:Int × Int
 sc:List Int
 sw:List Int
 row:Row
def manyTurn(S:Sr)(l r:Nat)(st:Mst):Mst:=
 let letter:=p.tab.letter
 let pair:=p.tab.pair
 let after:=S.row (l+1)
 let last:=bj p S r st.sc st.sw
 let two:=mg (st.two.1+letter,st.two.2) (last.1+pair,last.2)
 let begun:=mg (st.begun.1+letter,st.begun.2) (g st.row.pc r+pair,g st.row.pw r)
 let one:=mg begun (g after.oc r+letter,g after.ow r)
 let some:=mg one two
 ⟨begun,two,st.sc.set r some.1,st.sw.set r some.2,{st.row with tc:=st.row.tc.set r two.1,tw:=st.row.tw.set r two.2,oc:=st.row.oc.set r one.1,ow:=st.row.ow.set r one.2}⟩
def fillMany(l:Nat)(S:Sr):Sr:=
 let n:=s.length
 let st:=iter (manyTurn p S l) (l+4) (n-(l+4)) ⟨(p.far,0),(p.far,0),List.replicate n p.far,List.replicate n 0,S.row l⟩
 {S with rows:=S.rows.set l st.row}
def restTurn(S:Sr)(l r:Nat)(f:Int × Int):Int × Int:=
 let row:=S.row l
 mg f (g row.pc r+g S.rc (r+1),g row.pw r*g S.rw (r+1))
def fillRest(l:Nat)(S:Sr):Sr:=
 let f:=iter (restTurn S l) (l+4) (s.length-(l+4)) (g S.rc (l+1),g S.rw (l+1))
 {S with rc:=S.rc.set l f.1,rw:=S.rw.set l f.2}
def turn(l:Nat)(S:Sr):Sr:=fillRest s l (fillMany s p l (fillPairs s p l (release s (l+2) S)))
def turns:Nat->Sr->Sr
 |0,S=>S
 |k+1,S=>turn s p (s.length-1-k) (turns k S)
def least:Int × Int:=
 let S:=turns s p s.length (Sr.new s.length p.far)
 (g S.rc 0,g S.rw 0)
end
def FAR:Int:=1000000000
structure Ast where
 rows:List (List Int)
 arcs:List (List (Int × Int))
section
variable (s:List Int)(mark:Option (Int × Int))(weight:Int)
def bE(l r:Nat)(st:Ast):Ast:=
 let arcs:=if aE s l r>=0 then
   let wi:=g (st.rows.getD (l+1) []) r
   st.arcs.set r ((st.arcs.getD r [])++[((l:Int),if some ((l:Int),(r:Int))=mark then wi*weight else wi)])
  else st.arcs
 let row:=st.rows.getD l []
 ⟨st.rows.set l (row.set (r+1) (g row r+((arcs.getD r []).map fun x=>g row x.1.toNat*x.2).sum)),arcs⟩
def allRow(l:Nat)(st:Ast):Ast:=iter (bE s mark weight l) (l+4) (s.length-(l+4)) st
def bA:Nat->Ast->Ast
 |0,S=>S
 |k+1,S=>allRow s mark weight (s.length-1-k) (bA k S)
def allFolds:Int:=
 let n:=s.length
 let S:=bA s mark weight n ⟨List.replicate (n+1) (List.replicate (n+1) 1),List.replicate n []⟩
 g (S.rows.getD 0 []) n
end
def bestFolds(ns s:List Int)(mark:Option (Int × Int))(weight:Int):Int:=
 (least s ⟨tables ns 1,FAR,List.replicate s.length 0,List.replicate s.length 0,mark,weight⟩).2
def countFolds(ns s:List Int):List Int:=[allFolds s none 1%1000000007,bestFolds ns s none 1%1000000007]
def WEIGHT:Int:=8^64
def countWithPair(ns s:List Int)(l r:Nat):List Int:=
 if aE s l r<0 then [0,0] else
 [(allFolds s (some ((l:Int),(r:Int))) WEIGHT/WEIGHT)%1000000007,(bestFolds ns s (some ((l:Int),(r:Int))) WEIGHT/WEIGHT)%1000000007]
def ay(n:Nat):List Int:=((List.range n).map fun k=>(3:Int)^k).reverse
def firstBest(ns s:List Int):List Int:=
 let vs:=ay s.length
 let scale:=g vs 0*3
 let p:Prc:=⟨tables ns scale,FAR*scale,vs.map (-2*·),vs.map (-1*·),none,1⟩
 let total:=(least s p).1+(scale-1)
 let row:=total%scale
 (total/scale)::vs.map fun v=>if row/v%3=0 then 40 else if row/v%3=1 then 41 else 46
end Fs
end
section
namespace Fs
inductive T where
 |nil
 |dot (t:T)
 |pr (a b:T)
namespace T
def len:T->Nat
 |nil=>0
 |dot t=>t.len+1
 |pr a b=>a.len+b.len+2
def ntop:T->Nat
 |nil=>0
 |dot t=>t.ntop
 |pr _ b=>b.ntop+1
def ndot:T->Nat
 |nil=>0
 |dot t=>t.ndot+1
 |pr _ b=>b.ndot
def lead:T->Nat
 |nil=>0
 |dot t=>t.lead+1
 |pr _ _=>0
def app:T->T->T
 |nil,u=>u
 |dot t,u=>dot (t.app u)
 |pr a b,u=>pr a (b.app u)
def dots:Nat->T
 |0=>nil
 |k+1=>dot (dots k)
def wrap(x:Nat)(c:T)(y:Nat):T:=(dots x).app (pr c (dots y))
def last:T->Option (Option T)
 |nil=>none
 |dot t=>match last t with
  |none=>some none
  |some z=>some z
 |pr a b=>match last b with
  |none=>some (some a)
  |some z=>some z
theorem len_app:∀t u:T,(t.app u).len=t.len+u.len
 |nil,u=>by simp [app,len]
 |dot t,u=>by simp only [app,len,len_app t u];omega
 |pr a b,u=>by simp only [app,len,len_app b u];omega
theorem cF:∀t u:T,(t.app u).ntop=t.ntop+u.ntop
 |nil,u=>by simp [app,ntop]
 |dot t,u=>by simp only [app,ntop,cF t u]
 |pr a b,u=>by simp only [app,ntop,cF b u];omega
theorem fS:∀t u:T,(t.app u).ndot=t.ndot+u.ndot
 |nil,u=>by simp [app,ndot]
 |dot t,u=>by simp only [app,ndot,fS t u];omega
 |pr a b,u=>by simp only [app,ndot,fS b u]
theorem bB:∀k,(dots k).len=k
 |0=>rfl
 |k+1=>by simp only [dots,len,bB k]
theorem bL:∀k,(dots k).ntop=0
 |0=>rfl
 |k+1=>by simp only [dots,ntop,bL k]
theorem gH:∀k,(dots k).ndot=k
 |0=>rfl
 |k+1=>by simp only [dots,ndot,gH k]
theorem jJ:∀k,(dots k).app (dot nil)=dots (k+1)
 |0=>rfl
 |k+1=>by
  show dot ((dots k).app (dot nil))=dot (dots (k+1))
  rw [jJ k]
theorem fP:∀{t:T},t.ntop=0->t=dots t.len
 |nil,_=>rfl
 |dot t,h=>by
  have:=fP (t:=t) h
  show dot t=dot (dots t.len)
  rw [<-this]
 |pr _ _,h=>by simp [ntop] at h
theorem ck:∀x c y,(wrap x c y).lead=x
 |0,_,_=>rfl
 |x+1,c,y=>by
  show (dot ((dots x).app (pr c (dots y)))).lead=x+1
  simp only [lead]
  have:=ck x c y
  unfold wrap at this
  rw [this]
theorem bV(x c y):(wrap x c y).len=x+c.len+y+2:=by
 unfold wrap
 rw [len_app,bB]
 simp only [len,bB];omega
theorem eM(x c y):(wrap x c y).ntop=1:=by
 unfold wrap
 rw [cF,bL]
 simp only [ntop,bL]
theorem eU(x c y):(wrap x c y).ndot=x+y:=by
 unfold wrap
 rw [fS,gH]
 simp only [ndot,gH]
theorem fV:∀{t:T},t.ntop=1->∃x c y,t=wrap x c y
 |nil,h=>by simp [ntop] at h
 |dot t,h=>by
  obtain⟨x,c,y,e⟩:=fV (t:=t) h
  exact⟨x+1,c,y,by rw [e];rfl⟩
 |pr a b,h=>⟨0,a,b.len,by
  show pr a b=pr a (dots b.len)
  rw [<-fP (t:=b) (by simp [ntop] at h;exact h)]⟩
theorem fD:∀{u u' z z':T},u.len=u'.len->u.app z=u'.app z'->u=u'/\z=z'
 |nil,nil,_,_,_,h=>⟨rfl,h⟩
 |nil,dot _,_,_,h,_=>by simp [len] at h
 |nil,pr _ _,_,_,h,_=>by simp [len] at h
 |dot _,nil,_,_,h,_=>by simp [len] at h
 |pr _ _,nil,_,_,h,_=>by simp [len] at h
 |dot t,dot t',z,z',h,e=>by
  have e':t.app z=t'.app z':=by injection e
  have:=fD (by simp [len] at h;exact h) e'
  exact⟨by rw [this.1],this.2⟩
 |dot _,pr _ _,_,_,_,e=>by cases e
 |pr _ _,dot _,_,_,_,e=>by cases e
 |pr a b,pr a' b',z,z',h,e=>by
  injection e with e1 e2
  subst e1
  have:=fD (by simp [len] at h;omega) e2
  exact⟨by rw [this.1],this.2⟩
theorem sV{x y:Nat}(h:dots x=dots y):x=y:=by
 have:=congrArg len h
 rwa [bB,bB] at this
theorem fH{x y x' y':Nat}{c c':T}(h:wrap x c y=wrap x' c' y'):x=x'/\c=c'/\y=y':=by
 have e:=congrArg lead h
 rw [ck,ck] at e
 subst e
 have:=(fD rfl h).2
 injection this with e1 e2
 exact⟨rfl,e1,sV e2⟩
theorem dN:∀u:T,(u.app (dot nil)).last=some none
 |nil=>rfl
 |dot t=>by simp only [app,last,dN t]
 |pr a b=>by simp only [app,last,dN b]
theorem cH(c:T):∀u:T,(u.app (pr c nil)).last=some (some c)
 |nil=>rfl
 |dot t=>by simp only [app,last,cH c t]
 |pr a b=>by simp only [app,last,cH c b]
theorem snoc_cases:∀t:T,t=nil\/(∃u:T,t=u.app (dot nil))\/∃u c:T,t=u.app (pr c nil)
 |nil=>.inl rfl
 |dot t=>.inr (by
  rcases snoc_cases t with e |⟨u,e⟩|⟨u,c,e⟩
  ·exact .inl ⟨nil,by rw [e];rfl⟩
  ·exact .inl ⟨dot u,by rw [e];rfl⟩
  ·exact .inr ⟨dot u,c,by rw [e];rfl⟩)
 |pr a b=>.inr (by
  rcases snoc_cases b with e |⟨u,e⟩|⟨u,c,e⟩
  ·exact .inr ⟨nil,a,by rw [e];rfl⟩
  ·exact .inl ⟨pr a u,by rw [e];rfl⟩
  ·exact .inr ⟨pr a u,c,by rw [e];rfl⟩)
theorem dF{u u':T}(h:u.app (dot nil)=u'.app (dot nil)):u=u':=by
 have e:=congrArg len h
 rw [len_app,len_app] at e
 exact (fD (by omega) h).1
theorem cU{u u' c c':T}(h:u.app (pr c nil)=u'.app (pr c' nil)):u=u'/\c=c':=by
 have e:=congrArg last h
 rw [cH,cH] at e
 injection e with e
 injection e with e
 subst e
 have e:=congrArg len h
 rw [len_app,len_app] at e
 exact⟨(fD (by omega) h).1,rfl⟩
theorem kR{u u' c:T}(h:u.app (dot nil)=u'.app (pr c nil)):False:=by
 have e:=congrArg last h
 rw [dN,cH] at e
 cases e
end T
open T
def Ok(al:Nat->Nat->Prop):Nat->T->Prop
 |_,.nil=>True
 |i,.dot t=>Ok al (i+1) t
 |i,.pr a b=>al i (i+1+a.len)/\Ok al (i+1) a/\Ok al (i+2+a.len) b
structure Pz where
 ends:Nat->Int
 stack:Nat->Nat->Nat->Nat->Int
 side:Nat->Int
 both:Nat->Int
 once:Int
 pair:Int
 letter:Int
 ex:Nat->Nat->Int
 wf:Nat->Nat->Int
variable (z:Pz)
def single(l r p q:Nat):Int:=
 let x:=p-l-1
 let y:=r-q-1
 if x=0/\y=0 then z.stack l r p q else if x=0\/y=0 then z.side (x+y) else z.both (x+y)
def loopc(l:Nat)(a:T):Int:=
 if a.ntop=0 then z.ends a.len
 else if a.ntop=1 then single z l (l+1+a.len) (l+1+a.lead) (l+1+a.len-1-(a.ndot-a.lead))
 else z.once+(a.ntop+1:Int)*z.pair+a.ndot*z.letter
def tcost:Nat->T->Int
 |_,.nil=>0
 |i,.dot t=>tcost (i+1) t
 |i,.pr a b=>(loopc z i a+tcost (i+1) a+z.ex i (i+1+a.len))+tcost (i+2+a.len) b
def wt:Nat->T->Int
 |_,.nil=>1
 |i,.dot t=>wt (i+1) t
 |i,.pr a b=>(wt (i+1) a*z.wf i (i+1+a.len))*wt (i+2+a.len) b
def cl0(l:Nat)(a:T):Int:=loopc z l a+tcost z (l+1) a
def cl(l:Nat)(a:T):Int:=cl0 z l a+z.ex l (l+1+a.len)
def wcl(l:Nat)(a:T):Int:=wt z (l+1) a*z.wf l (l+1+a.len)
def mcost(l:Nat)(t:T):Int:=tcost z l t+t.ntop*z.pair+t.ndot*z.letter
variable {z}
theorem cP{al:Nat->Nat->Prop}:∀{i:Nat} {t u:T},Ok al i (t.app u)↔Ok al i t/\Ok al (i+t.len) u
 |i,.nil,u=>by simp [app,Ok,len]
 |i,.dot t,u=>by
  simp only [app,Ok,len]
  rw [cP (t:=t),show i+1+t.len=i+(t.len+1) by omega]
 |i,.pr a b,u=>by
  simp only [app,Ok,len]
  rw [cP (t:=b),show i+2+a.len+b.len=i+(a.len+b.len+2) by omega]
  constructor
  ·rintro⟨h1,h2,h3,h4⟩;exact⟨⟨h1,h2,h3⟩,h4⟩
  ·rintro⟨⟨h1,h2,h3⟩,h4⟩;exact⟨h1,h2,h3,h4⟩
theorem eQ:∀(i:Nat) (t u:T),tcost z i (t.app u)=tcost z i t+tcost z (i+t.len) u
 |i,.nil,u=>by simp [app,tcost,len]
 |i,.dot t,u=>by
  simp only [app,tcost,len]
  rw [eQ _ t,show i+1+t.len=i+(t.len+1) by omega]
 |i,.pr a b,u=>by
  simp only [app,tcost,len]
  rw [eQ _ b,show i+2+a.len+b.len=i+(a.len+b.len+2) by omega]
  omega
theorem gv:∀(i:Nat) (t u:T),wt z i (t.app u)=wt z i t*wt z (i+t.len) u
 |i,.nil,u=>by simp [app,wt,len]
 |i,.dot t,u=>by
  simp only [app,wt,len]
  rw [gv _ t,show i+1+t.len=i+(t.len+1) by omega]
 |i,.pr a b,u=>by
  simp only [app,wt,len]
  rw [gv _ b,show i+2+a.len+b.len=i+(a.len+b.len+2) by omega]
  simp only [Int.mul_assoc]
theorem dO{al:Nat->Nat->Prop}:∀(i k:Nat),Ok al i (dots k)
 |_,0=>trivial
 |i,k+1=>dO (i+1) k
theorem dG:∀(i k:Nat),tcost z i (dots k)=0
 |_,0=>rfl
 |i,k+1=>dG (i+1) k
theorem eW:∀(i k:Nat),wt z i (dots k)=1
 |_,0=>rfl
 |i,k+1=>eW (i+1) k
theorem j0(i:Nat)(t u:T):mcost z i (t.app u)=mcost z i t+mcost z (i+t.len) u:=by
 unfold mcost
 rw [eQ,cF,fS,Int.natCast_add,Int.natCast_add,Int.add_mul,Int.add_mul]
 omega
theorem bw{al:Nat->Nat->Prop}(h4:∀l r,al l r->l+4<=r):∀{i:Nat} {t:T},Ok al i t->0<t.ntop->5<=t.len
 |_,.nil,_,h=>by simp [ntop] at h
 |i,.dot t,o,h=>by
  have:=bw h4 (t:=t) o h
  simp only [len];omega
 |i,.pr a b,o,_=>by
  have:=h4 _ _ o.1
  simp only [len];omega
end Fs
end
section
namespace Fs
open T
theorem Is.map1{α β:Type}{far b b':Int}{P:α->Prop}{c w:α->Int}{v:Int × Int}{P':β->Prop}{c' w':β->Int}(h:Is far b P c w v)(f:α->β)(d:Int)(inj:∀x y,P x->P y->f x=f y->x=y)(hc:∀x,P x->c' (f x)=c x+d)(hw:∀x,P x->w' (f x)=w x)
  (hp:∀u,P' u↔∃x,P x/\u=f x) (h1:b+d<=b') (h2:b-d<=b'):Is far b' P' c' w' (v.1+d,v.2):=by
 have:=h.map (w':=w') f d 1 inj hc (fun x hx=>by rw [hw x hx];omega) hp (by omega) h1 h2
 rwa [Int.one_mul] at this
theorem vm(x y:Int × Int):(mg x y).1=min x.1 y.1:=by
 unfold mg
 split
 ·omega
 ·split <;> (try simp only) <;> omega
theorem vw(m:Int)(x y:Int × Int)(h1:m<=x.1)(h2:m<=y.1):cnt m [mg x y]=cnt m [x,y]:=by
 unfold mg
 split
 ·simp only [cnt]
  rw [if_neg (show ¬y.1=m by omega)];omega
 ·split
  ·simp only [cnt]
   rw [if_neg (show ¬x.1=m by omega)];omega
  ·simp only [cnt]
   by_cases e:x.1=m
   ·rw [if_pos e,if_pos e,if_pos (by omega)];omega
   ·rw [if_neg e,if_neg e,if_neg (by omega)];omega
theorem dJ:∀(l:List Int) (a:Int),l.foldl min a<=a
 |[],a=>by simp
 |x::l,a=>by
  have:=dJ l (min a x)
  simp only [List.foldl_cons];omega
theorem gX:∀(l:List Int) (a x:Int),l.foldl min (min a x)=min a (l.foldl min x)
 |[],_,_=>rfl
 |y::l,a,x=>by
  simp only [List.foldl_cons]
  rw [Int.min_assoc,gX l a (min x y)]
theorem jd:∀(xs:List (Int × Int)) (f:Int × Int),xs.foldl mg f=((xs.map (·.1)).foldl min f.1,cnt ((xs.map (·.1)).foldl min f.1) (f::xs))
 |[],f=>by simp [cnt]
 |x::xs,f=>by
  rw [List.foldl_cons,jd xs (mg f x)]
  simp only [List.map_cons,List.foldl_cons,vm]
  refine Prod.ext rfl ?_
  show cnt _ (mg f x::xs)=cnt _ (f::x::xs)
  have e1:∀m,cnt m (mg f x::xs)=cnt m [mg f x]+cnt m xs:=fun m=>by rw [<-cnt_append];rfl
  have e2:∀m,cnt m (f::x::xs)=cnt m [f,x]+cnt m xs:=fun m=>by rw [<-cnt_append];rfl
  have:=dJ (xs.map (·.1)) (min f.1 x.1)
  rw [e1,e2,vw _ _ _ (by omega) (by omega)]
theorem k7(m:Int):∀xs:List (Int × Int),((xs.filter fun x=>x.1=m).map (·.2)).sum=cnt m xs
 |[]=>rfl
 |x::xs=>by
  rw [List.filter_cons]
  by_cases e:x.1=m
  ·rw [if_pos (by simpa using e)]
   simp only [List.map_cons,List.sum_cons,cnt,if_pos e,k7 m xs]
  ·rw [if_neg (by simpa using e)]
   simp only [cnt,if_neg e,k7 m xs];omega
theorem kX:∀(cs ws:List Int),cs.length<=ws.length->(cs.zip ws).map (·.1)=cs
 |[],_,_=>rfl
 |c::cs,[],h=>by simp at h
 |c::cs,w::ws,h=>by
  simp only [List.zip_cons_cons,List.map_cons]
  rw [kX cs ws (by simpa using h)]
theorem gd(f:Int × Int)(cs ws:List Int)(h:cs.length<=ws.length):offered f cs ws=(cs.zip ws).foldl mg f:=by
 unfold offered
 simp only
 rw [k7,jd,kX _ _ h]
 match cs,ws,h with
 |[],ws,_=>
  have e0:minD f.1 ([]:List Int)=f.1:=rfl
  rw [e0,if_neg (show ¬f.1 > f.1 by omega)]
  simp only [List.foldl_nil,List.zip_nil_left]
  unfold mg
  simp [cnt]
 |c::cs,[],h=>simp at h
 |c::cs,w::ws,h=>
  have e:(c::cs).foldl min f.1=min f.1 (cs.foldl min c):=by rw [List.foldl_cons,gX]
  have e1:minD f.1 (c::cs)=cs.foldl min c:=rfl
  rw [e,e1]
  have hz:∀x∈(c::cs).zip (w::ws),cs.foldl min c<=x.1:=by
   intro x hx
   have hx':x.1∈c::cs:=by
    have:=List.mem_map_of_mem (f:=(·.1)) hx
    rwa [kX _ _ h] at this
   have:∀(l:List Int) (a y:Int),y∈a::l->l.foldl min a<=y:=by
    intro l
    induction l with
    |nil=>intro a y hy;simp at hy;subst hy;simp
    |cons b l ih=>
     intro a y hy
     rw [List.foldl_cons]
     rcases List.mem_cons.mp hy with rfl |hy
     ·have:=dJ l (min y b);omega
     ·rcases List.mem_cons.mp hy with rfl |hy
      ·have:=dJ l (min a y);omega
      ·have:=ih (min a b) y (by simp [hy]);exact this
   exact this cs c _ hx'
  generalize hX:(c::cs).zip (w::ws)=X at hz
  generalize cs.foldl min c=low at hz ⊢
  by_cases q:low > f.1
  ·rw [if_pos q,show min f.1 low=f.1 by omega]
   refine Prod.ext rfl ?_
   show f.2=cnt f.1 (f::X)
   simp only [cnt]
   rw [if_pos trivial,ed f.1 X (fun x hx=>by have:=hz x hx;omega)];omega
  ·rw [if_neg q,show min f.1 low=low by omega]
   unfold mg
   simp only
   by_cases e:low<f.1
   ·rw [if_neg (by omega),if_pos e]
    refine Prod.ext rfl ?_
    show cnt low X=cnt low (f::X)
    simp only [cnt]
    rw [if_neg (by omega)];omega
   ·rw [if_neg (by omega),if_neg e]
    have:low=f.1:=by omega
    subst this
    refine Prod.ext rfl ?_
    show f.2+cnt f.1 X=cnt f.1 (f::X)
    simp only [cnt];rw [if_pos trivial]
def B(A:Int)(m:Nat):Int:=4*A*m
theorem nS(A:Int)(m k:Nat):B A (m+k)=B A m+B A k:=by
 unfold B
 rw [Int.natCast_add,Int.mul_add]
theorem rq(A:Int):B A 1=4*A:=by unfold B;omega
theorem gE(A:Int)(m:Nat):B A (m+1)=B A m+4*A:=by rw [nS,rq]
theorem rK(A:Int):B A 0=0:=by unfold B;simp
theorem bg{A:Int}(h:0<=A)(m:Nat):0<=B A m:=by
 unfold B
 exact Int.mul_nonneg (by omega) (by omega)
theorem ef{A:Int}(h:0<=A){m k:Nat}(q:m<=k):B A m<=B A k:=by
 obtain⟨d,rfl⟩:=Nat.exists_eq_add_of_le q
 have:=bg h d
 rw [nS];omega
structure Gv(z:Pz)(al:Nat->Nat->Prop)(A far:Int)(n:Nat):Prop where
 A0:0<=A
 ends:∀m,-A<=z.ends m/\z.ends m<=A
 stack:∀l r p q,-A<=z.stack l r p q/\z.stack l r p q<=A
 side:∀m,-A<=z.side m/\z.side m<=A
 both:∀m,-A<=z.both m/\z.both m<=A
 once:-A<=z.once/\z.once<=A
 pair:-A<=z.pair/\z.pair<=A
 letter:-A<=z.letter/\z.letter<=A
 ex:∀l r,-A<=z.ex l r/\z.ex l r<=A
 wf:∀l r,1<=z.wf l r
 al4:∀l r,al l r->l+4<=r
 aln:∀l r,al l r->r<n
 far:2*B A (n+1)<far
section
variable {z:Pz}{al:Nat->Nat->Prop}{A far:Int}{n:Nat}
theorem Gv.small(G:Gv z al A far n){m:Nat}(h:m<=n+1):2*B A m<far:=by
 have:=ef G.A0 h
 have:=G.far
 omega
theorem Gv.far0(G:Gv z al A far n):0<=far:=by
 have:=bg G.A0 (n+1)
 have:=G.far
 omega
variable (al)
def Cl(l r:Nat)(a:T):Prop:=al l r/\l+1+a.len=r/\Ok al (l+1) a
def On(l r:Nat)(t:T):Prop:=Ok al l t/\l+t.len=r+1/\t.ntop=1
def Tw(l r:Nat)(t:T):Prop:=Ok al l t/\l+t.len=r+1/\2<=t.ntop
def So(l r:Nat)(t:T):Prop:=Ok al l t/\l+t.len=r+1/\1<=t.ntop
def Rs(n l:Nat)(t:T):Prop:=Ok al l t/\l+t.len=n
def Bg(l r:Nat)(t:T):Prop:=∃q c,q<=r/\Cl al l q c/\t=pr c (dots (r-q))
variable {al}
theorem pV(l:Nat):mcost z l (dot nil)=z.letter:=by
 unfold mcost
 simp [tcost,ntop,ndot]
theorem lL(l:Nat)(c:T):mcost z l (pr c nil)=cl z l c+z.pair:=by
 unfold mcost cl cl0
 simp only [tcost,ntop,ndot]
 omega
theorem mE(l:Nat)(c:T):wt z l (pr c nil)=wcl z l c:=by
 unfold wcl
 simp only [wt];omega
theorem f9(c:T)(k:Nat):pr c (dots (k+1))=(pr c (dots k)).app (dot nil):=by
 show pr c (dots (k+1))=pr c ((dots k).app (dot nil))
 rw [jJ]
theorem iD(l:Nat)(t:T):mcost z l (t.app (dot nil))=mcost z l t+z.letter:=by rw [j0,pV]
theorem km(l:Nat)(t:T):wt z l (t.app (dot nil))=wt z l t:=by
 rw [gv]
 simp [wt]
theorem mQ(G:Gv z al A far n){l r:Nat}(hr:l<r)(hn:r<n){v u:Int × Int}(h:Is far (B A (r-1-l+1)) (Bg al l (r-1)) (mcost z l) (wt z l) v)(g:Is far (B A (r-l)) (Cl al l r) (cl z l) (wcl z l) u):
  Is far (B A (r-l+1)) (Bg al l r) (mcost z l) (wt z l) (mg (v.1+z.letter,v.2) (u.1+z.pair,u.2)):=by
 have e:B A (r-l+1)=B A (r-l)+4*A:=gE _ _
 have e':r-1-l+1=r-l:=by omega
 rw [e'] at h
 have hl:=G.letter
 have hp:=G.pair
 have h1:Is far (B A (r-l+1)) (fun t=>∃u,Bg al l (r-1) u/\t=u.app (dot nil)) (mcost z l) (wt z l) (v.1+z.letter,v.2):=
  h.map1 (fun u=>u.app (dot nil)) z.letter (fun x y _ _ q=>dF q) (fun x _=>iD l x) (fun x _=>km l x) (fun u=>Iff.rfl) (by rw [e];omega) (by rw [e];omega)
 have h2:Is far (B A (r-l+1)) (fun t=>∃c,Cl al l r c/\t=pr c nil) (mcost z l) (wt z l) (u.1+z.pair,u.2):=
  g.map1 (fun c=>pr c nil) z.pair (fun x y _ _ q=>by injection q) (fun x _=>lL l x) (fun x _=>mE l x) (fun u=>Iff.rfl) (by rw [e];omega) (by rw [e];omega)
 refine h1.union h2 (G.small (by omega)) ?_ ?_
 ·rintro t ⟨u,_,rfl⟩ ⟨c,_,q⟩
  exact kR (u':=nil) q
 ·intro t
  constructor
  ·rintro⟨q,c,hq,hc,rfl⟩
   by_cases e:q=r
   ·subst e
    exact .inr ⟨c,hc,by rw [Nat.sub_self];rfl⟩
   ·refine .inl ⟨pr c (dots (r-1-q)),⟨q,c,by omega,hc,rfl⟩,?_⟩
    rw [<-f9,show r-q=r-1-q+1 by omega]
  ·rintro (⟨u,⟨q,c,hq,hc,rfl⟩,rfl⟩|⟨c,hc,rfl⟩)
   ·refine⟨q,c,by omega,hc,?_⟩
    rw [<-f9,show r-q=r-1-q+1 by omega]
   ·exact⟨r,c,Nat.le_refl _,hc,by rw [Nat.sub_self];rfl⟩
theorem nD(l:Nat)(t:T):mcost z l (dot t)=mcost z (l+1) t+z.letter:=by
 unfold mcost
 simp only [tcost,ntop,ndot]
 rw [Int.natCast_add,Int.add_mul]
 omega
theorem rJ(G:Gv z al A far n){l r:Nat}(hr:l<r)(hn:r<n){v u:Int × Int}(h:Is far (B A (r-l+1)) (Bg al l r) (mcost z l) (wt z l) v)(g:Is far (B A (r-l)) (On al (l+1) r) (mcost z (l+1)) (wt z (l+1)) u):
  Is far (B A (r-l+1)) (On al l r) (mcost z l) (wt z l) (mg v (u.1+z.letter,u.2)):=by
 have e:B A (r-l+1)=B A (r-l)+4*A:=gE _ _
 have hl:=G.letter
 have h2:Is far (B A (r-l+1)) (fun t=>∃u,On al (l+1) r u/\t=dot u) (mcost z l) (wt z l) (u.1+z.letter,u.2):=
  g.map1 (fun u=>dot u) z.letter (fun x y _ _ q=>by injection q) (fun x _=>nD l x) (fun x _=>rfl) (fun u=>Iff.rfl) (by rw [e];omega) (by rw [e];omega)
 refine h.union h2 (G.small (by omega)) ?_ ?_
 ·rintro t ⟨q,c,_,_,rfl⟩ ⟨c',_,q'⟩
  cases q'
 ·intro t
  constructor
  ·rintro⟨o,hl,ht⟩
   cases t with
   |nil=>simp [ntop] at ht
   |dot t=>exact .inr ⟨t,⟨o,by simp only [len] at hl;omega,ht⟩,rfl⟩
   |pr a b=>
    have e1:=fP (t:=b) (by simp only [ntop] at ht;omega)
    simp only [len] at hl
    refine .inl ⟨l+1+a.len,a,by omega,⟨o.1,rfl,o.2.1⟩,?_⟩
    rw [show r-(l+1+a.len)=b.len by omega,<-e1]
  ·rintro (⟨q,c,hq,hc,rfl⟩|⟨u,⟨o,hl,ht⟩,rfl⟩)
   ·have e2:=hc.2.1
    refine⟨⟨by rw [e2];exact hc.1,hc.2.2,dO _ _⟩,?_,?_⟩
    ·simp only [len,bB];omega
    ·simp only [ntop,bL]
   ·exact⟨o,by simp only [len];omega,ht⟩
def La(al:Nat->Nat->Prop)(l r p:Nat)(t:T):Prop:=∃u c,So al l (p-1) u/\Cl al p r c/\t=u.app (pr c nil)
theorem So.len5(G:Gv z al A far n){l r:Nat}{t:T}(h:So al l r t):l+4<=r:=by
 have:=bw G.al4 h.1 h.2.2
 have:=h.2.1
 omega
def mcost'(z:Pz)(l:Nat)(t:T):Int:=mcost z l t-z.pair
theorem pP(G:Gv z al A far n){l r p:Nat}(hp:l<p)(hr:p<r)(hn:r<n){v u:Int × Int}(h:Is far (B A (p-1-l+1)) (So al l (p-1)) (mcost z l) (wt z l) v)(g:Is far (B A (r-p)) (Cl al p r) (cl z p) (wcl z p) u):
  Is far (B A (r-l)) (La al l r p) (mcost' z l) (wt z l) (v.1+u.1,v.2*u.2):=by
 have e':p-1-l+1=p-l:=by omega
 rw [e'] at h
 have e:B A (r-l)=B A (p-l)+B A (r-p):=by rw [<-nS,show p-l+(r-p)=r-l by omega]
 refine h.prod g (fun u c=>u.app (pr c nil)) (fun x x' y y' _ _ _ _ q=>cU q) (fun x y hx _=>?_) (fun x y hx _=>?_) (fun t=>?_) (Int.le_of_eq e.symm) (bg G.A0 _) (bg G.A0 _) G.far0
 ·have e2:=hx.2.1
  unfold mcost'
  rw [j0,lL,show l+x.len=p by omega]
  omega
 ·have e2:=hx.2.1
  rw [gv,mE,show l+x.len=p by omega]
 ·constructor
  ·rintro⟨u,c,h1,h2,h3⟩;exact⟨u,c,h1,h2,h3⟩
  ·rintro⟨u,c,h1,h2,h3⟩;exact⟨u,c,h1,h2,h3⟩
theorem qm(G:Gv z al A far n){l r:Nat}(hr:l<r)(hn:r<n){v u:Int × Int}{Q:T->Prop}(h:Is far (B A (r-1-l+1)) (Tw al l (r-1)) (mcost z l) (wt z l) v)(g:Is far (B A (r-l)) Q (mcost' z l) (wt z l) u)
  (hQ:∀t,Q t↔∃p,l<p/\La al l r p t):
  Is far (B A (r-l+1)) (Tw al l r) (mcost z l) (wt z l) (mg (v.1+z.letter,v.2) (u.1+z.pair,u.2)):=by
 have e:B A (r-l+1)=B A (r-l)+4*A:=gE _ _
 have e':r-1-l+1=r-l:=by omega
 rw [e'] at h
 have hl:=G.letter
 have hp:=G.pair
 have h1:Is far (B A (r-l+1)) (fun t=>∃u,Tw al l (r-1) u/\t=u.app (dot nil)) (mcost z l) (wt z l) (v.1+z.letter,v.2):=
  h.map1 (fun u=>u.app (dot nil)) z.letter (fun x y _ _ q=>dF q) (fun x _=>iD l x) (fun x _=>km l x) (fun u=>Iff.rfl) (by rw [e];omega) (by rw [e];omega)
 have h2:Is far (B A (r-l+1)) Q (mcost z l) (wt z l) (u.1+z.pair,u.2):=
  g.map1 (fun c=>c) z.pair (fun x y _ _ q=>q) (fun x _=>by unfold mcost';omega) (fun x _=>rfl) (fun u=>by simp) (by rw [e];omega) (by rw [e];omega)
 refine h1.union h2 (G.small (by omega)) ?_ ?_
 ·rintro t ⟨u,_,rfl⟩ q
  obtain⟨p,_,u',c,_,_,q⟩:=(hQ _).mp q
  exact kR q
 ·intro t
  rw [hQ]
  constructor
  ·rintro⟨o,hl,ht⟩
   rcases snoc_cases t with rfl |⟨u,rfl⟩|⟨u,c,rfl⟩
   ·simp [ntop] at ht
   ·rw [cP] at o
    rw [len_app] at hl
    rw [cF] at ht
    simp only [len,ntop] at hl ht
    exact .inl ⟨u,⟨o.1,by omega,by omega⟩,rfl⟩
   ·rw [cP] at o
    rw [len_app] at hl
    rw [cF] at ht
    simp only [len,ntop] at hl ht
    obtain⟨o1,o2,o3,_⟩:=o
    have e1:l+u.len+1+c.len=r:=by omega
    have l5:=bw G.al4 o1 (by omega)
    exact .inr ⟨l+u.len,by omega,u,c,⟨o1,by omega,by omega⟩,⟨by rw [<-e1];exact o2,e1,o3⟩,rfl⟩
  ·rintro (⟨u,⟨o,hl,ht⟩,rfl⟩|⟨p,hp,u,c,⟨o,hl,ht⟩,⟨a1,a2,a3⟩,rfl⟩)
   ·refine⟨cP.mpr ⟨o,trivial⟩,?_,?_⟩
    ·rw [len_app];simp only [len];omega
    ·rw [cF];simp only [ntop];omega
   ·have e1:l+u.len=p:=by omega
    refine⟨cP.mpr ⟨o,?_⟩,?_,?_⟩
    ·rw [e1]
     exact⟨by rw [a2];exact a1,a3,trivial⟩
    ·rw [len_app];simp only [len];omega
    ·rw [cF];simp only [ntop];omega
theorem pT(G:Gv z al A far n){l r:Nat}(hl:l<=r)(hn:r<n){v u:Int × Int}(h:Is far (B A (r-l+1)) (On al l r) (mcost z l) (wt z l) v)(g:Is far (B A (r-l+1)) (Tw al l r) (mcost z l) (wt z l) u):
  Is far (B A (r-l+1)) (So al l r) (mcost z l) (wt z l) (mg v u):=by
 refine h.union g (G.small (by omega)) ?_ ?_
 ·rintro t ⟨_,_,h1⟩ ⟨_,_,h2⟩
  omega
 ·intro t
  constructor
  ·rintro⟨o,hl,ht⟩
   by_cases e:t.ntop=1
   ·exact .inl ⟨o,hl,e⟩
   ·exact .inr ⟨o,hl,by omega⟩
  ·rintro (⟨o,hl,ht⟩|⟨o,hl,ht⟩)
   ·exact⟨o,hl,by omega⟩
   ·exact⟨o,hl,by omega⟩
def Hd(al:Nat->Nat->Prop)(n l r:Nat)(t:T):Prop:=∃c u,Cl al l r c/\Rs al n (r+1) u/\t=pr c u
theorem pW(G:Gv z al A far n){l r:Nat}(hr:l<r)(hn:r<n){v u:Int × Int}{Q:T->Prop}(h:Is far (B A (n-l)) Q (tcost z l) (wt z l) v)(g:Is far (B A (r-l)) (Cl al l r) (cl z l) (wcl z l) u){x:Int × Int}
  (k:Is far (B A (n-(r+1))) (Rs al n (r+1)) (tcost z (r+1)) (wt z (r+1)) x) (hQ:∀t,Q t->Hd al n l r t->False):
  Is far (B A (n-l)) (fun t=>Q t\/Hd al n l r t) (tcost z l) (wt z l) (mg v (u.1+x.1,u.2*x.2)):=by
 have e:B A (r-l)+B A (n-(r+1))<=B A (n-l):=by
  rw [<-nS];exact ef G.A0 (by omega)
 have h2:Is far (B A (n-l)) (Hd al n l r) (tcost z l) (wt z l) (u.1+x.1,u.2*x.2):=by
  refine g.prod k (fun c u=>pr c u) (fun x x' y y' _ _ _ _ q=>by injection q with q1 q2;exact⟨q1,q2⟩) (fun c u hc _=>?_) (fun c u hc _=>?_) (fun t=>Iff.rfl) e (bg G.A0 _) (bg G.A0 _) G.far0
  ·have e2:=hc.2.1
   simp only [tcost]
   rw [show l+2+c.len=r+1 by omega]
   unfold cl cl0;omega
  ·have e2:=hc.2.1
   simp only [wt]
   rw [show l+2+c.len=r+1 by omega]
   rfl
 exact h.union h2 (G.small (by omega)) hQ fun t=>Iff.rfl
theorem mF(_G:Gv z al A far n){l:Nat}{v:Int × Int}(h:Is far (B A (n-(l+1))) (Rs al n (l+1)) (tcost z (l+1)) (wt z (l+1)) v):
  Is far (B A (n-(l+1))) (fun t=>∃u,Rs al n (l+1) u/\t=dot u) (tcost z l) (wt z l) v:=by
 have:=h.map1 (c':=tcost z l) (w':=wt z l) (P':=fun t=>∃u,Rs al n (l+1) u/\t=dot u) (fun u=>dot u) 0 (fun x y _ _ q=>by injection q) (fun x _=>by simp only [tcost];omega) (fun x _=>rfl) (fun u=>Iff.rfl) (b':=B A (n-(l+1))) (by omega) (by omega)
 rwa [Int.add_zero] at this
theorem rG(G:Gv z al A far n){l:Nat}(hl:l<n)(t:T):Rs al n l t↔(∃u,Rs al n (l+1) u/\t=dot u)\/∃r,l+4<=r/\r<n/\Hd al n l r t:=by
 constructor
 ·rintro⟨o,hl⟩
  cases t with
  |nil=>simp only [len] at hl;omega
  |dot t=>exact .inl ⟨t,⟨o,by simp only [len] at hl;omega⟩,rfl⟩
  |pr a b=>
   obtain⟨o1,o2,o3⟩:=o
   simp only [len] at hl
   refine .inr ⟨l+1+a.len,G.al4 _ _ o1,G.aln _ _ o1,a,b,⟨o1,rfl,o2⟩,⟨?_,by omega⟩,rfl⟩
   rw [show l+1+a.len+1=l+2+a.len by omega];exact o3
 ·rintro (⟨u,⟨o,hu⟩,rfl⟩|⟨r,_,_,c,u,⟨a1,a2,a3⟩,⟨o,hu⟩,rfl⟩)
  ·exact⟨o,by simp only [len];omega⟩
  ·refine⟨⟨by rw [a2];exact a1,a3,?_⟩,by simp only [len];omega⟩
   rw [show l+2+c.len=r+1 by omega];exact o
theorem mO(l k:Nat):loopc z l (dots k)=z.ends k:=by
 unfold loopc
 rw [bL,bB];simp
theorem mP{l p q:Nat}{c:T}{y:Nat}(hp:l<p)(hq:p+1+c.len=q):loopc z l (wrap (p-l-1) c y)=single z l (q+y+1) p q:=by
 unfold loopc
 rw [eM,bV,ck,eU]
 simp only [Nat.one_ne_zero,if_false,if_true]
 rw [show l+1+(p-l-1+c.len+y+2)=q+y+1 by omega,show l+1+(p-l-1)=p by omega,show q+y+1-1-(p-l-1+y-(p-l-1))=q by omega]
theorem mz{l p q:Nat}{c:T}{y:Nat}(hp:l<p)(hq:p+1+c.len=q):cl0 z l (wrap (p-l-1) c y)=cl z p c+single z l (q+y+1) p q:=by
 unfold cl0
 rw [mP hp hq]
 unfold wrap
 rw [eQ,dG,bB,show l+1+(p-l-1)=p by omega]
 simp only [tcost,dG]
 unfold cl cl0
 omega
theorem n8{l p:Nat}{c:T}{y:Nat}(hp:l<p):wt z (l+1) (wrap (p-l-1) c y)=wcl z p c:=by
 unfold wrap
 rw [gv,eW,bB,show l+1+(p-l-1)=p by omega]
 simp only [wt,eW]
 unfold wcl
 omega
theorem kl{l p q:Nat}{c:T}{y:Nat}(hp:l<p)(hq:p+1+c.len=q):Ok al (l+1) (wrap (p-l-1) c y)↔al p q/\Ok al (p+1) c:=by
 unfold wrap
 rw [cP,bB,show l+1+(p-l-1)=p by omega]
 constructor
 ·rintro⟨_,h1,h2,_⟩
  exact⟨by rw [<-hq];exact h1,h2⟩
 ·rintro⟨h1,h2⟩
  exact⟨dO _ _,by rw [hq];exact h1,h2,dO _ _⟩
def Ar(al:Nat->Nat->Prop)(l r p q:Nat)(a:T):Prop:=∃c,Cl al p q c/\a=wrap (p-l-1) c (r-1-q)
theorem Ar.inj{l r p q p' q':Nat}{a:T}(h1:l<p)(h2:l<p')(h3:q<r)(h4:q'<r)(h:Ar al l r p q a)(g:Ar al l r p' q' a):p=p'/\q=q':=by
 obtain⟨c,_,rfl⟩:=h
 obtain⟨c',_,e⟩:=g
 have:=fH e
 omega
theorem dY(G:Gv z al A far n){l r p q:Nat}(hlr:l<r)(hp:l<p)(hq:q<r){v:Int × Int}(h:Is far (B A (q-p)) (Cl al p q) (cl z p) (wcl z p) v):
  Is far (B A (r-l)-A) (Ar al l r p q) (cl0 z l) (wt z (l+1)) (v.1+single z l r p q,v.2):=by
 have hs:-A<=single z l r p q/\single z l r p q<=A:=by
  unfold single
  simp only
  split
  ·exact G.stack _ _ _ _
  ·split
   ·exact G.side _
   ·exact G.both _
 by_cases hpq:p<=q
 ·have e:B A (q-p)+4*A<=B A (r-l):=by
   rw [<-gE];exact ef G.A0 (by omega)
  have hA:=G.A0
  refine h.map1 (fun c=>wrap (p-l-1) c (r-1-q)) _ (fun x y _ _ q=>(fH q).2.1) (fun c hc=>?_) (fun c hc=>?_) (fun t=>Iff.rfl) (by omega) (by omega)
  ·rw [mz hp hc.2.1,show q+(r-1-q)+1=r by omega]
  ·rw [n8 hp]
 ·have no:∀c,¬Cl al p q c:=fun c hc=>by have:=G.al4 _ _ hc.1;omega
  obtain⟨L,e,sm⟩:=h
  have eL:L=[]:=by
   rw [List.eq_nil_iff_forall_not_mem]
   intro x hx
   exact no x ((e.mem x).mp hx)
  have:=sm.em (by rw [eL];rfl)
  have hB:B A (q-p)=0:=by rw [show q-p=0 by omega,rK]
  have e:B A 1<=B A (r-l):=ef G.A0 (by omega)
  rw [rq] at e
  have hA:=G.A0
  refine Is.empty (fun t=>?_) this.1 ?_
  ·rintro⟨c,hc,_⟩
   exact no c hc
  ·show far-(B A (r-l)-A)<=v.1+_
   omega
theorem rR(G:Gv z al A far n){l r:Nat}(a:T)(hal:al l r):Cl al l r a↔a=dots (r-l-1)\/(Tw al (l+1) (r-1) a\/∃p q,l<p/\q<r/\Ar al l r p q a):=by
 have h4:=G.al4 _ _ hal
 constructor
 ·rintro⟨_,hl,o⟩
  by_cases e0:a.ntop=0
  ·left
   rw [show r-l-1=a.len by omega]
   exact fP e0
  ·right
   by_cases e1:a.ntop=1
   ·right
    obtain⟨x,c,y,rfl⟩:=fV e1
    rw [bV] at hl
    have ex:x=l+1+x-l-1:=by omega
    refine⟨l+1+x,l+1+x+1+c.len,by omega,by omega,c,?_,?_⟩
    ·rw [ex] at o
     have:=(kl (l:=l) (p:=l+1+x) (by omega) rfl).mp o
     exact⟨this.1,rfl,this.2⟩
    ·rw [<-ex,show r-1-(l+1+x+1+c.len)=y by omega]
   ·exact .inl ⟨o,by omega,by omega⟩
 ·rintro (rfl |⟨o,hl,_⟩|⟨p,q,hp,hq,c,⟨c1,c2,c3⟩,rfl⟩)
  ·exact⟨hal,by rw [bB];omega,dO _ _⟩
  ·exact⟨hal,by omega,o⟩
  ·refine⟨hal,by rw [bV];omega,(kl hp c2).mpr ⟨c1,c3⟩⟩
theorem qz(G:Gv z al A far n){l r:Nat}(hr:l+4<=r):Is far (B A (r-l)-A) (fun a=>a=dots (r-l-1)) (cl0 z l) (wt z (l+1)) (z.ends (r-l-1),1):=by
 have hA:=G.A0
 have e:B A 1<=B A (r-l):=ef G.A0 (by omega)
 rw [rq] at e
 have h:=G.ends (r-l-1)
 have c1:cl0 z l (dots (r-l-1))=z.ends (r-l-1):=by
  unfold cl0
  rw [mO,dG];omega
 have:=Is.one (far:=far) (b:=B A (r-l)-A) (P:=fun a=>a=dots (r-l-1)) (c:=cl0 z l) (w:=wt z (l+1)) (dots (r-l-1)) (fun u=>Iff.rfl) (by rw [c1];omega) (by rw [c1];omega) (by rw [eW];omega)
 rwa [c1,eW] at this
theorem pN(G:Gv z al A far n){l r:Nat}(hr:l+4<=r){v:Int × Int}(h:Is far (B A (r-1-(l+1)+1)) (Tw al (l+1) (r-1)) (mcost z (l+1)) (wt z (l+1)) v):
  Is far (B A (r-l)-A) (Tw al (l+1) (r-1)) (cl0 z l) (wt z (l+1)) (v.1+(z.once+z.pair),v.2):=by
 have hA:=G.A0
 have e:B A (r-l)=B A (r-1-(l+1)+1)+4*A:=by rw [<-gE,show r-l=r-1-(l+1)+1+1 by omega]
 have h1:=G.once
 have h2:=G.pair
 refine h.map1 (fun a=>a) (z.once+z.pair) (fun x y _ _ q=>q) (fun a ha=>?_) (fun a _=>rfl) (fun u=>by simp) (by omega) (by omega)
 have:=ha.2.2
 unfold cl0 loopc mcost
 rw [if_neg (by omega),if_neg (by omega),Int.add_mul]
 omega
theorem oX(G:Gv z al A far n){l r:Nat}{v:Int × Int}(h:Is far (B A (r-l)-A) (Cl al l r) (cl0 z l) (wt z (l+1)) v):
  Is far (B A (r-l)) (Cl al l r) (cl z l) (wcl z l) (v.1+z.ex l r,z.wf l r*v.2):=by
 have h1:=G.ex l r
 refine h.map (fun a=>a) (z.ex l r) (z.wf l r) (fun x y _ _ q=>q) (fun a ha=>?_) (fun a ha=>?_) (fun u=>by simp) (G.wf l r) (by omega) (by omega)
 ·have:=ha.2.1
  unfold cl
  rw [this]
 ·have:=ha.2.1
  unfold wcl
  rw [this,Int.mul_comm]
end
end Fs
end
section
namespace Fs
open T
theorem cj(l:List Int)(i j:Nat)(v:Int)(hi:i<l.length):g (l.set i v) j=if i=j then v else g l j:=by
 unfold g
 rw [List.getD_eq_getElem?_getD,List.getElem?_set,List.getD_eq_getElem?_getD]
 by_cases e:i=j
 ·subst e
  rw [if_pos rfl,if_pos rfl,if_pos hi];rfl
 ·rw [if_neg e,if_neg e]
theorem aR(n:Nat)(v:Int)(j:Nat)(h:j<n):g (List.replicate n v) j=v:=by
 unfold g
 rw [List.getD_eq_getElem?_getD,List.getElem?_replicate,if_pos h];rfl
def zOf(s:List Int)(p:Prc):Pz:=
 {ends:=fun m=>g p.tab.ends m
  stack:=fun l r p' q=>g p.tab.stacks (6*aE s l r+aE s p' q).toNat
  side:=fun m=>g p.tab.sides m
  both:=fun m=>g p.tab.both m
  once:=p.tab.once
  pair:=p.tab.pair
  letter:=p.tab.letter
  ex:=fun l r=>g p.opening l+g p.closing r
  wf:=fun l r=>if p.mark=some ((l:Int),(r:Int)) then p.weight else 1}
def alOf(s:List Int)(l r:Nat):Prop:=l+4<=r/\r<s.length/\0<=aE s l r
section
variable {s:List Int}{p:Prc}{A:Int}
def Row.pv(R:Row)(r:Nat):Int × Int:=(g R.pc r,g R.pw r)
def Row.ov(R:Row)(r:Nat):Int × Int:=(g R.oc r,g R.ow r)
def Row.tv(R:Row)(r:Nat):Int × Int:=(g R.tc r,g R.tw r)
variable (s p A)
def PIs(l r:Nat)(v:Int × Int):Prop:=Is p.far (B A (r-l)) (Cl (alOf s) l r) (cl (zOf s p) l) (wcl (zOf s p) l) v
def OIs(l r:Nat)(v:Int × Int):Prop:=Is p.far (B A (r-l+1)) (On (alOf s) l r) (mcost (zOf s p) l) (wt (zOf s p) l) v
def TIs(l r:Nat)(v:Int × Int):Prop:=Is p.far (B A (r-l+1)) (Tw (alOf s) l r) (mcost (zOf s p) l) (wt (zOf s p) l) v
def SIs(l r:Nat)(v:Int × Int):Prop:=Is p.far (B A (r-l+1)) (So (alOf s) l r) (mcost (zOf s p) l) (wt (zOf s p) l) v
def RIs(l:Nat)(v:Int × Int):Prop:=Is p.far (B A (s.length-l)) (Rs (alOf s) s.length l) (tcost (zOf s p) l) (wt (zOf s p) l) v
structure RowLen(n:Nat)(R:Row):Prop where
 pc:R.pc.length=n
 pw:R.pw.length=n
 oc:R.oc.length=n
 ow:R.ow.length=n
 tc:R.tc.length=n
 tw:R.tw.length=n
structure RowOk(l:Nat)(R:Row):Prop where
 len:RowLen s.length R
 pr:∀r,r<s.length->PIs s p A l r (R.pv r)
 on:∀r,r<s.length->OIs s p A l r (R.ov r)
 tw:∀r,r<s.length->TIs s p A l r (R.tv r)
def ArcOk(row:Nat->Row)(L r:Nat)(a:Arcs):Prop:=∃ps:List Nat,ps.Nodup/\(∀q,q∈ps↔L<=q/\q<s.length+2/\g (row q).pw r > 0)/\
 a.pl=ps.map (fun q:Nat=>(q:Int)-1)/\a.cs=ps.map (fun q:Nat=>g (row q).pc r)/\a.ws=ps.map (fun q:Nat=>g (row q).pw r)
structure SrInv(L:Nat)(S:Sr):Prop where
 nrows:S.rows.length=s.length+2
 narcs:S.arcs.length=s.length
 nrc:S.rc.length=s.length+1
 nrw:S.rw.length=s.length+1
 done:∀l,L<=l->l<s.length+2->RowOk s p A l (S.row l)
 todo:∀l,l<L->S.row l=Row.new s.length p.far
 arcs:∀r,r<s.length->ArcOk s S.row (L+2) r (S.arc r)
 rest:∀l,L<=l->l<=s.length->RIs s p A l (g S.rc l,g S.rw l)
variable {s p A}
abbrev Gz(s:List Int)(p:Prc)(A:Int):Prop:=Gv (zOf s p) (alOf s) A p.far s.length
theorem dD(n:Nat)(far:Int):RowLen n (Row.new n far):=by
 unfold Row.new
 constructor <;> simp
theorem nE{n r:Nat}{far:Int}(h:r<n):(Row.new n far).pv r=(far,0):=by
 unfold Row.new Row.pv
 simp only [aR _ _ _ h]
theorem vB{n r:Nat}{far:Int}(h:r<n):(Row.new n far).ov r=(far,0):=by
 unfold Row.new Row.ov
 simp only [aR _ _ _ h]
theorem u0{n r:Nat}{far:Int}(h:r<n):(Row.new n far).tv r=(far,0):=by
 unfold Row.new Row.tv
 simp only [aR _ _ _ h]
theorem cO{α:Type}{far b:Int}{P:α->Prop}{c w:α->Int}(h:∀t,¬P t)(hb:0<=b):Is far b P c w (far,0):=Is.empty h rfl (by show far-b<=far;omega)
theorem qv(G:Gz s p A){l r:Nat}(h:r<l+4)(c:T):¬Cl (alOf s) l r c:=fun q=>by have:=G.al4 _ _ q.1;omega
theorem mS{l r:Nat}(h:¬aE s l r>=0)(c:T):¬Cl (alOf s) l r c:=fun q=>h q.1.2.2
theorem uC(G:Gz s p A){l r:Nat}(h:r<l+4)(t:T):¬On (alOf s) l r t:=fun q=>by
 have:=bw G.al4 q.1 (by rw [q.2.2];omega)
 have:=q.2.1
 omega
theorem tj(G:Gz s p A){l r:Nat}(h:r<l+4)(t:T):¬Tw (alOf s) l r t:=fun q=>by
 have:=bw G.al4 q.1 (by have:=q.2.2;omega)
 have:=q.2.1
 omega
theorem vH(G:Gz s p A){l r:Nat}(h:r<l+4)(t:T):¬So (alOf s) l r t:=fun q=>by
 have:=bw G.al4 q.1 (by have:=q.2.2;omega)
 have:=q.2.1
 omega
theorem pJ(G:Gz s p A){l:Nat}(h:s.length<=l):RowOk s p A l (Row.new s.length p.far):=by
 refine⟨dD _ _,fun r hr=>?_,fun r hr=>?_,fun r hr=>?_⟩
 ·rw [nE hr];exact cO (qv G (by omega)) (bg G.A0 _)
 ·rw [vB hr];exact cO (uC G (by omega)) (bg G.A0 _)
 ·rw [u0 hr];exact cO (tj G (by omega)) (bg G.A0 _)
theorem bp{α:Type}(n:Nat)(v d:α)(j:Nat)(h:j<n):(List.replicate n v).getD j d=v:=by
 rw [List.getD_eq_getElem?_getD,List.getElem?_replicate,if_pos h];rfl
theorem vo(G:Gz s p A):SrInv s p A s.length (Sr.new s.length p.far):=by
 have hrow:∀l,l<s.length+2->(Sr.new s.length p.far).row l=Row.new s.length p.far:=fun l hl=>by
  unfold Sr.new Sr.row
  simp only
  exact bp _ _ _ _ hl
 refine⟨by simp [Sr.new],by simp [Sr.new],by simp [Sr.new],by simp [Sr.new],fun l h1 h2=>?_,fun l h=>?_,fun r hr=>?_,fun l h1 h2=>?_⟩
 ·rw [hrow l h2];exact pJ G h1
 ·exact hrow l (by omega)
 ·refine⟨[],List.nodup_nil,fun q=>?_,?_⟩
  ·constructor
   ·intro h;simp at h
   ·rintro⟨h1,h2,_⟩;omega
  ·have:(Sr.new s.length p.far).arc r=⟨[],[],[]⟩:=by
    unfold Sr.new Sr.arc
    simp only
    exact bp _ _ _ _ hr
   rw [this]
   exact⟨rfl,rfl,rfl⟩
 ·have e:l=s.length:=by omega
  subst e
  have:(g (Sr.new s.length p.far).rc s.length,g (Sr.new s.length p.far).rw s.length)=((0:Int),(1:Int)):=by
   unfold Sr.new
   simp only
   rw [aR _ _ _ (by omega),aR _ _ _ (by omega)]
  rw [this]
  unfold RIs
  rw [Nat.sub_self,rK]
  have:=Is.one (far:=p.far) (b:=0) (P:=Rs (alOf s) s.length s.length) (c:=tcost (zOf s p) s.length) (w:=wt (zOf s p) s.length) T.nil (fun u=>?_) (by simp [tcost]) (by simp [tcost]) (by simp [wt])
  ·simpa [tcost,wt] using this
  ·constructor
   ·rintro⟨_,h⟩
    cases u with
    |nil=>rfl
    |dot t=>simp only [len] at h;omega
    |pr a b=>simp only [len] at h;omega
   ·rintro rfl
    exact⟨trivial,rfl⟩
theorem di{α:Type}(l:List α)(i j:Nat)(v d:α)(hi:i<l.length):(l.set i v).getD j d=if i=j then v else l.getD j d:=by
 rw [List.getD_eq_getElem?_getD,List.getElem?_set,List.getD_eq_getElem?_getD]
 by_cases e:i=j
 ·subst e
  rw [if_pos rfl,if_pos rfl,if_pos hi];rfl
 ·rw [if_neg e,if_neg e]
theorem mj(R:Row)(l r:Nat)(X:List Arcs):(bz R l r X).length=X.length:=by
 unfold bz
 split <;> simp
theorem cT{R:Row}{l:Nat}{X:List Arcs}:∀k,l+4+k<=X.length->(iter (bz R l) (l+4) k X).length=X.length/\
  ∀r,r<X.length->(iter (bz R l) (l+4) k X).getD r default=if l+4<=r/\r<l+4+k/\g R.pw r > 0 then (X.getD r default).put ((l:Int)-1) (g R.pc r) (g R.pw r) else X.getD r default
 |0,_=>⟨rfl,fun r _=>by rw [if_neg (by omega)];rfl⟩
 |k+1,h=>by
  obtain⟨ih1,ih2⟩:=cT (R:=R) (l:=l) (X:=X) k (by omega)
  constructor
  ·show (bz R l (l+4+k) _).length=_
   rw [mj,ih1]
  ·intro r hr
   show (bz R l (l+4+k) (iter (bz R l) (l+4) k X)).getD r default=_
   generalize iter (bz R l) (l+4) k X=Y at ih1 ih2 ⊢
   unfold bz
   by_cases e:g R.pw (l+4+k) > 0
   ·rw [if_pos e,di _ _ _ _ _ (by rw [ih1];omega)]
    by_cases q:l+4+k=r
    ·subst q
     rw [if_pos rfl,if_pos ⟨by omega,by omega,e⟩,ih2 _ (by omega),if_neg (by omega)]
    ·rw [if_neg q,ih2 r hr]
     by_cases c:l+4<=r/\r<l+4+k/\g R.pw r > 0
     ·rw [if_pos c,if_pos ⟨c.1,by omega,c.2.2⟩]
     ·rw [if_neg c,if_neg (by rintro⟨c1,c2,c3⟩;exact c ⟨c1,by omega,c3⟩)]
   ·rw [if_neg e,ih2 r hr]
    by_cases c:l+4<=r/\r<l+4+k/\g R.pw r > 0
    ·rw [if_pos c,if_pos ⟨c.1,by omega,c.2.2⟩]
    ·rw [if_neg c,if_neg (by
      rintro⟨c1,c2,c3⟩
      by_cases q:r=l+4+k
      ·subst q;exact e c3
      ·exact c ⟨c1,by omega,c3⟩)]
structure Mid(s:List Int)(p:Prc)(A:Int)(l:Nat)(S:Sr):Prop where
 nrows:S.rows.length=s.length+2
 narcs:S.arcs.length=s.length
 nrc:S.rc.length=s.length+1
 nrw:S.rw.length=s.length+1
 done:∀k,l<k->k<s.length+2->RowOk s p A k (S.row k)
 todo:∀k,k<l->S.row k=Row.new s.length p.far
 arcs:∀r,r<s.length->ArcOk s S.row (l+2) r (S.arc r)
 rest:∀k,l<k->k<=s.length->RIs s p A k (g S.rc k,g S.rw k)
theorem PIs.pos_al(G:Gz s p A){l r:Nat}{v:Int × Int}(h:PIs s p A l r v)(q:v.2 > 0):l+4<=r:=by
 obtain⟨L,e,sm⟩:=h
 cases L with
 |nil=>
  have:=(sm.em rfl).1
  omega
 |cons t L=>
  have:=(e.mem t).mp (by simp)
  exact G.al4 _ _ this.1
theorem gQ(G:Gz s p A){l:Nat}{S:Sr}(hl:l<s.length)(h:SrInv s p A (l+1) S):Mid s p A l (release s (l+2) S)/\(release s (l+2) S).row l=Row.new s.length p.far:=by
 have hrow:∀k,(release s (l+2) S).row k=S.row k:=fun k=>rfl
 refine⟨⟨h.nrows,?_,h.nrc,h.nrw,fun k h1 h2=>h.done k h1 h2,fun k h1=>h.todo k (by omega),fun r hr=>?_,fun k h1 h2=>h.rest k h1 h2⟩,h.todo l (by omega)⟩
 ·by_cases q:l+2+4<=s.length
  ·have:=(cT (R:=S.row (l+2)) (l:=l+2) (X:=S.arcs) (s.length-(l+2+4)) (by rw [h.narcs];omega)).1
   rw [h.narcs] at this
   exact this
  ·show (iter _ _ (s.length-(l+2+4)) S.arcs).length=_
   rw [show s.length-(l+2+4)=0 by omega]
   exact h.narcs
 ·obtain⟨ps,nd,mem,e1,e2,e3⟩:=h.arcs r hr
  have ok:=h.done (l+2) (by omega) (by omega)
  have key:(release s (l+2) S).arc r=if g (S.row (l+2)).pw r > 0 then (S.arc r).put (((l+2:Nat):Int)-1) (g (S.row (l+2)).pc r) (g (S.row (l+2)).pw r) else S.arc r:=by
   show (iter (bz (S.row (l+2)) (l+2)) (l+2+4) (s.length-(l+2+4)) S.arcs).getD r default=_
   by_cases q:l+2+4<=s.length
   ·rw [(cT (R:=S.row (l+2)) (l:=l+2) (X:=S.arcs) (s.length-(l+2+4)) (by rw [h.narcs];omega)).2 r (by rw [h.narcs];exact hr)]
    by_cases c:g (S.row (l+2)).pw r > 0
    ·have:=PIs.pos_al G (ok.pr r hr) c
     rw [if_pos c,if_pos ⟨by omega,by omega,c⟩];rfl
    ·rw [if_neg c,if_neg (fun z=>c z.2.2)];rfl
   ·rw [show s.length-(l+2+4)=0 by omega]
    by_cases c:g (S.row (l+2)).pw r > 0
    ·have:=PIs.pos_al G (ok.pr r hr) c
     omega
    ·rw [if_neg c];rfl
  rw [key]
  by_cases c:g (S.row (l+2)).pw r > 0
  ·rw [if_pos c]
   refine⟨ps++[l+2],?_,fun q=>?_,?_,?_,?_⟩
   ·rw [List.nodup_append]
    refine⟨nd,by simp,fun x hx y hy e=>?_⟩
    simp at hy
    have:=((mem x).mp hx).1
    omega
   ·rw [List.mem_append,mem,List.mem_singleton]
    constructor
    ·rintro (⟨a,b,c'⟩|rfl)
     ·exact⟨by omega,b,c'⟩
     ·exact⟨by omega,by omega,c⟩
    ·rintro⟨a,b,c'⟩
     by_cases e:q=l+2
     ·exact .inr e
     ·exact .inl ⟨by omega,b,c'⟩
   ·unfold Arcs.put
    simp only
    rw [e1,List.map_append];rfl
   ·unfold Arcs.put
    simp only
    rw [e2,List.map_append];rfl
   ·unfold Arcs.put
    simp only
    rw [e3,List.map_append];rfl
  ·rw [if_neg c]
   refine⟨ps,nd,fun q=>?_,e1,e2,e3⟩
   rw [mem]
   constructor
   ·rintro⟨a,b,c'⟩;exact⟨by omega,b,c'⟩
   ·rintro⟨a,b,c'⟩
    refine⟨?_,b,c'⟩
    by_cases e:q=l+2
    ·subst e;exact (c c').elim
    ·omega
end
end Fs
end
section
namespace Fs
open T
section
variable {s:List Int}{p:Prc}{A:Int}
def WS(al:Nat->Nat->Prop)(l r:Nat)(σ:Nat)(x:Nat × Nat × T):Prop:=l+2<=x.1/\x.2.1+2<=r/\x.2.1=x.1+4+σ/\Cl al x.1 x.2.1 x.2.2
def WIs(s:List Int)(p:Prc)(A:Int)(P:Nat × Nat × T->Prop)(σ:Nat)(v:Int × Int):Prop:=Is p.far (B A (4+σ)) P (fun x=>cl (zOf s p) x.1 x.2.2) (fun x=>wcl (zOf s p) x.1 x.2.2) v
def Win.v(W:Win)(σ:Nat):Int × Int:=(g W.lows σ,g W.cnts σ)
theorem tE(W:Win)(widest:Int)(x:Int × Int × Int)(k:Nat)(hk:(widest-x.1).toNat=k)(h1:k<W.lows.length)(h2:k<W.cnts.length):
  (W.take1 widest x).lows.length=W.lows.length/\(W.take1 widest x).cnts.length=W.cnts.length/\∀σ,(W.take1 widest x).v σ=if k=σ then mg (W.v k) (x.2.1,x.2.2) else W.v σ:=by
 unfold Win.take1
 simp only [hk]
 by_cases q1:x.2.1<g W.lows k
 ·rw [if_pos q1]
  refine⟨by simp,by simp,fun σ=>?_⟩
  unfold Win.v
  simp only
  rw [cj _ _ _ _ h1,cj _ _ _ _ h2]
  by_cases e:k=σ
  ·rw [if_pos e,if_pos e,if_pos e]
   unfold mg
   rw [if_neg (by simp only;omega),if_pos q1]
  ·rw [if_neg e,if_neg e,if_neg e]
 ·rw [if_neg q1]
  by_cases q2:x.2.1=g W.lows k
  ·rw [if_pos q2]
   refine⟨rfl,by simp,fun σ=>?_⟩
   unfold Win.v
   simp only
   rw [cj _ _ _ _ h2]
   by_cases e:k=σ
   ·subst e
    rw [if_pos rfl,if_pos rfl]
    unfold mg
    rw [if_neg (by simp only;omega),if_neg q1]
   ·rw [if_neg e,if_neg e]
  ·rw [if_neg q2]
   refine⟨rfl,rfl,fun σ=>?_⟩
   by_cases e:k=σ
   ·subst e
    rw [if_pos rfl]
    unfold mg Win.v
    rw [if_pos (by simp only;omega)]
   ·rw [if_neg e]
theorem lu{α:Type}(f1 f2 f3:α->Int):∀l:List α,(l.map f1).zip ((l.map f2).zip (l.map f3))=l.map fun x=>(f1 x,f2 x,f3 x)
 |[]=>rfl
 |x::l=>by simp only [List.map_cons,List.zip_cons_cons,lu f1 f2 f3 l]
theorem cR{α β γ:Type}(f1:α->β)(f2:α->γ):∀l:List α,(l.map f1).zip (l.map f2)=l.map fun x=>(f1 x,f2 x)
 |[]=>rfl
 |x::l=>by simp only [List.map_cons,List.zip_cons_cons,cR f1 f2 l]
theorem jC(G:Gz s p A){l q:Nat}{row:Nat->Row}(hq:q+1<s.length)(hok:∀k,l<k->k<s.length+2->RowOk s p A k (row k)):∀(ps:List Nat) (W:Win) (P:Nat->Nat × Nat × T->Prop),ps.Nodup->
  (∀k∈ps,l+2<=k/\k<s.length+2/\g (row k).pw q > 0)->W.lows.length=s.length->W.cnts.length=s.length->(∀σ,σ<s.length->WIs s p A (P σ) σ (W.v σ))->(∀σ x,P σ x->x.2.1=q->x.1∈ps->False)->
  ((ps.map fun k:Nat=>((k:Int)-1,g (row k).pc q,g (row k).pw q)).foldl (Win.take1 ((q:Int)-4-1)) W).lows.length=s.length/\
  ((ps.map fun k:Nat=>((k:Int)-1,g (row k).pc q,g (row k).pw q)).foldl (Win.take1 ((q:Int)-4-1)) W).cnts.length=s.length/\
  ∀σ,σ<s.length->WIs s p A (fun x=>P σ x\/(x.1∈ps/\x.2.1=q/\x.2.1=x.1+4+σ/\Cl (alOf s) x.1 x.2.1 x.2.2)) σ (((ps.map fun k:Nat=>((k:Int)-1,g (row k).pc q,g (row k).pw q)).foldl (Win.take1 ((q:Int)-4-1)) W).v σ)
 |[],W,P,_,_,h1,h2,h3,_=>⟨h1,h2,fun σ hσ=>(h3 σ hσ).congr (fun x=>by simp) (fun _ _=>rfl) (fun _ _=>rfl)⟩
 |k::ps,W,P,nd,hps,h1,h2,h3,h4=>by
  obtain⟨k1,k2,k3⟩:=hps k (by simp)
  have okk:=(hok k (by omega) k2).pr q (by omega)
  have k4:k+4<=q:=PIs.pos_al G okk k3
  have hsp:(((q:Int)-4-1)-((k:Int)-1)).toNat=q-4-k:=by omega
  obtain⟨t1,t2,t3⟩:=tE W ((q:Int)-4-1) ((k:Int)-1,g (row k).pc q,g (row k).pw q) (q-4-k) hsp (by omega) (by omega)
  rw [List.map_cons,List.foldl_cons]
  generalize hW:W.take1 ((q:Int)-4-1) ((k:Int)-1,g (row k).pc q,g (row k).pw q)=W' at t1 t2 t3
  have ih:=jC G hq hok ps W' (fun σ x=>P σ x\/(x.1=k/\x.2.1=q/\x.2.1=x.1+4+σ/\Cl (alOf s) x.1 x.2.1 x.2.2)) (List.nodup_cons.mp nd).2 (fun j hj=>hps j (by simp [hj])) (by rw [t1];exact h1) (by rw [t2];exact h2) ?_ ?_
  ·obtain⟨i1,i2,i3⟩:=ih
   refine⟨i1,i2,fun σ hσ=>(i3 σ hσ).congr (fun x=>?_) (fun _ _=>rfl) (fun _ _=>rfl)⟩
   constructor
   ·rintro ((a |⟨a,b⟩)|⟨a,b⟩)
    ·exact .inl a
    ·exact .inr ⟨by simp [a],b⟩
    ·exact .inr ⟨by simp [a],b⟩
   ·rintro (a |⟨a,b⟩)
    ·exact .inl (.inl a)
    ·rcases List.mem_cons.mp a with a |a
     ·exact .inl (.inr ⟨a,b⟩)
     ·exact .inr ⟨a,b⟩
  ·intro σ hσ
   rw [t3]
   by_cases e:q-4-k=σ
   ·subst e
    rw [if_pos rfl]
    have hx:WIs s p A (fun x:Nat × Nat × T=>x.1=k/\x.2.1=q/\x.2.1=x.1+4+(q-4-k)/\Cl (alOf s) x.1 x.2.1 x.2.2) (q-4-k) (g (row k).pc q,g (row k).pw q):=by
     unfold WIs
     have eb:q-k=4+(q-4-k):=by omega
     have:=okk
     unfold PIs at this
     rw [eb] at this
     have:=this.map1 (fun c=>(k,q,c)) 0 (c':=fun x:Nat × Nat × T=>cl (zOf s p) x.1 x.2.2) (w':=fun x:Nat × Nat × T=>wcl (zOf s p) x.1 x.2.2) (P':=fun x:Nat × Nat × T=>x.1=k/\x.2.1=q/\x.2.1=x.1+4+(q-4-k)/\Cl (alOf s) x.1 x.2.1 x.2.2)
      (fun x y _ _ e=>by injection e with _ e;injection e) (fun x _=>by simp only;omega) (fun x _=>rfl) (fun u=>?_) (b':=B A (4+(q-4-k))) (by omega) (by omega)
     ·rwa [Int.add_zero] at this
     ·obtain⟨u1,u2,u3⟩:=u
      constructor
      ·rintro⟨a,b,c,d⟩
       simp only at a b c d
       subst a b
       exact⟨u3,d,rfl⟩
      ·rintro⟨x,hx,e⟩
       injection e with e1 e2
       injection e2 with e2 e3
       subst e1 e2 e3
       exact⟨rfl,rfl,by simp only;omega,hx⟩
    refine Is.union (h3 _ hσ) hx (G.small (by omega)) ?_ (fun x=>Iff.rfl)
    rintro x px ⟨a,b,_⟩
    exact h4 _ x px b (by simp [a])
   ·rw [if_neg e]
    refine (h3 σ hσ).congr (fun x=>?_) (fun _ _=>rfl) (fun _ _=>rfl)
    constructor
    ·exact .inl
    ·rintro (a |⟨a,b,c,_⟩)
     ·exact a
     ·omega
  ·rintro σ x (a |⟨a,_⟩) b c
   ·exact h4 σ x a b (by simp [c])
   ·subst a
    exact (List.nodup_cons.mp nd).1 c
structure WinOk(s:List Int)(p:Prc)(A:Int)(l r:Nat)(W:Win):Prop where
 l1:W.lows.length=s.length
 l2:W.cnts.length=s.length
 is:∀σ,σ<s.length->WIs s p A (WS (alOf s) l r σ) σ (W.v σ)
theorem mw(G:Gz s p A){l r:Nat}{S:Sr}(hr:l+4<=r)(hn:r<s.length)(h:Mid s p A l S){W:Win}(hW:WinOk s p A l (r-1) W):WinOk s p A l r (W.widen (S.arc (r-2)) (r-2)):=by
 obtain⟨ps,nd,mem,e1,e2,e3⟩:=h.arcs (r-2) (by omega)
 have key:W.widen (S.arc (r-2)) (r-2)=(ps.map fun k:Nat=>((k:Int)-1,g (S.row k).pc (r-2),g (S.row k).pw (r-2))).foldl (Win.take1 (((r-2:Nat):Int)-4-1)) W:=by
  unfold Win.widen Arcs.trip
  rw [e1,e2,e3,lu]
 have:=jC G (q:=r-2) (by omega) (fun k h1 h2=>h.done k h1 h2) ps W (fun σ=>WS (alOf s) l (r-1) σ) nd (fun k hk=>(mem k).mp hk) hW.l1 hW.l2 hW.is ?_
 ·rw [<-key] at this
  obtain⟨i1,i2,i3⟩:=this
  refine⟨i1,i2,fun σ hσ=>(i3 σ hσ).congr (fun x=>?_) (fun _ _=>rfl) (fun _ _=>rfl)⟩
  constructor
  ·rintro (⟨a,b,c,d⟩|⟨a,b,c,d⟩)
   ·exact⟨a,by omega,c,d⟩
   ·exact⟨((mem _).mp a).1,by omega,c,d⟩
  ·rintro⟨a,b,c,d⟩
   by_cases e:x.2.1=r-2
   ·refine .inr ⟨(mem _).mpr ⟨a,?_,?_⟩,e,c,d⟩
    ·have:=G.aln _ _ d.1
     have:=G.al4 _ _ d.1
     omega
    ·have n1:=(h.done x.1 (by omega) (by have:=G.aln _ _ d.1;have:=G.al4 _ _ d.1;omega)).pr (r-2) (by omega)
     apply Decidable.byContradiction
     intro z
     rw [e] at d
     exact n1.none_of_zero z x.2.2 d
   ·exact .inl ⟨a,by omega,c,d⟩
 ·rintro σ x ⟨_,b,_⟩ e _
  omega
def ShOk(s:List Int)(row:Nat->Row)(l r:Nat)(a:Arcs):Prop:=∃es:List Nat,es.Nodup/\(∀e,e∈es↔l+2<=e/\e+2<=r/\g (row (l+1)).pw e > 0)/\
 a.pl=es.map (fun e:Nat=>(e:Int))/\a.cs=es.map (fun e:Nat=>g (row (l+1)).pc e)/\a.ws=es.map (fun e:Nat=>g (row (l+1)).pw e)
theorem uB{l r:Nat}{row:Nat->Row}(hr:l+4<=r){a:Arcs}(h:ShOk s row l (r-1) a):
  ShOk s row l r (if g (row (l+1)).pw (r-2) > 0 then a.put ((r:Int)-2) (g (row (l+1)).pc (r-2)) (g (row (l+1)).pw (r-2)) else a):=by
 obtain⟨es,nd,mem,e1,e2,e3⟩:=h
 by_cases c:g (row (l+1)).pw (r-2) > 0
 ·rw [if_pos c]
  refine⟨es++[r-2],?_,fun q=>?_,?_,?_,?_⟩
  ·rw [List.nodup_append]
   refine⟨nd,by simp,fun x hx y hy e=>?_⟩
   simp at hy
   have:=((mem x).mp hx).2.1
   omega
  ·rw [List.mem_append,mem,List.mem_singleton]
   constructor
   ·rintro (⟨a,b,c'⟩|rfl)
    ·exact⟨by omega,by omega,c'⟩
    ·exact⟨by omega,by omega,c⟩
   ·rintro⟨a,b,c'⟩
    by_cases e:q=r-2
    ·exact .inr e
    ·exact .inl ⟨by omega,by omega,c'⟩
  ·unfold Arcs.put
   simp only
   rw [e1,List.map_append]
   congr 1
   simp only [List.map_cons,List.map_nil]
   congr 1
   omega
  ·unfold Arcs.put
   simp only
   rw [e2,List.map_append];rfl
  ·unfold Arcs.put
   simp only
   rw [e3,List.map_append];rfl
 ·rw [if_neg c]
  refine⟨es,nd,fun q=>?_,e1,e2,e3⟩
  rw [mem]
  constructor
  ·rintro⟨a,b,c'⟩;exact⟨by omega,by omega,c'⟩
  ·rintro⟨a,b,c'⟩
   refine⟨a,?_,c'⟩
   by_cases e:q=r-2
   ·subst e;exact (c c').elim
   ·omega
abbrev CIs(s:List Int)(p:Prc)(A:Int)(l r:Nat)(P:T->Prop)(v:Int × Int):Prop:=Is p.far (B A (r-l)-A) P (cl0 (zOf s p) l) (wt (zOf s p) (l+1)) v
theorem small'(G:Gz s p A){m:Nat}(h:m<=s.length+1):2*(B A m-A)<p.far:=by
 have:=G.small h
 have:=G.A0
 omega
theorem oH(G:Gz s p A){l r:Nat}{S:Sr}(hal:alOf s l r)(h:Mid s p A l S):
  CIs s p A l r (fun a=>a=dots (r-l-1)\/Tw (alOf s) (l+1) (r-1) a\/Ar (alOf s) l r (l+1) (r-1) a) (bS s p S l r (aE s l r)):=by
 obtain⟨hr,hn,hs⟩:=hal
 have ok:=h.done (l+1) (by omega) (by omega)
 have h1:=qz G (l:=l) (r:=r) hr
 have h2:=pN G hr (ok.tw (r-1) (by omega))
 have h3:=dY G (l:=l) (r:=r) (by omega) (by omega) (by omega) (ok.pr (r-1) (by omega))
 have hs':single (zOf s p) l r (l+1) (r-1)=g p.tab.stacks (6*aE s l r+aE s (l+1) (r-1)).toNat:=by
  unfold single
  simp only
  rw [if_pos (by omega)];rfl
 have u1:CIs s p A l r (fun a=>a=dots (r-l-1)\/Tw (alOf s) (l+1) (r-1) a) _:=h1.union h2 (small' G (by omega)) (by
  rintro t rfl ⟨_,_,h⟩
  rw [bL] at h;omega) (fun t=>Iff.rfl)
 unfold bS
 simp only
 by_cases q:aE s (l+1) (r-1)<0
 ·rw [if_pos q]
  refine Is.congr u1 (fun t=>?_) (fun _ _=>rfl) (fun _ _=>rfl)
  constructor
  ·rintro (a |a)
   ·exact .inl a
   ·exact .inr (.inl a)
  ·rintro (a |a |⟨c,hc,_⟩)
   ·exact .inl a
   ·exact .inr a
   ·have:=hc.1.2.2
    omega
 ·rw [if_neg q]
  rw [hs'] at h3
  refine Is.union u1 h3 (small' G (by omega)) ?_ (fun t=>?_)
  ·rintro t (rfl |⟨_,_,a⟩) ⟨c,hc,e⟩
   ·have:=congrArg ntop e
    rw [bL,eM] at this
    omega
   ·rw [e,eM] at a
    omega
  ·constructor
   ·rintro (a |a |a)
    ·exact .inl (.inl a)
    ·exact .inl (.inr a)
    ·exact .inr a
   ·rintro ((a |a)|a)
    ·exact .inl a
    ·exact .inr (.inl a)
    ·exact .inr (.inr a)
theorem fh{α:Type}(f:Int × Int)(es:List α)(c w:α->Int):offered f (es.map c) (es.map w)=es.foldl (fun a e=>mg a (c e,w e)) f:=by
 rw [gd _ _ _ (by simp),cR,List.foldl_map]
theorem mZ{al:Nat->Nat->Prop}{l r q k:Nat}{t:T}(h:Ar al l r q k t):t.ntop=1:=by
 obtain⟨c,_,rfl⟩:=h
 exact eM _ _ _
theorem rY(p:Prc)(h:p.tab.both.length=100)(i:Nat):(p.down)[i]?=if i<98 then some (g p.tab.both (99-i)) else none:=by
 unfold Prc.down g
 by_cases q:i<98
 ·rw [if_pos q,List.getElem?_reverse (by simp [h];omega),List.getElem?_take,if_pos (by simp [h];omega),List.getElem?_drop,List.getD_eq_getElem?_getD]
  have e:2+((((p.tab.both.drop 2).take 98).length-1-i))=99-i:=by simp [h];omega
  rw [e,List.getElem?_eq_getElem (by rw [h];omega)]
  rfl
 ·rw [if_neg q]
  exact List.getElem?_eq_none (by simp [h];omega)
theorem vN{l:List Int}{i:Nat}(h:i<l.length):g l i=l[i]:=by
 unfold g
 rw [List.getD_eq_getElem?_getD,List.getElem?_eq_getElem h];rfl
theorem mC(p:Prc)(h:p.tab.both.length=100):p.down.length=98:=by
 unfold Prc.down
 simp [h]
theorem tK(p:Prc)(h:p.tab.both.length=100){i:Nat}(hi:i<p.down.length):p.down[i]=g p.tab.both (99-i):=by
 have:=rY p h i
 rw [List.getElem?_eq_getElem hi,if_pos (by rw [mC p h] at hi;exact hi)] at this
 exact Option.some.inj this
theorem pO(m:Nat)(c:Nat->Int)(w:List Int)(h:m<=w.length):((List.range m).map c).zip w=(List.range m).map fun k=>(c k,g w k):=by
 apply List.ext_getElem
 ·simp;omega
 ·intro i h1 h2
  simp only [List.length_map,List.length_range] at h2
  rw [List.getElem_zip,List.getElem_map,List.getElem_map,List.getElem_range,vN (by omega)]
theorem jW(G:Gz s p A)(hb:p.tab.both.length=100){l r:Nat}{S:Sr}(hal:alOf s l r)(hs100:s.length<=100)(h:Mid s p A l S){f:Int × Int}{sh:Arcs}{W:Win}(hsh:ShOk s S.row l r sh)(hW:WinOk s p A l r W)
  (hf:CIs s p A l r (fun a=>a=dots (r-l-1)\/Tw (alOf s) (l+1) (r-1) a\/Ar (alOf s) l r (l+1) (r-1) a) f):
  CIs s p A l r (Cl (alOf s) l r) (offerSingle p S f l r sh W):=by
 have hal':=hal
 obtain⟨hr,hn,hs⟩:=hal
 obtain⟨es,nd,mem,e1,e2,e3⟩:=hsh
 obtain⟨ps,nd',mem',e1',e2',e3'⟩:=h.arcs (r-1) (by omega)
 unfold offerSingle
 simp only
 have ok:=h.done (l+1) (by omega) (by omega)
 have f1:offered f ((sh.pl.zip sh.cs).map fun x=>x.2+g p.tab.sides ((r:Int)-1-x.1).toNat) sh.ws=es.foldl (fun a e=>mg a (g (S.row (l+1)).pc e+g p.tab.sides ((r:Int)-1-(e:Int)).toNat,g (S.row (l+1)).pw e)) f:=by
  rw [e1,e2,e3,cR,List.map_map,<-fh]
  rfl
 rw [f1]
 have g1:CIs s p A l r (fun a=>(a=dots (r-l-1)\/Tw (alOf s) (l+1) (r-1) a\/Ar (alOf s) l r (l+1) (r-1) a)\/∃e∈es,Ar (alOf s) l r (l+1) e a) (es.foldl (fun a e=>mg a (g (S.row (l+1)).pc e+g p.tab.sides ((r:Int)-1-(e:Int)).toNat,g (S.row (l+1)).pw e)) f):=by
  refine Is.family (Pf:=fun e=>Ar (alOf s) l r (l+1) e) (vf:=fun e:Nat=>(g (S.row (l+1)).pc e+g p.tab.sides ((r:Int)-1-(e:Int)).toNat,g (S.row (l+1)).pw e)) es hf (small' G (by omega)) nd (fun e he=>?_) (fun e he e' he' t h1 h2=>?_) (fun e he t h1 h2=>?_) (fun t=>Iff.rfl)
  ·obtain⟨a,b,c⟩:=(mem e).mp he
   have:=dY G (l:=l) (r:=r) (p:=l+1) (q:=e) (by omega) (by omega) (by omega) (ok.pr e (by omega))
   have hs':single (zOf s p) l r (l+1) e=g p.tab.sides ((r:Int)-1-(e:Int)).toNat:=by
    unfold single
    simp only
    rw [if_neg (by omega),if_pos (by omega)]
    show g p.tab.sides _=_
    congr 1;omega
   rw [hs'] at this
   exact this
  ·obtain⟨a,b,c⟩:=(mem e).mp he
   obtain⟨a',b',c'⟩:=(mem e').mp he'
   exact (Ar.inj (by omega) (by omega) (by omega) (by omega) h1 h2).2
  ·obtain⟨a,b,c⟩:=(mem e).mp he
   have t1:=mZ h2
   rcases h1 with rfl |⟨_,_,h1⟩|h1
   ·rw [bL] at t1;omega
   ·omega
   ·have:=(Ar.inj (by omega) (by omega) (by omega) (by omega) h1 h2).2
    omega
 generalize es.foldl (fun a e=>mg a (g (S.row (l+1)).pc e+g p.tab.sides ((r:Int)-1-(e:Int)).toNat,g (S.row (l+1)).pw e)) f=F1 at g1
 have f2:offered F1 (((S.arc (r-1)).pl.zip (S.arc (r-1)).cs).map fun x=>x.2+g p.tab.sides (x.1-(l:Int)).toNat) (S.arc (r-1)).ws=ps.foldl (fun a e=>mg a (g (S.row e).pc (r-1)+g p.tab.sides ((e:Int)-1-(l:Int)).toNat,g (S.row e).pw (r-1))) F1:=by
  rw [e1',e2',e3',cR,List.map_map,<-fh]
  rfl
 rw [f2]
 have hps:∀e∈ps,l+2<=e/\e<r-1:=fun e he=>by
  obtain⟨a,b,c⟩:=(mem' e).mp he
  have:=PIs.pos_al G ((h.done e (by omega) b).pr (r-1) (by omega)) c
  omega
 have g2:CIs s p A l r (fun a=>((a=dots (r-l-1)\/Tw (alOf s) (l+1) (r-1) a\/Ar (alOf s) l r (l+1) (r-1) a)\/∃e∈es,Ar (alOf s) l r (l+1) e a)\/∃e∈ps,Ar (alOf s) l r e (r-1) a) (ps.foldl (fun a e=>mg a (g (S.row e).pc (r-1)+g p.tab.sides ((e:Int)-1-(l:Int)).toNat,g (S.row e).pw (r-1))) F1):=by
  refine Is.family (Pf:=fun e=>Ar (alOf s) l r e (r-1)) (vf:=fun e:Nat=>(g (S.row e).pc (r-1)+g p.tab.sides ((e:Int)-1-(l:Int)).toNat,g (S.row e).pw (r-1))) ps g1 (small' G (by omega)) nd' (fun e he=>?_) (fun e he e' he' t h1 h2=>?_) (fun e he t h1 h2=>?_) (fun t=>Iff.rfl)
  ·obtain⟨a,b⟩:=hps e he
   have:=dY G (l:=l) (r:=r) (p:=e) (q:=r-1) (by omega) (by omega) (by omega) ((h.done e (by omega) (by omega)).pr (r-1) (by omega))
   have hs':single (zOf s p) l r e (r-1)=g p.tab.sides ((e:Int)-1-(l:Int)).toNat:=by
    unfold single
    simp only
    rw [if_neg (by omega),if_pos (by omega)]
    show g p.tab.sides _=_
    congr 1;omega
   rw [hs'] at this
   exact this
  ·obtain⟨a,b⟩:=hps e he
   obtain⟨a',b'⟩:=hps e' he'
   exact (Ar.inj (by omega) (by omega) (by omega) (by omega) h1 h2).1
  ·obtain⟨a,b⟩:=hps e he
   have t1:=mZ h2
   rcases h1 with (rfl |⟨_,_,h1⟩|h1)|⟨e',he',h1⟩
   ·rw [bL] at t1;omega
   ·omega
   ·have:=(Ar.inj (by omega) (by omega) (by omega) (by omega) h1 h2).1
    omega
   ·obtain⟨a',b',c'⟩:=(mem e').mp he'
    have:=(Ar.inj (by omega) (by omega) (by omega) (by omega) h1 h2).1
    omega
 generalize ps.foldl (fun a e=>mg a (g (S.row e).pc (r-1)+g p.tab.sides ((e:Int)-1-(l:Int)).toNat,g (S.row e).pw (r-1))) F1=F2 at g2
 have f3:offered F2 ((W.lows.zip (p.down.drop ((100:Int)-1-((r:Int)-l-2-4)).toNat)).map fun x=>x.1+x.2) W.cnts=(List.range (r-l-7)).foldl (fun a σ=>mg a (g W.lows σ+g p.tab.both (r-l-6-σ),g W.cnts σ)) F2:=by
  have ez:(W.lows.zip (p.down.drop ((100:Int)-1-((r:Int)-l-2-4)).toNat)).map (fun x=>x.1+x.2)=(List.range (r-l-7)).map fun σ=>g W.lows σ+g p.tab.both (r-l-6-σ):=by
   apply List.ext_getElem
   ·simp [hW.l1,mC p hb];omega
   ·intro i h1 h2
    simp only [List.length_map,List.length_range] at h2
    rw [List.getElem_map,List.getElem_zip,List.getElem_map,List.getElem_range,vN (by rw [hW.l1];omega),List.getElem_drop,tK p hb]
    simp only
    congr 2;omega
  rw [ez,gd _ _ _ (by simp [hW.l2];omega),pO _ _ _ (by rw [hW.l2];omega),List.foldl_map]
 rw [f3]
 have ws_hi:∀σ x,WS (alOf s) l r σ x->σ<r-l-7/\x.1<x.2.1:=fun σ x hx=>by
  obtain⟨a,b,c,d⟩:=hx
  omega
 refine Is.family (Pf:=fun σ a=>∃x,WS (alOf s) l r σ x/\a=wrap (x.1-l-1) x.2.2 (r-1-x.2.1)) (vf:=fun σ:Nat=>(g W.lows σ+g p.tab.both (r-l-6-σ),g W.cnts σ)) (List.range (r-l-7)) g2 (small' G (by omega)) List.nodup_range (fun σ hσ=>?_) (fun σ hσ τ hτ t h1 h2=>?_) (fun σ hσ t h1 h2=>?_) (fun t=>?_)
 ·rw [List.mem_range] at hσ
  have hx:=hW.is σ (by omega)
  have hbo:=G.both (r-l-6-σ)
  have eB:B A (4+σ)+4*A<=B A (r-l):=by
   rw [<-gE];exact ef G.A0 (by omega)
  have hA:=G.A0
  refine hx.map1 (fun x=>wrap (x.1-l-1) x.2.2 (r-1-x.2.1)) (g p.tab.both (r-l-6-σ)) (fun x y hx hy e=>?_) (fun x hx=>?_) (fun x hx=>?_) (fun u=>Iff.rfl) ?_ ?_
  ·obtain⟨a1,a2,a3⟩:=fH e
   obtain⟨b1,b2,b3,_⟩:=hx
   obtain⟨c1,c2,c3,_⟩:=hy
   exact Prod.ext (by omega) (Prod.ext (by omega) a2)
  ·obtain⟨b1,b2,b3,b4⟩:=hx
   rw [mz (by omega) b4.2.1,show x.2.1+(r-1-x.2.1)+1=r by omega]
   congr 1
   unfold single
   simp only
   rw [if_neg (by omega),if_neg (by omega)]
   show g p.tab.both _=_
   congr 1;omega
  ·obtain⟨b1,b2,b3,b4⟩:=hx
   rw [n8 (by omega)]
  ·have:g p.tab.both (r-l-6-σ)<=A:=hbo.2
   omega
  ·have:-A<=g p.tab.both (r-l-6-σ):=hbo.1
   omega
 ·obtain⟨x,hx,rfl⟩:=h1
  obtain⟨y,hy,e⟩:=h2
  obtain⟨a1,a2,a3⟩:=fH e
  obtain⟨b1,b2,b3,_⟩:=hx
  obtain⟨c1,c2,c3,_⟩:=hy
  omega
 ·obtain⟨x,⟨b1,b2,b3,b4⟩,e⟩:=h2
  have h2:Ar (alOf s) l r x.1 x.2.1 t:=⟨x.2.2,b4,e⟩
  have t1:=mZ h2
  rcases h1 with ((rfl |⟨_,_,h1⟩|h1)|⟨e',he',h1⟩)|⟨e',he',h1⟩
  ·rw [bL] at t1;omega
  ·omega
  ·have:=(Ar.inj (by omega) (by omega) (by omega) (by omega) h1 h2).1
   omega
  ·obtain⟨a',b',c'⟩:=(mem e').mp he'
   have:=(Ar.inj (by omega) (by omega) (by omega) (by omega) h1 h2).1
   omega
  ·obtain⟨a',b'⟩:=hps e' he'
   have:=(Ar.inj (by omega) (by omega) (by omega) (by omega) h1 h2).2
   omega
 ·rw [rR G t hal']
  constructor
  ·rintro (a |a |⟨q,k,h1,h2,a⟩)
   ·exact .inl (.inl (.inl (.inl a)))
   ·exact .inl (.inl (.inl (.inr (.inl a))))
   ·have a':=a
    obtain⟨c,hc,e⟩:=a'
    have q4:=G.al4 _ _ hc.1
    by_cases c1:q=l+1
    ·subst c1
     by_cases c2:k=r-1
     ·subst c2
      exact .inl (.inl (.inl (.inr (.inr a))))
     ·refine .inl (.inl (.inr ⟨k,(mem k).mpr ⟨by omega,by omega,?_⟩,a⟩))
      apply Decidable.byContradiction
      intro z
      exact (ok.pr k (by omega)).none_of_zero z c hc
    ·by_cases c2:k=r-1
     ·subst c2
      refine .inl (.inr ⟨q,(mem' q).mpr ⟨by omega,by omega,?_⟩,a⟩)
      apply Decidable.byContradiction
      intro z
      exact ((h.done q (by omega) (by omega)).pr (r-1) (by omega)).none_of_zero z c hc
     ·have hx:WS (alOf s) l r (k-q-4) (q,k,c):=⟨by show l+2<=q;omega,by show k+2<=r;omega,by show k=q+4+(k-q-4);omega,hc⟩
      refine .inr ⟨k-q-4,List.mem_range.mpr (ws_hi _ _ hx).1,(q,k,c),hx,e⟩
  ·rintro (((((a |a |a)|⟨e,he,a⟩)|⟨e,he,a⟩))|⟨σ,hσ,x,⟨b1,b2,b3,b4⟩,e⟩)
   ·exact .inl a
   ·exact .inr (.inl a)
   ·exact .inr (.inr ⟨l+1,r-1,by omega,by omega,a⟩)
   ·obtain⟨a1,b1,c1⟩:=(mem e).mp he
    exact .inr (.inr ⟨l+1,e,by omega,by omega,a⟩)
   ·obtain⟨a1,b1⟩:=hps e he
    exact .inr (.inr ⟨e,r-1,by omega,by omega,a⟩)
   ·exact .inr (.inr ⟨x.1,x.2.1,by omega,by omega,x.2.2,b4,e⟩)
structure PstOk(s:List Int)(p:Prc)(A:Int)(S:Sr)(l r:Nat)(st:Pst):Prop where
 win:WinOk s p A l (r-1) st.W
 sh:ShOk s S.row l (r-1) st.sh
 len:RowLen s.length st.row
 pr:∀k,k<r->k<s.length->PIs s p A l k (st.row.pv k)
 far:∀k,r<=k->k<s.length->st.row.pv k=(p.far,0)
 oc:st.row.oc=List.replicate s.length p.far
 ow:st.row.ow=List.replicate s.length 0
 tc:st.row.tc=List.replicate s.length p.far
 tw:st.row.tw=List.replicate s.length 0
theorem n0{R:Row}{l r k:Nat}{f:Int × Int}(h:RowLen s.length R)(hr:r<s.length):(keepPair p R l r f).pv k=if r=k then (f.1+(zOf s p).ex l r,(zOf s p).wf l r*f.2) else R.pv k:=by
 unfold keepPair Row.pv
 simp only
 rw [cj _ _ _ _ (by rw [h.pc];exact hr),cj _ _ _ _ (by rw [h.pw];exact hr)]
 by_cases e:r=k
 ·rw [if_pos e,if_pos e,if_pos e]
  refine Prod.ext ?_ ?_
  ·show f.1+g p.opening l+g p.closing r=f.1+(g p.opening l+g p.closing r)
   omega
  ·show (if p.mark=some ((l:Int),(r:Int)) then f.2*p.weight else f.2)=(if p.mark=some ((l:Int),(r:Int)) then p.weight else 1)*f.2
   split
   ·rw [Int.mul_comm]
   ·omega
 ·rw [if_neg e,if_neg e,if_neg e]
theorem lD(G:Gz s p A)(hb:p.tab.both.length=100)(hs100:s.length<=100){l r:Nat}{S:Sr}(hr:l+4<=r)(hn:r<s.length)(h:Mid s p A l S){st:Pst}(q:PstOk s p A S l r st):PstOk s p A S l (r+1) (bJ s p S l r st):=by
 have w1:=mw G hr hn h q.win
 have s1:=uB hr q.sh
 have e:r+1-1=r:=by omega
 unfold bJ
 simp only
 by_cases c:aE s l r>=0
 ·rw [if_pos c]
  have hal:alOf s l r:=⟨hr,hn,c⟩
  have n1:=oH G hal h
  have n2:=oX G (jW G hb hal hs100 h s1 w1 n1)
  refine⟨by rw [e];exact w1,by rw [e];exact s1,?_,fun k h1 h2=>?_,fun k h1 h2=>?_,q.oc,q.ow,q.tc,q.tw⟩
  ·have:=q.len
   exact⟨by simp [keepPair,this.pc],by simp [keepPair,this.pw],this.oc,this.ow,this.tc,this.tw⟩
  ·show PIs s p A l k ((keepPair p _ l r _).pv k)
   rw [n0 q.len hn]
   by_cases z:r=k
   ·subst z
    rw [if_pos rfl]
    exact n2
   ·rw [if_neg z]
    exact q.pr k (by omega) h2
  ·show (keepPair p _ l r _).pv k=_
   rw [n0 q.len hn,if_neg (by omega)]
   exact q.far k (by omega) h2
 ·rw [if_neg c]
  refine⟨by rw [e];exact w1,by rw [e];exact s1,q.len,fun k h1 h2=>?_,fun k h1 h2=>q.far k (by omega) h2,q.oc,q.ow,q.tc,q.tw⟩
  by_cases z:r=k
  ·subst z
   show PIs s p A l r (st.row.pv r)
   rw [q.far r (by omega) hn]
   exact cO (mS c) (bg G.A0 _)
  ·exact q.pr k (by omega) h2
theorem tG(G:Gz s p A){l:Nat}:WinOk s p A l (l+3) (Win.new s.length p.far):=by
 refine⟨by simp [Win.new],by simp [Win.new],fun σ hσ=>?_⟩
 have:(Win.new s.length p.far).v σ=(p.far,0):=by
  unfold Win.new Win.v
  simp only [aR _ _ _ hσ]
 rw [this]
 exact cO (fun x hx=>by obtain⟨a,b,c,_⟩:=hx;omega) (bg G.A0 _)
theorem uO{l:Nat}{row:Nat->Row}:ShOk s row l (l+3) ⟨[],[],[]⟩:=⟨[],List.nodup_nil,fun e=>by
 constructor
 ·intro h;simp at h
 ·rintro⟨a,b,_⟩;omega,rfl,rfl,rfl⟩
theorem mN(G:Gz s p A)(hb:p.tab.both.length=100)(hs100:s.length<=100){l:Nat}{S:Sr}(h:Mid s p A l S)(h0:S.row l=Row.new s.length p.far):∀k,l+4+k<=s.length\/k=0->PstOk s p A S l (l+4+k) (iter (bJ s p S l) (l+4) k ⟨Win.new s.length p.far,⟨[],[],[]⟩,S.row l⟩)
 |0,_=>by
  refine⟨tG G,uO,?_,fun k h1 h2=>?_,fun k h1 h2=>?_,?_,?_,?_,?_⟩
  all_goals simp only [iter,h0]
  ·exact dD _ _
  ·rw [nE h2];exact cO (qv G (by omega)) (bg G.A0 _)
  ·exact nE h2
  all_goals rfl
 |k+1,hk=>by
  show PstOk s p A S l (l+4+k+1) (bJ s p S l (l+4+k) _)
  exact lD G hb hs100 (r:=l+4+k) (by omega) (by omega) h (mN G hb hs100 h h0 k (by omega))
structure Mid2(s:List Int)(p:Prc)(A:Int)(l:Nat)(S:Sr):Prop where
 mid:Mid s p A l S
 len:RowLen s.length (S.row l)
 pr:∀r,r<s.length->PIs s p A l r ((S.row l).pv r)
 oc:(S.row l).oc=List.replicate s.length p.far
 ow:(S.row l).ow=List.replicate s.length 0
 tc:(S.row l).tc=List.replicate s.length p.far
 tw:(S.row l).tw=List.replicate s.length 0
theorem ig{S:Sr}{l k:Nat}{R:Row}(h:l<S.rows.length):Sr.row {S with rows:=S.rows.set l R} k=if l=k then R else S.row k:=by
 unfold Sr.row
 exact di _ _ _ _ _ h
theorem Mid.set{l:Nat}{S:Sr}(h:Mid s p A l S)(hl:l<s.length)(R:Row):Mid s p A l {S with rows:=S.rows.set l R}:=by
 have e:∀k,Sr.row {S with rows:=S.rows.set l R} k=if l=k then R else S.row k:=fun k=>ig (by rw [h.nrows];omega)
 refine⟨by simp [h.nrows],h.narcs,h.nrc,h.nrw,fun k h1 h2=>?_,fun k h1=>?_,fun r hr=>?_,h.rest⟩
 ·rw [e,if_neg (by omega)];exact h.done k h1 h2
 ·rw [e,if_neg (by omega)];exact h.todo k h1
 ·obtain⟨ps,nd,mem,e1,e2,e3⟩:=h.arcs r hr
  have hm:∀q∈ps,Sr.row {S with rows:=S.rows.set l R} q=S.row q:=fun q hq=>by
   have:=((mem q).mp hq).1
   rw [e,if_neg (by omega)]
  refine⟨ps,nd,fun q=>?_,e1,?_,?_⟩
  ·rw [mem]
   constructor
   ·rintro⟨a,b,c⟩
    rw [e,if_neg (by omega)]
    exact⟨a,b,c⟩
   ·rintro⟨a,b,c⟩
    rw [e,if_neg (by omega)] at c
    exact⟨a,b,c⟩
  ·show (S.arc r).cs=_
   rw [e2]
   exact List.map_congr_left fun q hq=>by rw [hm q hq]
  ·show (S.arc r).ws=_
   rw [e3]
   exact List.map_congr_left fun q hq=>by rw [hm q hq]
theorem fX(G:Gz s p A)(hb:p.tab.both.length=100)(hs100:s.length<=100){l:Nat}{S:Sr}(hl:l<s.length)(h:Mid s p A l S)(h0:S.row l=Row.new s.length p.far):Mid2 s p A l (fillPairs s p l S):=by
 have q:=mN G hb hs100 h h0 (s.length-(l+4)) (by omega)
 have e:(fillPairs s p l S).row l=(iter (bJ s p S l) (l+4) (s.length-(l+4)) ⟨Win.new s.length p.far,⟨[],[],[]⟩,S.row l⟩).row:=by
  unfold fillPairs
  rw [ig (by rw [h.nrows];omega),if_pos rfl]
 refine⟨h.set hl _,?_,fun r hr=>?_,?_,?_,?_,?_⟩
 all_goals rw [e]
 ·exact q.len
 ·by_cases z:r<l+4+(s.length-(l+4))
  ·exact q.pr r z hr
  ·omega
 ·exact q.oc
 ·exact q.ow
 ·exact q.tc
 ·exact q.tw
end
end Fs
end
section
namespace Fs
open T
section
variable {s:List Int}{p:Prc}{A:Int}
theorem pH(far:Int):∀(xs:List (Int × Int)),(minD far (xs.map (·.1)),cnt (minD far (xs.map (·.1))) xs)=match xs with
  |[]=>(far,0)
  |x::r=>r.foldl mg x
 |[]=>rfl
 |x::r=>by
  simp only
  rw [jd]
  rfl
theorem Is.lowest{α ι:Type}{far b:Int}{c w:α->Int}{Pf:ι->α->Prop}{vf:ι->Int × Int}:∀(is:List ι),2*b<far->0<=b->is.Nodup->(∀i∈is,Is far b (Pf i) c w (vf i))->(∀i∈is,∀j∈is,∀t,Pf i t->Pf j t->i=j)->
  Is far b (fun t=>∃i∈is,Pf i t) c w (minD far ((is.map vf).map (·.1)),cnt (minD far ((is.map vf).map (·.1))) (is.map vf))
 |[],_,hb,_,_,_=>by
  refine Is.empty (fun t=>by simp) rfl ?_
  show far-b<=far
  omega
 |i::is,h1,_,nd,hf,dj=>by
  rw [pH]
  simp only [List.map_cons]
  rw [List.foldl_map]
  refine Is.family is (hf i (by simp)) h1 (List.nodup_cons.mp nd).2 (fun j hj=>hf j (by simp [hj])) (fun j hj k hk=>dj j (by simp [hj]) k (by simp [hk])) (fun j hj t a b=>?_) (fun t=>?_)
  ·have:=dj i (by simp) j (by simp [hj]) t a b
   subst this
   exact (List.nodup_cons.mp nd).1 hj
  ·constructor
   ·rintro⟨j,hj,a⟩
    rcases List.mem_cons.mp hj with rfl |hj
    ·exact .inl a
    ·exact .inr ⟨j,hj,a⟩
   ·rintro (a |⟨j,hj,a⟩)
    ·exact⟨i,by simp,a⟩
    ·exact⟨j,by simp [hj],a⟩
theorem cS{α:Type}(m:Int)(k:α->Int)(v:α->Int):∀l:List α,((l.filter fun x=>k x=m).map v).sum=cnt m (l.map fun x=>(k x,v x))
 |[]=>rfl
 |x::l=>by
  rw [List.filter_cons]
  by_cases e:k x=m
  ·rw [if_pos (by simpa using e)]
   simp only [List.map_cons,List.sum_cons,cnt,if_pos e,cS m k v l]
  ·rw [if_neg (by simpa using e)]
   simp only [List.map_cons,cnt,if_neg e,cS m k v l];omega
theorem k8{S:Sr}{r:Nat}{sc sw:List Int}{ps:List Nat}{row:Nat->Row}(e1:(S.arc r).pl=ps.map (fun q:Nat=>(q:Int)-1))(e2:(S.arc r).cs=ps.map (fun q:Nat=>g (row q).pc r))(e3:(S.arc r).ws=ps.map (fun q:Nat=>g (row q).pw r)):
  bj p S r sc sw=(minD p.far ((ps.map fun q:Nat=>(g sc ((q:Int)-1).toNat+g (row q).pc r,g sw ((q:Int)-1).toNat*g (row q).pw r)).map (·.1)),cnt (minD p.far ((ps.map fun q:Nat=>(g sc ((q:Int)-1).toNat+g (row q).pc r,g sw ((q:Int)-1).toNat*g (row q).pw r)).map (·.1))) (ps.map fun q:Nat=>(g sc ((q:Int)-1).toNat+g (row q).pc r,g sw ((q:Int)-1).toNat*g (row q).pw r))):=by
 unfold bj
 simp only
 rw [e1,e2,e3,cR,cR,List.map_map,List.map_map,cR,cS,List.map_map]
 rfl
theorem tW(G:Gz s p A){l r:Nat}{S:Sr}(hr:l+4<=r)(hn:r<s.length)(h:Mid s p A l S){sc sw:List Int}(hs:∀k,l<=k->k<r->SIs s p A l k (g sc k,g sw k)):
  Is p.far (B A (r-l)) (fun t=>∃q,l<q/\La (alOf s) l r q t) (mcost' (zOf s p) l) (wt (zOf s p) l) (bj p S r sc sw):=by
 obtain⟨ps,nd,mem,e1,e2,e3⟩:=h.arcs r hn
 rw [k8 (row:=S.row) e1 e2 e3]
 have hps:∀e∈ps,l+2<=e/\e<r:=fun e he=>by
  obtain⟨a,b,c⟩:=(mem e).mp he
  have:=PIs.pos_al G ((h.done e (by omega) b).pr r (by omega)) c
  omega
 refine Is.congr (Is.lowest (Pf:=fun q t=>La (alOf s) l r q t) ps (G.small (by omega)) (bg G.A0 _) nd (fun q hq=>?_) (fun q hq k hk t h1 h2=>?_)) (fun t=>?_) (fun _ _=>rfl) (fun _ _=>rfl)
 ·obtain⟨a,b⟩:=hps q hq
  have e:((q:Int)-1).toNat=q-1:=by omega
  rw [e]
  exact pP G (by omega) b hn (hs (q-1) (by omega) (by omega)) ((h.done q (by omega) (by omega)).pr r hn)
 ·obtain⟨a,b⟩:=hps q hq
  obtain⟨a',b'⟩:=hps k hk
  obtain⟨u,c,⟨_,l1,_⟩,⟨_,c1,_⟩,rfl⟩:=h1
  obtain⟨u',c',⟨_,l2,_⟩,⟨_,c2,_⟩,e⟩:=h2
  obtain⟨rfl,rfl⟩:=cU e
  omega
 ·constructor
  ·rintro⟨q,hq,a⟩
   have:=hps q hq
   exact⟨q,by omega,a⟩
  ·rintro⟨q,hq,u,c,hu,hc,e⟩
   have l5:=So.len5 G hu
   have q4:=G.al4 _ _ hc.1
   refine⟨q,(mem q).mpr ⟨by omega,by omega,?_⟩,u,c,hu,hc,e⟩
   apply Decidable.byContradiction
   intro z
   exact ((h.done q (by omega) (by omega)).pr r hn).none_of_zero z c hc
structure MstOk(s:List Int)(p:Prc)(A:Int)(S:Sr)(l r:Nat)(st:Mst):Prop where
 begun:Is p.far (B A (r-1-l+1)) (Bg (alOf s) l (r-1)) (mcost (zOf s p) l) (wt (zOf s p) l) st.begun
 two:TIs s p A l (r-1) st.two
 lsc:st.sc.length=s.length
 lsw:st.sw.length=s.length
 so:∀k,l<=k->k<r->k<s.length->SIs s p A l k (g st.sc k,g st.sw k)
 len:RowLen s.length st.row
 pc:st.row.pc=(S.row l).pc
 pw:st.row.pw=(S.row l).pw
 on:∀k,k<r->k<s.length->OIs s p A l k (st.row.ov k)
 tw:∀k,k<r->k<s.length->TIs s p A l k (st.row.tv k)
 onF:∀k,r<=k->k<s.length->st.row.ov k=(p.far,0)
 twF:∀k,r<=k->k<s.length->st.row.tv k=(p.far,0)
theorem lO(G:Gz s p A){l r:Nat}{S:Sr}(hr:l+4<=r)(hn:r<s.length)(h:Mid2 s p A l S){st:Mst}(q:MstOk s p A S l r st):MstOk s p A S l (r+1) (manyTurn p S l r st):=by
 have la:=tW G hr hn h.mid (fun k h1 h2=>q.so k h1 h2 (by omega))
 have tw:TIs s p A l r (mg (st.two.1+(zOf s p).letter,st.two.2) ((bj p S r st.sc st.sw).1+(zOf s p).pair,(bj p S r st.sc st.sw).2)):=qm G (by omega) hn q.two la (fun t=>Iff.rfl)
 have be:=mQ G (by omega) hn q.begun (h.pr r hn)
 have ok1:=(h.mid.done (l+1) (by omega) (by omega)).on r hn
 have eB:r-(l+1)+1=r-l:=by omega
 have on:OIs s p A l r (mg (mg (st.begun.1+(zOf s p).letter,st.begun.2) (((S.row l).pv r).1+(zOf s p).pair,((S.row l).pv r).2)) (g (S.row (l+1)).oc r+(zOf s p).letter,g (S.row (l+1)).ow r)):=by
  unfold OIs at ok1
  rw [eB] at ok1
  exact rJ G (by omega) hn be ok1
 have so:=pT G (by omega) hn on tw
 have epv:(g st.row.pc r+(zOf s p).pair,g st.row.pw r)=(((S.row l).pv r).1+(zOf s p).pair,((S.row l).pv r).2):=by
  rw [q.pc,q.pw];rfl
 unfold manyTurn
 simp only
 have z1:p.tab.letter=(zOf s p).letter:=rfl
 have z2:p.tab.pair=(zOf s p).pair:=rfl
 rw [z1,z2,epv]
 generalize mg (st.two.1+(zOf s p).letter,st.two.2) ((bj p S r st.sc st.sw).1+(zOf s p).pair,(bj p S r st.sc st.sw).2)=two at*
 generalize mg (st.begun.1+(zOf s p).letter,st.begun.2) (((S.row l).pv r).1+(zOf s p).pair,((S.row l).pv r).2)=begun at*
 generalize mg begun (g (S.row (l+1)).oc r+(zOf s p).letter,g (S.row (l+1)).ow r)=one at*
 generalize mg one two=some at*
 have L:=q.len
 refine⟨?_,?_,by simp [q.lsc],by simp [q.lsw],fun k h1 h2 h3=>?_,⟨L.pc,L.pw,by simp [L.oc],by simp [L.ow],by simp [L.tc],by simp [L.tw]⟩,q.pc,q.pw,fun k h1 h2=>?_,fun k h1 h2=>?_,fun k h1 h2=>?_,fun k h1 h2=>?_⟩
 ·rw [show r+1-1=r by omega];exact be
 ·rw [show r+1-1=r by omega];exact tw
 ·simp only
  rw [cj _ _ _ _ (by rw [q.lsc];exact hn),cj _ _ _ _ (by rw [q.lsw];exact hn)]
  by_cases e:r=k
  ·subst e
   rw [if_pos rfl,if_pos rfl];exact so
  ·rw [if_neg e,if_neg e]
   exact q.so k h1 (by omega) h3
 ·unfold Row.ov
  simp only
  rw [cj _ _ _ _ (by rw [L.oc];exact hn),cj _ _ _ _ (by rw [L.ow];exact hn)]
  by_cases e:r=k
  ·subst e
   rw [if_pos rfl,if_pos rfl];exact on
  ·rw [if_neg e,if_neg e]
   exact q.on k (by omega) h2
 ·unfold Row.tv
  simp only
  rw [cj _ _ _ _ (by rw [L.tc];exact hn),cj _ _ _ _ (by rw [L.tw];exact hn)]
  by_cases e:r=k
  ·subst e
   rw [if_pos rfl,if_pos rfl];exact tw
  ·rw [if_neg e,if_neg e]
   exact q.tw k (by omega) h2
 ·unfold Row.ov
  simp only
  rw [cj _ _ _ _ (by rw [L.oc];exact hn),cj _ _ _ _ (by rw [L.ow];exact hn),if_neg (by omega),if_neg (by omega)]
  exact q.onF k (by omega) h2
 ·unfold Row.tv
  simp only
  rw [cj _ _ _ _ (by rw [L.tc];exact hn),cj _ _ _ _ (by rw [L.tw];exact hn),if_neg (by omega),if_neg (by omega)]
  exact q.twF k (by omega) h2
theorem nh(G:Gz s p A){l:Nat}{S:Sr}(h:Mid2 s p A l S):∀k,l+4+k<=s.length\/k=0->MstOk s p A S l (l+4+k) (iter (manyTurn p S l) (l+4) k ⟨(p.far,0),(p.far,0),List.replicate s.length p.far,List.replicate s.length 0,S.row l⟩)
 |0,_=>by
  have eo:∀k,k<s.length->(S.row l).ov k=(p.far,0):=fun k hk=>by
   unfold Row.ov
   rw [h.oc,h.ow,aR _ _ _ hk,aR _ _ _ hk]
  have et:∀k,k<s.length->(S.row l).tv k=(p.far,0):=fun k hk=>by
   unfold Row.tv
   rw [h.tc,h.tw,aR _ _ _ hk,aR _ _ _ hk]
  refine⟨?_,?_,by simp [iter],by simp [iter],fun k h1 h2 h3=>?_,h.len,rfl,rfl,fun k h1 h2=>?_,fun k h1 h2=>?_,fun k h1 h2=>eo k h2,fun k h1 h2=>et k h2⟩
  ·refine cO (fun t ht=>?_) (bg G.A0 _)
   obtain⟨q,c,hq,hc,_⟩:=ht
   exact qv G (by omega) c hc
  ·exact cO (tj G (by omega)) (bg G.A0 _)
  ·simp only [iter]
   rw [aR _ _ _ h3,aR _ _ _ h3]
   exact cO (vH G (by omega)) (bg G.A0 _)
  ·show OIs s p A l k ((S.row l).ov k)
   rw [eo k h2];exact cO (uC G (by omega)) (bg G.A0 _)
  ·show TIs s p A l k ((S.row l).tv k)
   rw [et k h2];exact cO (tj G (by omega)) (bg G.A0 _)
 |k+1,hk=>by
  show MstOk s p A S l (l+4+k+1) (manyTurn p S l (l+4+k) _)
  exact lO G (r:=l+4+k) (by omega) (by omega) h (nh G h k (by omega))
structure Mid3(s:List Int)(p:Prc)(A:Int)(l:Nat)(S:Sr):Prop where
 mid:Mid s p A l S
 row:RowOk s p A l (S.row l)
theorem gT(G:Gz s p A){l:Nat}{S:Sr}(hl:l<s.length)(h:Mid2 s p A l S):Mid3 s p A l (fillMany s p l S):=by
 have q:=nh G h (s.length-(l+4)) (by omega)
 have e:(fillMany s p l S).row l=(iter (manyTurn p S l) (l+4) (s.length-(l+4)) ⟨(p.far,0),(p.far,0),List.replicate s.length p.far,List.replicate s.length 0,S.row l⟩).row:=by
  unfold fillMany
  simp only
  rw [ig (by rw [h.mid.nrows];omega),if_pos rfl]
 refine⟨h.mid.set hl _,?_⟩
 rw [e]
 refine⟨q.len,fun r hr=>?_,fun r hr=>q.on r (by omega) hr,fun r hr=>q.tw r (by omega) hr⟩
 have:=h.pr r hr
 unfold Row.pv at this ⊢
 rw [q.pc,q.pw];exact this
theorem nM(G:Gz s p A){l:Nat}{S:Sr}(hl:l<s.length)(h:Mid3 s p A l S):∀k,l+4+k<=s.length\/k=0->
  Is p.far (B A (s.length-l)) (fun t=>(∃u,Rs (alOf s) s.length (l+1) u/\t=dot u)\/∃r,l+4<=r/\r<l+4+k/\Hd (alOf s) s.length l r t) (tcost (zOf s p) l) (wt (zOf s p) l) (iter (restTurn S l) (l+4) k (g S.rc (l+1),g S.rw (l+1)))
 |0,_=>by
  refine Is.congr (Is.mono (mF G (h.mid.rest (l+1) (by omega) (by omega))) (ef G.A0 (by omega))) (fun t=>?_) (fun _ _=>rfl) (fun _ _=>rfl)
  constructor
  ·exact .inl
  ·rintro (a |⟨r,h1,h2,_⟩)
   ·exact a
   ·omega
 |k+1,hk=>by
  show Is _ _ _ _ _ (restTurn S l (l+4+k) _)
  have:=pW G (l:=l) (r:=l+4+k) (by omega) (by omega) (nM G hl h k (by omega)) (h.row.pr (l+4+k) (by omega)) (h.mid.rest (l+4+k+1) (by omega) (by omega)) ?_
  ·refine Is.congr this (fun t=>?_) (fun _ _=>rfl) (fun _ _=>rfl)
   constructor
   ·rintro ((a |⟨r,h1,h2,a⟩)|a)
    ·exact .inl a
    ·exact .inr ⟨r,h1,by omega,a⟩
    ·exact .inr ⟨l+4+k,by omega,by omega,a⟩
   ·rintro (a |⟨r,h1,h2,a⟩)
    ·exact .inl (.inl a)
    ·by_cases e:r=l+4+k
     ·subst e;exact .inr a
     ·exact .inl (.inr ⟨r,h1,by omega,a⟩)
  ·rintro t (⟨u,_,rfl⟩|⟨r,h1,h2,c,u,hc,_,rfl⟩) ⟨c',u',hc',_,e⟩
   ·cases e
   ·injection e with e1 e2
    subst e1
    have:=hc.2.1
    have:=hc'.2.1
    omega
theorem gP(G:Gz s p A){l:Nat}{S:Sr}(hl:l<s.length)(h:Mid3 s p A l S):SrInv s p A l (fillRest s l S):=by
 have q:=nM G hl h (s.length-(l+4)) (by omega)
 refine⟨h.mid.nrows,h.mid.narcs,by simp [fillRest,h.mid.nrc],by simp [fillRest,h.mid.nrw],fun k h1 h2=>?_,h.mid.todo,h.mid.arcs,fun k h1 h2=>?_⟩
 ·by_cases e:l=k
  ·subst e;exact h.row
  ·exact h.mid.done k (by omega) h2
 ·unfold fillRest
  simp only
  rw [cj _ _ _ _ (by rw [h.mid.nrc];omega),cj _ _ _ _ (by rw [h.mid.nrw];omega)]
  by_cases e:l=k
  ·subst e
   rw [if_pos rfl,if_pos rfl]
   refine Is.congr q (fun t=>?_) (fun _ _=>rfl) (fun _ _=>rfl)
   rw [rG G hl]
   constructor
   ·rintro (a |⟨r,h1,h2,a⟩)
    ·exact .inl a
    ·obtain⟨c,u,hc,hu⟩:=a
     exact .inr ⟨r,h1,G.aln _ _ hc.1,c,u,hc,hu⟩
   ·rintro (a |⟨r,h1,h2,a⟩)
    ·exact .inl a
    ·exact .inr ⟨r,h1,by omega,a⟩
  ·rw [if_neg e,if_neg e]
   exact h.mid.rest k (by omega) h2
theorem tR(G:Gz s p A)(hb:p.tab.both.length=100)(hs100:s.length<=100){l:Nat}{S:Sr}(hl:l<s.length)(h:SrInv s p A (l+1) S):SrInv s p A l (turn s p l S):=by
 obtain⟨m,m0⟩:=gQ G hl h
 exact gP G hl (gT G hl (fX G hb hs100 hl m m0))
theorem iG(G:Gz s p A)(hb:p.tab.both.length=100)(hs100:s.length<=100):∀k,k<=s.length->SrInv s p A (s.length-k) (turns s p k (Sr.new s.length p.far))
 |0,_=>vo G
 |k+1,hk=>by
  have ih:=iG G hb hs100 k (by omega)
  rw [show s.length-k=s.length-1-k+1 by omega] at ih
  have:=tR G hb hs100 (l:=s.length-1-k) (by omega) ih
  rw [show s.length-(k+1)=s.length-1-k by omega]
  exact this
theorem lW(G:Gz s p A)(hb:p.tab.both.length=100)(hs100:s.length<=100):RIs s p A 0 (least s p):=by
 have:=iG G hb hs100 s.length (Nat.le_refl _)
 rw [Nat.sub_self] at this
 exact this.rest 0 (Nat.le_refl _) (Nat.zero_le _)
end
end Fs
end
section
namespace Fs
open T
def Ct{α:Type}(P:α->Prop)(w:α->Int)(N:Int):Prop:=∃L:List α,En L P/\N=(L.map w).sum
theorem sum_append(l r:List Int):(l++r).sum=l.sum+r.sum:=by
 induction l with
 |nil=>simp
 |cons a l ih=>simp only [List.cons_append,List.sum_cons,ih];omega
theorem tu{l r:List Int}(h:l.Perm r):l.sum=r.sum:=by
 induction h with
 |nil=>rfl
 |cons x _ ih=>simp only [List.sum_cons,ih]
 |swap x y l=>simp only [List.sum_cons];omega
 |trans _ _ i1 i2=>exact i1.trans i2
theorem kF(k:Int):∀l:List Int,(l.map (k*·)).sum=k*l.sum
 |[]=>by simp
 |a::l=>by simp only [List.map_cons,List.sum_cons,kF k l,Int.mul_add]
section
variable {α β γ:Type}{P P1 P2:α->Prop}{w w':α->Int}{N N1 N2:Int}
theorem Ct.congr{P':α->Prop}(h:Ct P w N)(hp:∀t,P t↔P' t)(hw:∀t,P t->w t=w' t):Ct P' w' N:=by
 obtain⟨L,e,s⟩:=h
 refine⟨L,⟨e.nd,fun t=>(e.mem t).trans (hp t)⟩,?_⟩
 rw [s]
 congr 1
 exact List.map_congr_left fun t ht=>hw t ((e.mem t).mp ht)
theorem Ct.one(t:α)(h:∀u,P u↔u=t):Ct P w (w t):=⟨[t],⟨by simp,fun u=>by simp [h u]⟩,by simp⟩
theorem Ct.union(h:Ct P1 w N1)(g:Ct P2 w N2)(dj:∀t,P1 t->P2 t->False)(hp:∀t,P t↔P1 t\/P2 t):Ct P w (N1+N2):=by
 obtain⟨L,e,s⟩:=h
 obtain⟨M,e',s'⟩:=g
 refine⟨L++M,⟨List.nodup_append.mpr ⟨e.nd,e'.nd,fun x hx y hy q=>?_⟩,fun t=>?_⟩,?_⟩
 ·subst q
  exact dj x ((e.mem x).mp hx) ((e'.mem x).mp hy)
 ·rw [List.mem_append,e.mem,e'.mem,hp]
 ·rw [List.map_append,sum_append,s,s']
theorem Ct.map{P':β->Prop}{w':β->Int}(h:Ct P w N)(f:α->β)(k:Int)(inj:∀x y,P x->P y->f x=f y->x=y)(hw:∀x,P x->w' (f x)=k*w x)(hp:∀u,P' u↔∃x,P x/\u=f x):Ct P' w' (k*N):=by
 obtain⟨L,e,s⟩:=h
 refine⟨L.map f,⟨b8 e.nd fun x hx y hy=>inj x y ((e.mem x).mp hx) ((e.mem y).mp hy),fun u=>?_⟩,?_⟩
 ·rw [List.mem_map,hp]
  constructor
  ·rintro⟨x,hx,rfl⟩
   exact⟨x,(e.mem x).mp hx,rfl⟩
  ·rintro⟨x,hx,rfl⟩
   exact⟨x,(e.mem x).mpr hx,rfl⟩
 ·rw [s,<-kF,List.map_map,List.map_map]
  congr 1
  exact List.map_congr_left fun t ht=>(hw t ((e.mem t).mp ht)).symm
theorem Ct.prod{Q:β->Prop}{wq:β->Int}{R:γ->Prop}{wr:γ->Int}(h:Ct P w N1)(g:Ct Q wq N2)(f:α->β->γ)
  (inj:∀x x' y y',P x->P x'->Q y->Q y'->f x y=f x' y'->x=x'/\y=y') (hw:∀x y,P x->Q y->wr (f x y)=w x*wq y)
  (hp:∀u,R u↔∃x y,P x/\Q y/\u=f x y):Ct R wr (N1*N2):=by
 obtain⟨L,e,s⟩:=h
 obtain⟨M,e',s'⟩:=g
 refine⟨L.flatMap fun x=>M.map (f x),⟨fu e.nd e'.nd fun x hx x' hx' y hy y' hy'=>inj x x' y y' ((e.mem x).mp hx) ((e.mem x').mp hx') ((e'.mem y).mp hy) ((e'.mem y').mp hy'),fun u=>?_⟩,?_⟩
 ·rw [List.mem_flatMap,hp]
  constructor
  ·rintro⟨x,hx,hu⟩
   obtain⟨y,hy,rfl⟩:=List.mem_map.mp hu
   exact⟨x,y,(e.mem x).mp hx,(e'.mem y).mp hy,rfl⟩
  ·rintro⟨x,y,hx,hy,rfl⟩
   exact⟨x,(e.mem x).mpr hx,List.mem_map.mpr ⟨y,(e'.mem y).mpr hy,rfl⟩⟩
 ·rw [s,s']
  have:∀(L0:List α),(∀x∈L0,P x)->(L0.map w).sum*(M.map wq).sum=((L0.flatMap fun x=>M.map (f x)).map wr).sum:=by
   intro L0
   induction L0 with
   |nil=>intro _;simp
   |cons a L0 ih=>
    intro hL
    rw [List.flatMap_cons,List.map_append,sum_append,<-ih fun x hx=>hL x (by simp [hx]),List.map_cons,List.sum_cons,Int.add_mul,<-kF,List.map_map,List.map_map]
    congr 2
    exact List.map_congr_left fun y hy=>(hw a y (hL a (by simp)) ((e'.mem y).mp hy)).symm
  exact this L fun x hx=>(e.mem x).mp hx
theorem Ct.family{ι:Type}{Pf:ι->α->Prop}{vf:ι->Int}:∀(is:List ι) {P0 P:α->Prop} {N0:Int},Ct P0 w N0->is.Nodup->(∀i∈is,Ct (Pf i) w (vf i))->
  (∀i∈is,∀j∈is,∀t,Pf i t->Pf j t->i=j)->(∀i∈is,∀t,P0 t->Pf i t->False)->(∀t,P t↔P0 t\/∃i∈is,Pf i t)->Ct P w (N0+(is.map vf).sum)
 |[],P0,P,N0,h,_,_,_,_,hp=>by
  simp only [List.map_nil,List.sum_nil,Int.add_zero]
  exact h.congr (fun t=>by rw [hp];simp) (fun _ _=>rfl)
 |i::is,P0,P,N0,h,nd,hf,dj,d0,hp=>by
  rw [List.map_cons,List.sum_cons,<-Int.add_assoc]
  have h1:Ct (fun t=>P0 t\/Pf i t) w (N0+vf i):=h.union (hf i (by simp)) (d0 i (by simp)) (fun t=>Iff.rfl)
  refine Ct.family is h1 (List.nodup_cons.mp nd).2 (fun j hj=>hf j (by simp [hj])) (fun j hj k hk=>dj j (by simp [hj]) k (by simp [hk])) (fun j hj t q z=>?_) (fun t=>?_)
  ·rcases q with q |q
   ·exact d0 j (by simp [hj]) t q z
   ·have:=dj i (by simp) j (by simp [hj]) t q z
    subst this
    exact (List.nodup_cons.mp nd).1 hj
  ·rw [hp]
   constructor
   ·rintro (q |⟨j,hj,q⟩)
    ·exact .inl (.inl q)
    ·rcases List.mem_cons.mp hj with rfl |hj
     ·exact .inl (.inr q)
     ·exact .inr ⟨j,hj,q⟩
   ·rintro ((q |q)|⟨j,hj,q⟩)
    ·exact .inl q
    ·exact .inr ⟨i,by simp,q⟩
    ·exact .inr ⟨j,by simp [hj],q⟩
end
def Sx(al:Nat->Nat->Prop)(l e:Nat)(t:T):Prop:=Ok al l t/\l+t.len=e
section
variable {s:List Int}{z:Pz}{mark:Option (Int × Int)}{weight:Int}
theorem jc(l e:Nat)(h1:l<=e)(h2:e<=l+4):Ct (Sx (alOf s) l e) (wt z l) 1:=by
 have:=Ct.one (w:=wt z l) (P:=Sx (alOf s) l e) (dots (e-l)) (fun u=>?_)
 ·rwa [eW] at this
 ·constructor
  ·rintro⟨o,hl⟩
   by_cases q:0<u.ntop
   ·have:=bw (fun l r h=>h.1) o q
    omega
   ·have:=fP (t:=u) (by omega)
    rw [show e-l=u.len by omega];exact this
  ·rintro rfl
   exact⟨dO _ _,by rw [bB];omega⟩
def AcOk(s:List Int)(z:Pz)(L r:Nat)(a:List (Int × Int)):Prop:=∃(ps:List Nat) (cv:Nat->Int),ps.Nodup/\(∀q,q∈ps↔L<=q/\alOf s q r)/\(∀q∈ps,Ct (Cl (alOf s) q r) (wcl z q) (cv q))/\a=ps.map fun q:Nat=>((q:Int),cv q)
structure AsOk(s:List Int)(z:Pz)(l r:Nat)(st:Ast):Prop where
 nrows:st.rows.length=s.length+1
 narcs:st.arcs.length=s.length
 len:∀k,k<=s.length->(st.rows.getD k []).length=s.length+1
 done:∀k e,l<k->k<=e->e<=s.length->Ct (Sx (alOf s) k e) (wt z k) (g (st.rows.getD k []) e)
 row:∀e,l<=e->e<=r->e<=s.length->Ct (Sx (alOf s) l e) (wt z l) (g (st.rows.getD l []) e)
 todo:∀k,k<l->st.rows.getD k []=List.replicate (s.length+1) 1
 arcs:∀k,k<s.length->AcOk s z (if k<r then l else l+1) k (st.arcs.getD k [])
theorem qM(ps:List Nat)(cv:Nat->Int)(row:List Int):((ps.map fun q:Nat=>((q:Int),cv q)).map fun x=>g row x.1.toNat*x.2).sum=(ps.map fun q=>g row q*cv q).sum:=by
 rw [List.map_map]
 congr 1
theorem qE{l r:Nat}(hr:l+4<=r)(hn:r<s.length){row:List Int}(hrow:∀e,l<=e->e<=r->Ct (Sx (alOf s) l e) (wt z l) (g row e)){a:List (Int × Int)}(ha:AcOk s z l r a):
  Ct (Sx (alOf s) l (r+1)) (wt z l) (g row r+(a.map fun x=>g row x.1.toNat*x.2).sum):=by
 obtain⟨ps,cv,nd,mem,hc,rfl⟩:=ha
 rw [qM]
 have h0:Ct (fun t=>∃u,Sx (alOf s) l r u/\t=u.app (dot nil)) (wt z l) (g row r):=by
  have:=(hrow r (by omega) (by omega)).map (w':=wt z l) (fun u=>u.app (dot nil)) 1 (fun x y _ _ q=>dF q) (fun x _=>by rw [km];omega) (P':=fun t=>∃u,Sx (alOf s) l r u/\t=u.app (dot nil)) (fun u=>Iff.rfl)
  rwa [Int.one_mul] at this
 refine Ct.family (Pf:=fun q t=>∃u c,Sx (alOf s) l q u/\Cl (alOf s) q r c/\t=u.app (pr c nil)) ps h0 nd (fun q hq=>?_) (fun q hq k hk t h1 h2=>?_) (fun q hq t h1 h2=>?_) (fun t=>?_)
 ·obtain⟨a,b⟩:=(mem q).mp hq
  refine (hrow q a (by have:=b.1;omega)).prod (hc q hq) (fun u c=>u.app (pr c nil)) (fun x x' y y' _ _ _ _ e=>cU e) (fun x y hx _=>?_) (fun t=>?_)
  ·rw [gv,mE,hx.2]
  ·constructor
   ·rintro⟨u,c,h1,h2,h3⟩;exact⟨u,c,h1,h2,h3⟩
   ·rintro⟨u,c,h1,h2,h3⟩;exact⟨u,c,h1,h2,h3⟩
 ·obtain⟨u,c,h1,h1',rfl⟩:=h1
  obtain⟨u',c',h2,h2',e⟩:=h2
  obtain⟨rfl,rfl⟩:=cU e
  have:=h1.2
  have:=h2.2
  omega
 ·obtain⟨u,_,rfl⟩:=h1
  obtain⟨u',c,_,_,e⟩:=h2
  exact kR e
 ·constructor
  ·rintro⟨o,hl⟩
   rcases snoc_cases t with rfl |⟨u,rfl⟩|⟨u,c,rfl⟩
   ·simp only [len] at hl;omega
   ·rw [cP] at o
    rw [len_app] at hl
    simp only [len] at hl
    exact .inl ⟨u,⟨o.1,by omega⟩,rfl⟩
   ·rw [cP] at o
    rw [len_app] at hl
    simp only [len] at hl
    obtain⟨o1,o2,o3,_⟩:=o
    have e1:l+u.len+1+c.len=r:=by omega
    rw [e1] at o2
    exact .inr ⟨l+u.len,(mem _).mpr ⟨by omega,o2⟩,u,c,⟨o1,rfl⟩,⟨o2,e1,o3⟩,rfl⟩
  ·rintro (⟨u,⟨o,hl⟩,rfl⟩|⟨q,hq,u,c,⟨o,hl⟩,⟨a1,a2,a3⟩,rfl⟩)
   ·exact⟨cP.mpr ⟨o,trivial⟩,by rw [len_app];simp only [len];omega⟩
   ·refine⟨cP.mpr ⟨o,?_⟩,?_⟩
    ·rw [hl]
     exact⟨by rw [a2];exact a1,a3,trivial⟩
    ·rw [len_app];simp only [len];omega
theorem tP(hz:∀l r,z.wf l r=if mark=some ((l:Int),(r:Int)) then weight else 1){l r:Nat}{N:Int}(hal:alOf s l r)(h:Ct (Sx (alOf s) (l+1) r) (wt z (l+1)) N):Ct (Cl (alOf s) l r) (wcl z l) (if some ((l:Int),(r:Int))=mark then N*weight else N):=by
 have:=h.map (w':=wcl z l) (P':=Cl (alOf s) l r) (fun a=>a) (z.wf l r) (fun x y _ _ q=>q) (fun x hx=>by unfold wcl;rw [hx.2,Int.mul_comm]) (fun u=>?_)
 ·rw [hz] at this
  by_cases c:mark=some ((l:Int),(r:Int))
  ·rw [if_pos c,Int.mul_comm] at this
   rw [if_pos c.symm];exact this
  ·rw [if_neg c,Int.one_mul] at this
   rw [if_neg (fun q=>c q.symm)];exact this
 ·constructor
  ·rintro⟨a,b,c⟩;exact⟨u,⟨c,b⟩,rfl⟩
  ·rintro⟨x,⟨a,b⟩,rfl⟩;exact⟨hal,b,a⟩
theorem jj(hz:∀l r,z.wf l r=if mark=some ((l:Int),(r:Int)) then weight else 1){l r:Nat}{st:Ast}(hr:l+4<=r)(hn:r<s.length)(h:AsOk s z l r st):AsOk s z l (r+1) (bE s mark weight l r st):=by
 unfold bE
 simp only
 generalize hA:(if aE s l r>=0 then st.arcs.set r ((st.arcs.getD r [])++[((l:Int),if some ((l:Int),(r:Int))=mark then g (st.rows.getD (l+1) []) r*weight else g (st.rows.getD (l+1) []) r)]) else st.arcs)=A
 have hlen:A.length=s.length:=by
  rw [<-hA]
  split <;> simp [h.narcs]
 have harc:∀k,k<s.length->AcOk s z (if k<r+1 then l else l+1) k (A.getD k []):=by
  intro k hk
  have h0:=h.arcs k hk
  by_cases e:r=k
  ·subst e
   rw [if_neg (by omega)] at h0
   rw [if_pos (by omega)]
   obtain⟨ps,cv,nd,mem,hc,ea⟩:=h0
   by_cases c:aE s l r>=0
   ·have hal:alOf s l r:=⟨hr,hn,c⟩
    have hN:=tP hz hal (h.done (l+1) r (by omega) (by omega) (by omega))
    rw [if_pos c] at hA
    rw [<-hA,di _ _ _ _ _ (by rw [h.narcs];exact hn),if_pos rfl]
    generalize (if some ((l:Int),(r:Int))=mark then g (st.rows.getD (l+1) []) r*weight else g (st.rows.getD (l+1) []) r)=N at hN ⊢
    have nl:l∉ps:=fun q=>by have:=((mem l).mp q).1;omega
    refine⟨ps++[l],fun q=>if q=l then N else cv q,?_,fun q=>?_,fun q hq=>?_,?_⟩
    ·rw [List.nodup_append]
     refine⟨nd,by simp,fun x hx y hy e=>?_⟩
     simp at hy
     subst e hy
     exact nl hx
    ·rw [List.mem_append,mem,List.mem_singleton]
     constructor
     ·rintro (⟨a,b⟩|rfl)
      ·exact⟨by omega,b⟩
      ·exact⟨Nat.le_refl _,hal⟩
     ·rintro⟨a,b⟩
      by_cases e:q=l
      ·exact .inr e
      ·exact .inl ⟨by omega,b⟩
    ·simp only
     rcases List.mem_append.mp hq with hq |hq
     ·have:q≠l:=fun e=>nl (e ▸ hq)
      rw [if_neg this];exact hc q hq
     ·simp at hq
      subst hq
      rw [if_pos rfl];exact hN
    ·rw [ea,List.map_append]
     congr 1
     ·apply List.map_congr_left
      intro q hq
      have:q≠l:=fun e=>nl (e ▸ hq)
      simp only
      rw [if_neg this]
     ·simp
   ·rw [if_neg c] at hA
    rw [<-hA]
    refine⟨ps,cv,nd,fun q=>?_,hc,ea⟩
    rw [mem]
    constructor
    ·rintro⟨a,b⟩;exact⟨by omega,b⟩
    ·rintro⟨a,b⟩
     refine⟨?_,b⟩
     by_cases e:q=l
     ·subst e;exact (c b.2.2).elim
     ·omega
  ·have:A.getD k []=st.arcs.getD k []:=by
    rw [<-hA]
    split
    ·rw [di _ _ _ _ _ (by rw [h.narcs];exact hn),if_neg e]
    ·rfl
   rw [this]
   by_cases q:k<r
   ·rw [if_pos q] at h0
    rw [if_pos (by omega)];exact h0
   ·rw [if_neg q] at h0
    rw [if_neg (by omega)];exact h0
 have hrow:∀k,(st.rows.set l ((st.rows.getD l []).set (r+1) (g (st.rows.getD l []) r+((A.getD r []).map fun x=>g (st.rows.getD l []) x.1.toNat*x.2).sum))).getD k []=if l=k then (st.rows.getD l []).set (r+1) (g (st.rows.getD l []) r+((A.getD r []).map fun x=>g (st.rows.getD l []) x.1.toNat*x.2).sum) else st.rows.getD k []:=fun k=>di _ _ _ _ _ (by rw [h.nrows];omega)
 have hA':=harc r hn
 rw [if_pos (by omega)] at hA'
 have new:=qE hr hn (fun e h1 h2=>h.row e h1 h2 (by omega)) hA'
 refine⟨by simp [h.nrows],hlen,fun k hk=>?_,fun k e h1 h2 h3=>?_,fun e h1 h2 h3=>?_,fun k hk=>?_,harc⟩
 ·simp only
  rw [hrow]
  split
  ·rw [List.length_set];exact h.len l (by omega)
  ·exact h.len k hk
 ·simp only
  rw [hrow,if_neg (by omega)]
  exact h.done k e h1 h2 h3
 ·simp only
  rw [hrow,if_pos rfl,cj _ _ _ _ (by rw [h.len l (by omega)];omega)]
  by_cases c:r+1=e
  ·rw [if_pos c,<-c];exact new
  ·rw [if_neg c]
   exact h.row e h1 (by omega) h3
 ·simp only
  rw [hrow,if_neg (by omega)]
  exact h.todo k hk
theorem ej(hz:∀l r,z.wf l r=if mark=some ((l:Int),(r:Int)) then weight else 1){l:Nat}{st:Ast}(h:AsOk s z l (l+4) st):∀k,l+4+k<=s.length\/k=0->AsOk s z l (l+4+k) (iter (bE s mark weight l) (l+4) k st)
 |0,_=>h
 |k+1,hk=>by
  show AsOk s z l (l+4+k+1) (bE s mark weight l (l+4+k) _)
  exact jj hz (by omega) (by omega) (ej hz h k (by omega))
structure AtOk(s:List Int)(z:Pz)(L:Nat)(st:Ast):Prop where
 nrows:st.rows.length=s.length+1
 narcs:st.arcs.length=s.length
 len:∀k,k<=s.length->(st.rows.getD k []).length=s.length+1
 done:∀k e,L<=k->k<=e->e<=s.length->Ct (Sx (alOf s) k e) (wt z k) (g (st.rows.getD k []) e)
 todo:∀k,k<L->st.rows.getD k []=List.replicate (s.length+1) 1
 arcs:∀k,k<s.length->AcOk s z L k (st.arcs.getD k [])
theorem pj(hz:∀l r,z.wf l r=if mark=some ((l:Int),(r:Int)) then weight else 1){l:Nat}(hl:l<s.length){st:Ast}(h:AtOk s z (l+1) st):AtOk s z l (allRow s mark weight l st):=by
 have h0:AsOk s z l (l+4) st:=by
  refine⟨h.nrows,h.narcs,h.len,fun k e h1 h2 h3=>h.done k e h1 h2 h3,fun e h1 h2 h3=>?_,fun k hk=>h.todo k (by omega),fun k hk=>?_⟩
  ·rw [h.todo l (by omega),aR _ _ _ (by omega)]
   exact jc l e h1 h2
  ·obtain⟨ps,cv,nd,mem,hc,ea⟩:=h.arcs k hk
   split
   ·refine⟨ps,cv,nd,fun q=>?_,hc,ea⟩
    rw [mem]
    constructor
    ·rintro⟨a,b⟩;exact⟨by omega,b⟩
    ·rintro⟨a,b⟩
     have:=b.1
     omega
   ·exact⟨ps,cv,nd,mem,hc,ea⟩
 have h1:=ej hz h0 (s.length-(l+4)) (by omega)
 show AtOk s z l (iter _ _ _ _)
 generalize iter (bE s mark weight l) (l+4) (s.length-(l+4)) st=st' at h1
 refine⟨h1.nrows,h1.narcs,h1.len,fun k e q1 q2 q3=>?_,h1.todo,fun k hk=>?_⟩
 ·by_cases c:l=k
  ·subst c
   exact h1.row e q2 (by omega) q3
  ·exact h1.done k e (by omega) q2 q3
 ·have:=h1.arcs k hk
  rwa [if_pos (by omega)] at this
theorem dQ(hz:∀l r,z.wf l r=if mark=some ((l:Int),(r:Int)) then weight else 1):∀k,k<=s.length->AtOk s z (s.length-k) (bA s mark weight k ⟨List.replicate (s.length+1) (List.replicate (s.length+1) 1),List.replicate s.length []⟩)
 |0,_=>by
  have e:∀k,k<=s.length->(List.replicate (s.length+1) (List.replicate (s.length+1) (1:Int))).getD k []=List.replicate (s.length+1) 1:=fun k hk=>bp _ _ _ _ (by omega)
  refine⟨by simp [bA],by simp [bA],fun k hk=>?_,fun k e' h1 h2 h3=>?_,fun k hk=>?_,fun k hk=>?_⟩
  ·simp only [bA]
   rw [e k hk];simp
  ·simp only [bA]
   rw [e k (by omega),aR _ _ _ (by omega)]
   exact jc k e' h2 (by omega)
  ·simp only [bA]
   exact e k (by omega)
  ·simp only [bA]
   rw [bp _ _ _ _ hk]
   refine⟨[],fun _=>0,List.nodup_nil,fun q=>?_,by simp,rfl⟩
   constructor
   ·intro h;simp at h
   ·rintro⟨a,b⟩
    have:=b.1
    have:=b.2.1
    omega
 |k+1,hk=>by
  have ih:=dQ hz k (by omega)
  rw [show s.length-k=s.length-1-k+1 by omega] at ih
  rw [show s.length-(k+1)=s.length-1-k by omega]
  exact pj hz (by omega) ih
theorem hJ(hz:∀l r,z.wf l r=if mark=some ((l:Int),(r:Int)) then weight else 1):Ct (Rs (alOf s) s.length 0) (wt z 0) (allFolds s mark weight):=by
 have:=dQ hz s.length (Nat.le_refl _)
 rw [Nat.sub_self] at this
 exact this.done 0 s.length (Nat.le_refl _) (Nat.zero_le _) (Nat.le_refl _)
end
end Fs
end
section
namespace Fs
open T
def rowOf:T->List Nat
 |.nil=>[]
 |.dot t=>46::rowOf t
 |.pr a b=>40::(rowOf a++41::rowOf b)
def pl:Nat->T->List (Nat × Nat)
 |_,.nil=>[]
 |i,.dot t=>pl (i+1) t
 |i,.pr a b=>pl (i+1) a++(i,i+1+a.len)::pl (i+2+a.len) b
def tops:Nat->T->List (Nat × Nat)
 |_,.nil=>[]
 |i,.dot t=>tops (i+1) t
 |i,.pr a b=>(i,i+1+a.len)::tops (i+2+a.len) b
theorem bI:∀t,(rowOf t).length=t.len
 |.nil=>rfl
 |.dot t=>by simp only [rowOf,List.length_cons,len,bI t]
 |.pr a b=>by simp only [rowOf,List.length_cons,List.length_append,len,bI a,bI b];omega
def Ends:List Nat->Prop
 |[]=>True
 |c::_=>c=41
theorem dM:∀{t u:T} {x y:List Nat},Ends x->Ends y->rowOf t++x=rowOf u++y->t=u/\x=y
 |.nil,.nil,_,_,_,_,h=>⟨rfl,h⟩
 |.nil,.dot u,x,y,hx,_,h=>by
  have h:x=46::(rowOf u++y):=h
  subst h
  simp [Ends] at hx
 |.nil,.pr a b,x,y,hx,_,h=>by
  have h:x=40::((rowOf a++41::rowOf b)++y):=h
  subst h
  simp [Ends] at hx
 |.dot u,.nil,x,y,_,hy,h=>by
  have h:46::(rowOf u++x)=y:=h
  subst h
  simp [Ends] at hy
 |.pr a b,.nil,x,y,_,hy,h=>by
  have h:40::((rowOf a++41::rowOf b)++x)=y:=h
  subst h
  simp [Ends] at hy
 |.dot t,.dot u,x,y,hx,hy,h=>by
  have h:46::(rowOf t++x)=46::(rowOf u++y):=h
  obtain⟨rfl,e⟩:=dM hx hy (List.cons.inj h).2
  exact⟨rfl,e⟩
 |.dot t,.pr a b,x,y,_,_,h=>by
  have h:46::(rowOf t++x)=40::((rowOf a++41::rowOf b)++y):=h
  have:=(List.cons.inj h).1
  omega
 |.pr a b,.dot t,x,y,_,_,h=>by
  have h:40::((rowOf a++41::rowOf b)++x)=46::(rowOf t++y):=h
  have:=(List.cons.inj h).1
  omega
 |.pr a b,.pr a' b',x,y,hx,hy,h=>by
  have h:40::((rowOf a++41::rowOf b)++x)=40::((rowOf a'++41::rowOf b')++y):=h
  have h:=(List.cons.inj h).2
  rw [List.append_assoc,List.append_assoc] at h
  obtain⟨rfl,e⟩:=dM (t:=a) (u:=a') (x:=41::rowOf b++x) (y:=41::rowOf b'++y) rfl rfl h
  have e:41::(rowOf b++x)=41::(rowOf b'++y):=e
  obtain⟨rfl,e2⟩:=dM hx hy (List.cons.inj e).2
  exact⟨rfl,e2⟩
theorem gN{t u:T}(h:rowOf t=rowOf u):t=u:=
 (dM (x:=[]) (y:=[]) trivial trivial (by rw [List.append_nil,List.append_nil];exact h)).1
theorem bH(c:Nat)(r:List Nat)(n:Nat)(o:List Nat):Md22.pairsFrom (c::r) n o=if c=40 then Md22.pairsFrom r (n+1) (n::o) else if c=41 then (match o with
   |i::o=>(Md22.pairsFrom r (n+1) o).map fun l=>(i,n)::l
   |[]=>none)
  else if c=46 then Md22.pairsFrom r (n+1) o else none:=by
 cases o <;> rfl
theorem cx:∀(t:T) (r:List Nat) (n:Nat) (o:List Nat),Md22.pairsFrom (rowOf t++r) n o=(Md22.pairsFrom r (n+t.len) o).map fun l=>pl n t++l
 |.nil,r,n,o=>by
  show Md22.pairsFrom r n o=_
  simp [len,pl]
 |.dot t,r,n,o=>by
  show Md22.pairsFrom (46::(rowOf t++r)) n o=_
  rw [bH,if_neg (by decide),if_neg (by decide),if_pos rfl,cx t]
  simp only [len,pl]
  rw [show n+1+t.len=n+(t.len+1) by omega]
 |.pr a b,r,n,o=>by
  show Md22.pairsFrom (40::((rowOf a++41::rowOf b)++r)) n o=_
  rw [bH,if_pos rfl,List.append_assoc,cx a]
  show (Md22.pairsFrom (41::(rowOf b++r)) (n+1+a.len) (n::o)).map _=_
  rw [bH,if_neg (by decide),if_pos rfl]
  simp only
  rw [cx b]
  simp only [len,pl,Option.map_map]
  rw [show n+1+a.len+1+b.len=n+(a.len+b.len+2) by omega,show n+1+a.len+1=n+2+a.len by omega]
  congr 1
  funext l
  simp [Function.comp]
theorem gw(t:T):Md22.pairs (rowOf t)=some (pl 0 t):=by
 unfold Md22.pairs
 have:=cx t [] 0 []
 rw [List.append_nil] at this
 rw [this]
 simp [Md22.pairsFrom]
theorem b7:∀{i:Nat} {t:T} {q:Nat × Nat},q∈pl i t->i<=q.1/\q.1<q.2/\q.2<i+t.len
 |_,.nil,_,h=>by simp [pl] at h
 |i,.dot t,q,h=>by
  have:=b7 (t:=t) h
  simp only [len];omega
 |i,.pr a b,q,h=>by
  simp only [pl] at h
  simp only [len]
  rcases List.mem_append.mp h with h |h
  ·have:=b7 (t:=a) h
   omega
  ·rcases List.mem_cons.mp h with rfl |h
   ·simp only;omega
   ·have:=b7 (t:=b) h
    omega
theorem kr:∀{i:Nat} {t:T} {q:Nat × Nat},q∈tops i t->q∈pl i t
 |_,.nil,_,h=>by simp [tops] at h
 |i,.dot t,q,h=>kr (t:=t) h
 |i,.pr a b,q,h=>by
  simp only [pl]
  simp only [tops] at h
  rcases List.mem_cons.mp h with rfl |h
  ·simp
  ·have:=kr (t:=b) h
   simp [this]
theorem eJ:∀(i:Nat) (t:T) (f:Nat × Nat->Bool),(∀q∈pl i t,f q=(pl i t).any fun r=>decide (r.1<q.1) && decide (q.2<r.2))->(pl i t).filter (fun q=>!f q)=tops i t
 |_,.nil,_,_=>rfl
 |i,.dot t,f,h=>eJ (i+1) t f h
 |i,.pr a b,f,h=>by
  simp only [pl] at h ⊢
  rw [List.filter_append,List.filter_cons]
  have h1:(pl (i+1) a).filter (fun q=>!f q)=[]:=by
   rw [List.filter_eq_nil_iff]
   intro q hq
   rw [h q (by simp [hq])]
   have:=b7 hq
   have:((pl (i+1) a++(i,i+1+a.len)::pl (i+2+a.len) b).any fun r=>decide (r.1<q.1) && decide (q.2<r.2))=true:=by
    rw [List.any_eq_true]
    exact⟨(i,i+1+a.len),by simp,by simp;omega⟩
   rw [this];simp
  have h2:f (i,i+1+a.len)=false:=by
   rw [h _ (by simp),List.any_eq_false]
   intro r hr
   rcases List.mem_append.mp hr with hr |hr
   ·have:=b7 hr
    simp;omega
   ·rcases List.mem_cons.mp hr with rfl |hr
    ·simp
    ·have:=b7 hr
     simp;omega
  have h3:(pl (i+2+a.len) b).filter (fun q=>!f q)=tops (i+2+a.len) b:=by
   apply eJ
   intro q hq
   rw [h q (by simp [hq]),List.any_append,List.any_cons]
   have q1:=b7 hq
   have e1:((pl (i+1) a).any fun r=>decide (r.1<q.1) && decide (q.2<r.2))=false:=by
    rw [List.any_eq_false]
    intro r hr
    have:=b7 hr
    simp;omega
   have e2:(decide ((i,i+1+a.len).1<q.1) && decide (q.2<(i,i+1+a.len).2))=false:=by
    simp;omega
   rw [e1,e2];simp
  rw [h1,h2,h3]
  rfl
theorem oU{l:List (Nat × Nat)}{i:Nat}{a:T}(h:l.filter (fun q=>decide (i<q.1) && decide (q.2<i+1+a.len))=pl (i+1) a):Md22.within l (i,i+1+a.len)=tops (i+1) a:=by
 unfold Md22.within
 simp only
 rw [h]
 exact eJ (i+1) a _ fun q _=>rfl
theorem fW:∀(i:Nat) (t:T),(tops i t).length=t.ntop
 |_,.nil=>rfl
 |i,.dot t=>fW (i+1) t
 |i,.pr a b=>by simp only [tops,List.length_cons,ntop,fW _ b]
theorem fE:∀(i:Nat) (t:T),((tops i t).map fun q=>q.2-q.1+1).sum+t.ndot=t.len
 |_,.nil=>rfl
 |i,.dot t=>by
  have:=fE (i+1) t
  simp only [tops,ndot,len];omega
 |i,.pr a b=>by
  have:=fE (i+2+a.len) b
  simp only [tops,List.map_cons,List.sum_cons,ndot,len];omega
theorem jl:∀(i:Nat) (t u:T),tops i (t.app u)=tops i t++tops (i+t.len) u
 |i,.nil,u=>by simp [app,tops,len]
 |i,.dot t,u=>by
  simp only [app,tops,len,jl (i+1) t u]
  rw [show i+1+t.len=i+(t.len+1) by omega]
 |i,.pr a b,u=>by
  simp only [app,tops,len,jl (i+2+a.len) b u,List.cons_append]
  rw [show i+2+a.len+b.len=i+(a.len+b.len+2) by omega]
theorem gG:∀i k,tops i (dots k)=[]
 |_,0=>rfl
 |i,k+1=>gG (i+1) k
theorem gi(i x:Nat)(c:T)(y:Nat):tops i (wrap x c y)=[(i+x,i+x+1+c.len)]:=by
 unfold wrap
 rw [jl,gG,bB]
 simp only [tops,gG,List.nil_append]
def zS(C:Md22.Costs)(s:List Nat):Pz:=
 {ends:=Md22.upTo C.end_
  stack:=fun l r p q=>C.stack.getD (6*(Md22.sort (Md22.letter s l) (Md22.letter s r)).getD 0+(Md22.sort (Md22.letter s p) (Md22.letter s q)).getD 0) 0
  side:=Md22.upTo C.side
  both:=Md22.upTo C.both
  once:=C.many.getD 0 0
  pair:=C.many.getD 1 0
  letter:=C.many.getD 2 0
  ex:=fun _ _=>0
  wf:=fun _ _=>1}
theorem t9(C:Md22.Costs)(s:List Nat){l:List (Nat × Nat)}{i:Nat}{a:T}(h:l.filter (fun q=>decide (i<q.1) && decide (q.2<i+1+a.len))=pl (i+1) a):Md22.loop C s l (i,i+1+a.len)=loopc (zS C s) i a:=by
 unfold Md22.loop loopc
 rw [oU h]
 have hl:=fW (i+1) a
 have hs:=fE (i+1) a
 by_cases e0:a.ntop=0
 ·rw [if_pos e0]
  have:tops (i+1) a=[]:=List.eq_nil_of_length_eq_zero (by omega)
  rw [this]
  simp only
  show Md22.upTo _ _=Md22.upTo _ _
  congr 1;omega
 ·rw [if_neg e0]
  by_cases e1:a.ntop=1
  ·rw [if_pos e1]
   obtain⟨x,c,y,rfl⟩:=fV e1
   rw [gi,bV,ck,eU]
   simp only
   unfold single
   simp only
   rw [show i+1+x-i-1=x by omega,show i+1+(x+c.len+y+2)-(i+1+x+1+c.len)-1=y by omega,show i+1+(x+c.len+y+2)-1-(x+y-x)=i+1+x+1+c.len by omega,show i+1+(x+c.len+y+2)-(i+1+x+1+c.len)-1=y by omega]
   rfl
  ·rw [if_neg e1]
   match hq:tops (i+1) a with
   |[]=>rw [hq] at hl;simp at hl;omega
   |[_]=>rw [hq] at hl;simp at hl;omega
   |q1::q2::qs=>
    simp only
    rw [hq] at hs hl
    rw [hl]
    have e:(i+1+a.len-i-1:Nat)-((q1::q2::qs).map fun q=>q.2-q.1+1).sum=a.ndot:=by omega
    rw [e]
    show _=C.many.getD 0 0+(a.ntop+1:Int)*C.many.getD 1 0+a.ndot*C.many.getD 2 0
    rw [Int.mul_comm (C.many.getD 1 0),Int.mul_comm (C.many.getD 2 0)]
theorem fO(C:Md22.Costs)(s:List Nat)(l:List (Nat × Nat)):∀(i:Nat) (t:T),l.filter (fun q=>decide (i<=q.1) && decide (q.2<i+t.len))=pl i t->((pl i t).map (Md22.loop C s l)).sum=tcost (zS C s) i t
 |_,.nil,_=>rfl
 |i,.dot t,h=>by
  simp only [pl,tcost]
  apply fO
  have:(l.filter (fun q=>decide (i<=q.1) && decide (q.2<i+(dot t).len))).filter (fun q=>decide (i+1<=q.1) && decide (q.2<i+1+t.len))=(pl i (dot t)).filter (fun q=>decide (i+1<=q.1) && decide (q.2<i+1+t.len)):=by rw [h]
  rw [List.filter_filter] at this
  have e1:(l.filter fun q=>(decide (i+1<=q.1) && decide (q.2<i+1+t.len)) && (decide (i<=q.1) && decide (q.2<i+(dot t).len)))=l.filter (fun q=>decide (i+1<=q.1) && decide (q.2<i+1+t.len)):=by
   apply List.filter_congr
   intro q _
   have el:(dot t).len=t.len+1:=rfl
   rw [Bool.eq_iff_iff,Bool.and_eq_true,Bool.and_eq_true,Bool.and_eq_true,decide_eq_true_eq,decide_eq_true_eq,decide_eq_true_eq,decide_eq_true_eq,el]
   constructor
   ·intro h;exact h.1
   ·intro h;exact⟨h,by omega,by omega⟩
  rw [e1] at this
  rw [this]
  simp only [pl]
  rw [List.filter_eq_self]
  intro q hq
  have:=b7 hq
  simp;omega
 |i,.pr a b,h=>by
  have sub:∀(f:Nat × Nat->Bool),(∀q:Nat × Nat,f q=true->i<=q.1/\q.2<i+(pr a b).len)->l.filter f=(pl i (pr a b)).filter f:=fun f hf=>by
   rw [<-h,List.filter_filter]
   apply List.filter_congr
   intro q _
   cases e:f q with
   |false=>simp
   |true=>
    have:=hf q e
    simp;omega
  have ha:l.filter (fun q=>decide (i+1<=q.1) && decide (q.2<i+1+a.len))=pl (i+1) a:=by
   rw [sub _ (fun q hq=>by simp [len] at hq ⊢;omega)]
   simp only [pl]
   rw [List.filter_append,List.filter_cons]
   rw [if_neg (by simp)]
   have e1:(pl (i+1) a).filter (fun q=>decide (i+1<=q.1) && decide (q.2<i+1+a.len))=pl (i+1) a:=by
    rw [List.filter_eq_self]
    intro q hq
    have:=b7 hq
    simp;omega
   have e2:(pl (i+2+a.len) b).filter (fun q=>decide (i+1<=q.1) && decide (q.2<i+1+a.len))=[]:=by
    rw [List.filter_eq_nil_iff]
    intro q hq
    have:=b7 hq
    simp;omega
   rw [e1,e2,List.append_nil]
  have hb:l.filter (fun q=>decide (i+2+a.len<=q.1) && decide (q.2<i+2+a.len+b.len))=pl (i+2+a.len) b:=by
   rw [sub _ (fun q hq=>by simp [len] at hq ⊢;omega)]
   simp only [pl]
   rw [List.filter_append,List.filter_cons]
   rw [if_neg (by simp;omega)]
   have e1:(pl (i+2+a.len) b).filter (fun q=>decide (i+2+a.len<=q.1) && decide (q.2<i+2+a.len+b.len))=pl (i+2+a.len) b:=by
    rw [List.filter_eq_self]
    intro q hq
    have:=b7 hq
    simp;omega
   have e2:(pl (i+1) a).filter (fun q=>decide (i+2+a.len<=q.1) && decide (q.2<i+2+a.len+b.len))=[]:=by
    rw [List.filter_eq_nil_iff]
    intro q hq
    have:=b7 hq
    simp;omega
   rw [e1,e2,List.nil_append]
  have s1:=fO C s l (i+1) a ha
  have s2:=fO C s l (i+2+a.len) b hb
  have s3:Md22.loop C s l (i,i+1+a.len)=loopc (zS C s) i a:=by
   apply t9
   rw [<-ha]
   rfl
  simp only [pl,tcost,List.map_append,List.map_cons]
  have:∀(x y:List Int),(x++y).sum=x.sum+y.sum:=sum_append
  rw [this,List.sum_cons,s1,s2,s3]
  show _=loopc (zS C s) i a+tcost (zS C s) (i+1) a+0+_
  omega
theorem mh(C:Md22.Costs)(s:List Nat)(t:T):Md22.cost C s (rowOf t)=tcost (zS C s) 0 t:=by
 unfold Md22.cost
 rw [gw]
 simp only
 apply fO
 rw [List.filter_eq_self]
 intro q hq
 have:=b7 hq
 simp;omega
def alS(s:List Nat)(l r:Nat):Prop:=(Md22.sort (Md22.letter s l) (Md22.letter s r)).isSome=true/\l+3<r/\r<s.length
def Gm(al:Nat->Nat->Prop):Nat->List Nat->List Nat->Prop
 |n,[],f=>∃t,Ok al n t/\f=rowOf t
 |n,i::o,f=>∃(t:T) (f':List Nat),Ok al n t/\al i (n+t.len)/\f=rowOf t++41::f'/\Gm al (n+t.len+1) o f'
variable {al:Nat->Nat->Prop}
theorem Gm.len:∀{n:Nat} {o f:List Nat},Gm al n o f->o.length<=f.length
 |_,[],_,_=>Nat.zero_le _
 |n,i::o,f,h=>by
  obtain⟨t,f',_,_,rfl,h'⟩:=h
  have:=Gm.len h'
  simp only [List.length_cons,List.length_append];omega
theorem nt{n:Nat}{o f:List Nat}:Gm al n o (46::f)↔Gm al (n+1) o f:=by
 cases o with
 |nil=>
  constructor
  ·rintro⟨t,h,e⟩
   cases t with
   |nil=>cases e
   |dot t=>exact⟨t,h,(List.cons.inj e).2⟩
   |pr a b=>have:=(List.cons.inj e).1;omega
  ·rintro⟨t,h,e⟩
   exact⟨.dot t,h,by rw [e];rfl⟩
 |cons i o=>
  constructor
  ·rintro⟨t,f',h,hi,e,h'⟩
   cases t with
   |nil=>have:=(List.cons.inj e).1;omega
   |dot t=>
    refine⟨t,f',h,?_,(List.cons.inj e).2,?_⟩
    ·rw [show n+1+t.len=n+(dot t).len by simp only [T.len];omega];exact hi
    ·rw [show n+1+t.len=n+(dot t).len by simp only [T.len];omega];exact h'
   |pr a b=>have:=(List.cons.inj e).1;omega
  ·rintro⟨t,f',h,hi,e,h'⟩
   refine⟨.dot t,f',h,?_,by rw [e];rfl,?_⟩
   ·rw [show n+(dot t).len=n+1+t.len by simp only [T.len];omega];exact hi
   ·rw [show n+(dot t).len=n+1+t.len by simp only [T.len];omega];exact h'
theorem fQ{n i:Nat}{o f:List Nat}:Gm al n (i::o) (41::f)↔al i n/\Gm al (n+1) o f:=by
 constructor
 ·rintro⟨t,f',h,hi,e,h'⟩
  cases t with
  |nil=>
   have e:=(List.cons.inj e).2
   subst e
   exact⟨hi,h'⟩
  |dot t=>have:=(List.cons.inj e).1;omega
  |pr a b=>have:=(List.cons.inj e).1;omega
 ·rintro⟨hi,h⟩
  exact⟨.nil,f,trivial,hi,rfl,h⟩
theorem pq{n:Nat}{f:List Nat}:¬Gm al n [] (41::f):=by
 rintro⟨t,h,e⟩
 cases t with
 |nil=>cases e
 |dot t=>have:=(List.cons.inj e).1;omega
 |pr a b=>have:=(List.cons.inj e).1;omega
theorem kK{n:Nat}{o f:List Nat}:Gm al n o (40::f)↔Gm al (n+1) (n::o) f:=by
 cases o with
 |nil=>
  constructor
  ·rintro⟨t,h,e⟩
   cases t with
   |nil=>cases e
   |dot t=>have:=(List.cons.inj e).1;omega
   |pr a b=>
    refine⟨a,rowOf b,h.2.1,h.1,(List.cons.inj e).2,b,?_,rfl⟩
    rw [show n+1+a.len+1=n+2+a.len by omega];exact h.2.2
  ·rintro⟨a,f',ha,hi,e,b,hb,e'⟩
   refine⟨.pr a b,⟨hi,ha,?_⟩,by rw [e,e'];rfl⟩
   rw [show n+2+a.len=n+1+a.len+1 by omega];exact hb
 |cons i o=>
  constructor
  ·rintro⟨t,f',h,hi,e,h'⟩
   cases t with
   |nil=>have:=(List.cons.inj e).1;omega
   |dot t=>have:=(List.cons.inj e).1;omega
   |pr a b=>
    have el:n+(pr a b).len=n+1+a.len+1+b.len:=by simp only [T.len];omega
    rw [el] at hi h'
    refine⟨a,rowOf b++41::f',h.2.1,h.1,?_,b,f',?_,hi,rfl,h'⟩
    ·have:f=(rowOf a++41::rowOf b)++41::f':=(List.cons.inj e).2
     rw [this,List.append_assoc];rfl
    ·rw [show n+1+a.len+1=n+2+a.len by omega];exact h.2.2
  ·rintro⟨a,f1,ha,hi,e,b,f',hb,hi',e',h'⟩
   have el:n+1+a.len+1+b.len=n+(pr a b).len:=by simp only [T.len];omega
   rw [el] at hi' h'
   refine⟨.pr a b,f',⟨hi,ha,?_⟩,hi',?_,h'⟩
   ·rw [show n+2+a.len=n+1+a.len+1 by omega];exact hb
   ·rw [e,e']
    show _=40::((rowOf a++41::rowOf b)++41::f')
    rw [List.append_assoc];rfl
theorem rb{n c:Nat}{o f:List Nat}(h1:c≠40)(h2:c≠41)(h3:c≠46):¬Gm al n o (c::f):=by
 cases o with
 |nil=>
  rintro⟨t,h,e⟩
  cases t with
  |nil=>cases e
  |dot t=>exact h3 (List.cons.inj e).1
  |pr a b=>exact h1 (List.cons.inj e).1
 |cons i o=>
  rintro⟨t,f',h,hi,e,h'⟩
  cases t with
  |nil=>exact h2 (List.cons.inj e).1
  |dot t=>exact h3 (List.cons.inj e).1
  |pr a b=>exact h1 (List.cons.inj e).1
theorem eA(s:List Nat)(k n:Nat)(o:List Nat):Md22.foldsFrom s (k+1) n o=if k+1<o.length then [] else
  (Md22.foldsFrom s k (n+1) (n::o)).map (fun (r:List Nat)=>40::r)++
  ((match o with
   |i::q=>if (Md22.sort (Md22.letter s i) (Md22.letter s n)).isSome=true/\i+3<n then (Md22.foldsFrom s k (n+1) q).map (fun (r:List Nat)=>41::r) else []
   |[]=>[])++
  (Md22.foldsFrom s k (n+1) o).map fun (r:List Nat)=>46::r):=by
 cases o <;> rfl
theorem dX(s:List Nat)(n:Nat)(o:List Nat):Md22.foldsFrom s 0 n o=if o.isEmpty=true then [[]] else []:=by
 cases o <;> rfl
theorem bF(s:List Nat):∀(k n:Nat) (o f:List Nat),n+k=s.length->(f∈Md22.foldsFrom s k n o↔f.length=k/\Gm (alS s) n o f)
 |0,n,o,f,_=>by
  rw [dX]
  cases o with
  |nil=>
   simp only [List.isEmpty_nil,if_true,List.mem_singleton]
   constructor
   ·rintro rfl
    exact⟨rfl,.nil,trivial,rfl⟩
   ·rintro⟨h,_⟩
    exact List.eq_nil_of_length_eq_zero h
  |cons i o=>
   simp only [List.isEmpty_cons,Bool.false_eq_true,if_false,List.not_mem_nil,false_iff]
   rintro⟨h,g⟩
   have:=g.len
   simp only [List.length_cons] at this
   omega
 |k+1,n,o,f,hn=>by
  rw [eA]
  by_cases c:k+1<o.length
  ·rw [if_pos c]
   simp only [List.not_mem_nil,false_iff]
   rintro⟨h,g⟩
   have:=g.len
   omega
  ·rw [if_neg c,List.mem_append,List.mem_append]
   have m1:f∈(Md22.foldsFrom s k (n+1) (n::o)).map (fun (r:List Nat)=>40::r)↔∃r,(r.length=k/\Gm (alS s) (n+1) (n::o) r)/\40::r=f:=by
    rw [List.mem_map]
    constructor
    ·rintro⟨r,h,e⟩;exact⟨r,(bF s k (n+1) (n::o) r (by omega)).mp h,e⟩
    ·rintro⟨r,h,e⟩;exact⟨r,(bF s k (n+1) (n::o) r (by omega)).mpr h,e⟩
   have m3:f∈(Md22.foldsFrom s k (n+1) o).map (fun (r:List Nat)=>46::r)↔∃r,(r.length=k/\Gm (alS s) (n+1) o r)/\46::r=f:=by
    rw [List.mem_map]
    constructor
    ·rintro⟨r,h,e⟩;exact⟨r,(bF s k (n+1) o r (by omega)).mp h,e⟩
    ·rintro⟨r,h,e⟩;exact⟨r,(bF s k (n+1) o r (by omega)).mpr h,e⟩
   have m2:f∈(match o with
     |i::q=>if (Md22.sort (Md22.letter s i) (Md22.letter s n)).isSome=true/\i+3<n then (Md22.foldsFrom s k (n+1) q).map (fun (r:List Nat)=>41::r) else []
     |[]=>[])↔∃r,r.length=k/\Gm (alS s) n o (41::r)/\41::r=f:=by
    cases o with
    |nil=>
     simp only [List.not_mem_nil,false_iff]
     rintro⟨r,_,h,_⟩
     exact pq h
    |cons i o=>
     simp only
     by_cases c:(Md22.sort (Md22.letter s i) (Md22.letter s n)).isSome=true/\i+3<n
     ·rw [if_pos c,List.mem_map]
      constructor
      ·rintro⟨r,h,e⟩
       have:=(bF s k (n+1) o r (by omega)).mp h
       exact⟨r,this.1,fQ.mpr ⟨⟨c.1,c.2,by omega⟩,this.2⟩,e⟩
      ·rintro⟨r,h1,h2,e⟩
       exact⟨r,(bF s k (n+1) o r (by omega)).mpr ⟨h1,(fQ.mp h2).2⟩,e⟩
     ·rw [if_neg c]
      simp only [List.not_mem_nil,false_iff]
      rintro⟨r,h1,h2,e⟩
      have:=(fQ.mp h2).1
      exact c ⟨this.1,this.2.1⟩
   rw [m1,m2,m3]
   constructor
   ·rintro (⟨r,⟨h1,h2⟩,rfl⟩|⟨r,h1,h2,rfl⟩|⟨r,⟨h1,h2⟩,rfl⟩)
    ·exact⟨by simp [h1],kK.mpr h2⟩
    ·exact⟨by simp [h1],h2⟩
    ·exact⟨by simp [h1],nt.mpr h2⟩
   ·rintro⟨h1,h2⟩
    cases f with
    |nil=>simp at h1
    |cons c r=>
     simp only [List.length_cons] at h1
     by_cases c1:c=40
     ·subst c1
      exact .inl ⟨r,⟨by omega,kK.mp h2⟩,rfl⟩
     ·by_cases c2:c=41
      ·subst c2
       exact .inr (.inl ⟨r,by omega,h2,rfl⟩)
      ·by_cases c3:c=46
       ·subst c3
        exact .inr (.inr ⟨r,⟨by omega,nt.mp h2⟩,rfl⟩)
       ·exact (rb c1 c2 c3 h2).elim
theorem cN(c:Nat){l:List (List Nat)}(h:l.Nodup):(l.map (fun (r:List Nat)=>c::r)).Nodup:=b8 h fun x _ y _ e=>(List.cons.inj e).2
theorem bX(s:List Nat):∀(k n:Nat) (o:List Nat),(Md22.foldsFrom s k n o).Nodup
 |0,n,o=>by
  rw [dX]
  split <;> simp
 |k+1,n,o=>by
  rw [eA]
  split
  ·simp
  ·have n1:=cN 40 (bX s k (n+1) (n::o))
   have n3:=cN 46 (bX s k (n+1) o)
   have hd:∀(c:Nat) (l:List (List Nat)) (f:List Nat),f∈l.map (fun (r:List Nat)=>c::r)->f.head?=some c:=by
    intro c l f h
    obtain⟨r,_,rfl⟩:=List.mem_map.mp h
    rfl
   have n2:(match o with
     |i::q=>if (Md22.sort (Md22.letter s i) (Md22.letter s n)).isSome=true/\i+3<n then (Md22.foldsFrom s k (n+1) q).map (fun (r:List Nat)=>41::r) else []
     |[]=>[]).Nodup/\∀f∈(match o with
     |i::q=>if (Md22.sort (Md22.letter s i) (Md22.letter s n)).isSome=true/\i+3<n then (Md22.foldsFrom s k (n+1) q).map (fun (r:List Nat)=>41::r) else []
     |[]=>[]),f.head?=some 41:=by
    cases o with
    |nil=>simp
    |cons i o=>
     simp only
     split
     ·exact⟨cN 41 (bX s k (n+1) o),fun f hf=>hd 41 _ f hf⟩
     ·simp
   rw [List.nodup_append,List.nodup_append]
   refine⟨n1,⟨n2.1,n3,fun x hx y hy e=>?_⟩,fun x hx y hy e=>?_⟩
   ·subst e
    have a:=n2.2 x hx
    have b:=hd _ _ _ hy
    rw [a] at b
    simp at b
   ·subst e
    have a:=hd _ _ _ hx
    rcases List.mem_append.mp hy with hy |hy
    ·have b:=n2.2 x hy
     rw [a] at b
     simp at b
    ·have b:=hd _ _ _ hy
     rw [a] at b
     simp at b
theorem cB(s:List Nat)(f:List Nat):f∈Md22.foldsOf s↔∃t,Rs (alS s) s.length 0 t/\f=rowOf t:=by
 unfold Md22.foldsOf
 rw [bF s s.length 0 [] f (by omega)]
 constructor
 ·rintro⟨h,t,o,rfl⟩
  rw [bI] at h
  exact⟨t,⟨o,by omega⟩,rfl⟩
 ·rintro⟨t,⟨o,h⟩,rfl⟩
  exact⟨by rw [bI];omega,t,o,rfl⟩
theorem lh{s:List Nat}{L:List T}(h:En L (Rs (alS s) s.length 0)):(Md22.foldsOf s).Perm (L.map rowOf):=by
 refine jg (bX s _ _ _) (b8 h.nd fun x _ y _ e=>gN e) fun f=>?_
 rw [cB,List.mem_map]
 constructor
 ·rintro⟨t,ht,rfl⟩;exact⟨t,(h.mem t).mpr ht,rfl⟩
 ·rintro⟨t,ht,rfl⟩;exact⟨t,(h.mem t).mp ht,rfl⟩
end Fs
end
section
namespace Fs
open T
theorem t8(a b:Nat):Md22.sort a b=if a=65/\b=85 then some 0 else if a=67/\b=71 then some 1 else if a=71/\b=67 then some 2 else if a=71/\b=85 then some 3 else if a=85/\b=65 then some 4 else if a=85/\b=71 then some 5 else none:=by
 have e:(["AU","CG","GC","GU","UA","UG"].map Md22.ascii)=[[65,85],[67,71],[71,67],[71,85],[85,65],[85,71]]:=by decide
 unfold Md22.sort
 rw [e]
 have hc:∀(x y:Nat),([x,y]==[a,b])=decide (a=x/\b=y):=by
  intro x y
  rw [Bool.eq_iff_iff,beq_iff_eq,decide_eq_true_eq]
  constructor
  ·intro h;injection h with h1 h2;injection h2 with h2 _;exact⟨h1.symm,h2.symm⟩
  ·rintro⟨rfl,rfl⟩;rfl
 simp only [List.idxOf?,List.findIdx?,List.findIdx?.go,hc,decide_eq_true_eq]
def nats(s:List Int):List Nat:=s.map Int.toNat
theorem b9(s:List Int)(i:Nat):Md22.letter (nats s) i=(g s i).toNat:=by
 unfold Md22.letter nats g
 rw [List.getD_eq_getElem?_getD,List.getD_eq_getElem?_getD,List.getElem?_map]
 cases s[i]? <;> rfl
theorem bP(s:List Int):(nats s).length=s.length:=by simp [nats]
theorem du{s:List Int}(h:∀x∈s,0<=x)(i:Nat):0<=g s i:=by
 unfold g
 rw [List.getD_eq_getElem?_getD]
 cases e:s[i]? with
 |none=>simp
 |some x=>exact h x (List.mem_of_getElem? e)
theorem eH{a b:Int}(ha:0<=a)(hb:0<=b):sortsGet a b=match Md22.sort a.toNat b.toNat with
  |some k=>(k:Int)
  |none=>-1:=by
 rw [t8]
 unfold sortsGet
 have e:∀(x:Int) (n:Nat),0<=x->((x=n)↔x.toNat=n):=fun x n h=>by omega
 have c:∀(m n:Nat),(a=(m:Int)/\b=(n:Int))↔(a.toNat=m/\b.toNat=n):=fun m n=>by rw [e a m ha,e b n hb]
 have c1:=c 65 85
 have c2:=c 67 71
 have c3:=c 71 67
 have c4:=c 71 85
 have c5:=c 85 65
 have c6:=c 85 71
 simp only [Int.cast_ofNat_Int] at c1 c2 c3 c4 c5 c6
 simp only [c1,c2,c3,c4,c5,c6]
 by_cases h1:a.toNat=65/\b.toNat=85
 ·simp only [h1];rfl
 ·rw [if_neg h1,if_neg h1]
  by_cases h2:a.toNat=67/\b.toNat=71
  ·simp only [h2];rfl
  ·rw [if_neg h2,if_neg h2]
   by_cases h3:a.toNat=71/\b.toNat=67
   ·simp only [h3];rfl
   ·rw [if_neg h3,if_neg h3]
    by_cases h4:a.toNat=71/\b.toNat=85
    ·simp only [h4];rfl
    ·rw [if_neg h4,if_neg h4]
     by_cases h5:a.toNat=85/\b.toNat=65
     ·simp only [h5];rfl
     ·rw [if_neg h5,if_neg h5]
      by_cases h6:a.toNat=85/\b.toNat=71
      ·simp only [h6];rfl
      ·rw [if_neg h6,if_neg h6]
theorem cC{s:List Int}(h:∀x∈s,0<=x){l r:Nat}(ha:0<=aE s l r):l+4<=r/\∃k:Nat,Md22.sort (Md22.letter (nats s) l) (Md22.letter (nats s) r)=some k/\aE s l r=k:=by
 unfold aE at ha ⊢
 by_cases c:(r:Int)-l<4
 ·rw [if_pos c] at ha;omega
 ·rw [if_neg c] at ha ⊢
  refine⟨by omega,?_⟩
  rw [b9,b9]
  rw [eH (du h l) (du h r)] at ha ⊢
  cases e:Md22.sort (g s l).toNat (g s r).toNat with
  |none=>rw [e] at ha;simp at ha
  |some k=>exact⟨k,rfl,rfl⟩
theorem vt{s:List Int}(h:∀x∈s,0<=x)(l r:Nat):alOf s l r↔alS (nats s) l r:=by
 unfold alOf alS
 rw [bP]
 constructor
 ·rintro⟨h1,h2,h3⟩
  obtain⟨_,k,e,_⟩:=cC h h3
  exact⟨by rw [e];rfl,by omega,h2⟩
 ·rintro⟨h1,h2,h3⟩
  refine⟨by omega,h3,?_⟩
  unfold aE
  rw [if_neg (by omega),eH (du h l) (du h r)]
  rw [b9,b9] at h1
  cases e:Md22.sort (g s l).toNat (g s r).toNat with
  |none=>rw [e] at h1;simp at h1
  |some k=>simp only;omega
theorem f7{al al':Nat->Nat->Prop}(h:∀l r,al l r↔al' l r):∀{i:Nat} {t:T},Ok al i t↔Ok al' i t
 |_,.nil=>Iff.rfl
 |i,.dot t=>f7 h (t:=t)
 |i,.pr a b=>by
  simp only [Ok]
  rw [h,f7 h (t:=a),f7 h (t:=b)]
theorem nu{s:List Int}(h:∀x∈s,0<=x)(t:T):Rs (alOf s) s.length 0 t↔Rs (alS (nats s)) (nats s).length 0 t:=by
 unfold Rs
 rw [f7 (vt h),bP]
def exs(z:Pz)(i:Nat)(t:T):Int:=((pl i t).map fun q=>z.ex q.1 q.2).sum
structure Scl(al:Nat->Nat->Prop)(k:Int)(z z0:Pz):Prop where
 ends:∀m,m<100->z.ends m=k*z0.ends m
 side:∀m,m<100->z.side m=k*z0.side m
 both:∀m,m<100->z.both m=k*z0.both m
 stack:∀l r p q,al l r->al p q->z.stack l r p q=k*z0.stack l r p q
 once:z.once=k*z0.once
 pair:z.pair=k*z0.pair
 letter:z.letter=k*z0.letter
 ex:∀l r,z0.ex l r=0
theorem qI{al:Nat->Nat->Prop}{k:Int}{z z0:Pz}(S:Scl al k z z0){l:Nat}{a:T}(h1:al l (l+1+a.len))(h2:Ok al (l+1) a)(h3:a.len<100):loopc z l a=k*loopc z0 l a:=by
 unfold loopc
 by_cases e0:a.ntop=0
 ·rw [if_pos e0,if_pos e0]
  exact S.ends _ h3
 ·rw [if_neg e0,if_neg e0]
  by_cases e1:a.ntop=1
  ·rw [if_pos e1,if_pos e1]
   obtain⟨x,c,y,rfl⟩:=fV e1
   rw [bV] at h3
   have hx:x=l+1+x-l-1:=by omega
   have ho:=h2
   rw [hx] at ho
   have hal:=((kl (l:=l) (p:=l+1+x) (by omega) rfl).mp ho).1
   rw [bV,ck,eU]
   unfold single
   simp only
   have e2:l+1+(x+c.len+y+2)-1-(x+y-x)=l+1+x+1+c.len:=by omega
   rw [e2]
   split
   ·rw [bV] at h1
    exact S.stack _ _ _ _ h1 hal
   ·split
    ·exact S.side _ (by omega)
    ·exact S.both _ (by omega)
  ·rw [if_neg e1,if_neg e1,S.once,S.pair,S.letter,Int.mul_add,Int.mul_add,Int.mul_left_comm,Int.mul_left_comm (↑a.ndot)]
theorem dn{al:Nat->Nat->Prop}{k:Int}{z z0:Pz}(S:Scl al k z z0):∀{i:Nat} {t:T},Ok al i t->t.len<=100->tcost z i t=k*tcost z0 i t+exs z i t
 |_,.nil,_,_=>by simp [tcost,exs,pl]
 |i,.dot t,h,hl=>by
  have:=dn S (t:=t) h (by simp only [len] at hl;omega)
  exact this
 |i,.pr a b,h,hl=>by
  simp only [len] at hl
  have h1:=dn S (t:=a) h.2.1 (by omega)
  have h2:=dn S (t:=b) h.2.2 (by omega)
  have h3:=qI S h.1 h.2.1 (by omega)
  have h4:exs z i (.pr a b)=exs z (i+1) a+(z.ex i (i+1+a.len)+exs z (i+2+a.len) b):=by
   unfold exs
   simp only [pl,List.map_append,List.map_cons]
   rw [sum_append,List.sum_cons]
  simp only [tcost]
  rw [h1,h2,h3,h4,S.ex,Int.mul_add,Int.mul_add,Int.mul_add]
  omega
theorem mD{al:Nat->Nat->Prop}:∀{i:Nat} {t:T} {q:Nat × Nat},Ok al i t->q∈pl i t->al q.1 q.2
 |_,.nil,_,_,h=>by simp [pl] at h
 |i,.dot t,q,o,h=>mD (t:=t) o h
 |i,.pr a b,q,o,h=>by
  simp only [pl] at h
  rcases List.mem_append.mp h with h |h
  ·exact mD o.2.1 h
  ·rcases List.mem_cons.mp h with rfl |h
   ·exact o.1
   ·exact mD o.2.2 h
theorem ku{z:Pz}(h:∀l r,z.wf l r=1):∀(i:Nat) (t:T),wt z i t=1
 |_,.nil=>rfl
 |i,.dot t=>ku h (i+1) t
 |i,.pr a b=>by simp only [wt,ku h,h];rfl
theorem dP{z:Pz}{m:Nat × Nat}{W:Int}(h:∀l r,z.wf l r=if (l,r)=m then W else 1):∀{i:Nat} {t:T},m∉pl i t->wt z i t=1
 |_,.nil,_=>rfl
 |i,.dot t,q=>dP h (t:=t) q
 |i,.pr a b,q=>by
  simp only [pl,List.mem_append,List.mem_cons,not_or] at q
  obtain⟨q1,q2,q3⟩:=q
  simp only [wt]
  rw [dP h q1,dP h q3,h,if_neg (fun e=>q2 e.symm)];rfl
theorem gc{z:Pz}{m:Nat × Nat}{W:Int}(h:∀l r,z.wf l r=if (l,r)=m then W else 1):∀{i:Nat} {t:T},m∈pl i t->wt z i t=W
 |_,.nil,q=>by simp [pl] at q
 |i,.dot t,q=>gc h (t:=t) q
 |i,.pr a b,q=>by
  simp only [pl] at q
  simp only [wt]
  rcases List.mem_append.mp q with q |q
  ·have q1:=b7 q
   rw [gc h q,h,if_neg (by intro e;rw [<-e] at q1;simp only at q1;omega),dP h (fun e=>by have:=b7 e;omega)];omega
  ·rcases List.mem_cons.mp q with e |q
   ·rw [dP h (i:=i+1) (t:=a) (fun e'=>by have:=b7 e';rw [e] at this;simp only at this;omega),h,if_pos e.symm,dP h (fun e'=>by have:=b7 e';rw [e] at this;simp only at this;omega)];omega
   ·have q1:=b7 q
    rw [dP h (i:=i+1) (t:=a) (fun e'=>by have:=b7 e';omega),h,if_neg (by intro e;rw [<-e] at q1;simp only at q1;omega),gc h q];omega
end Fs
end
section
namespace Fs
open T
theorem dw(l:List Int)(k:Int)(j:Nat):g (l.map (· *k)) j=k*g l j:=by
 unfold g
 rw [List.getD_eq_getElem?_getD,List.getD_eq_getElem?_getD,List.getElem?_map]
 cases l[j]? with
 |none=>simp
 |some x=>simp [Int.mul_comm]
theorem qk(x y:List Int)(m:Nat):g (x++y) m=if m<x.length then g x m else g y (m-x.length):=by
 unfold g
 rw [List.getD_eq_getElem?_getD,List.getElem?_append]
 split <;> rw [List.getD_eq_getElem?_getD]
theorem ju{x:List Int}(hx:x.length=31){m:Nat}(hm:m<100):g (stretched x) m=g x (min m 30):=by
 unfold stretched
 rw [qk,hx]
 by_cases c:m<31
 ·rw [if_pos c,show min m 30=m by omega]
 ·rw [if_neg c,aR _ _ _ (by omega),show min m 30=30 by omega]
  unfold g
  rw [List.getLastD_eq_getLast?,List.getLast?_eq_getElem?,hx,List.getD_eq_getElem?_getD]
theorem cw{x:List Int}(hx:x.length=31):(stretched x).length=100:=by
 unfold stretched
 simp [hx]
theorem kP{l:List Int}{b:Int}(hb:0<=b)(h:∀x∈l,-b<=x/\x<=b)(m:Nat):-b<=g l m/\g l m<=b:=by
 unfold g
 rw [List.getD_eq_getElem?_getD]
 cases e:l[m]? with
 |none=>simp;omega
 |some x=>exact h x (List.mem_of_getElem? e)
theorem jx{x:List Int}{v:Int}(h:v∈stretched x)(h0:x≠[]):v∈x:=by
 unfold stretched at h
 rcases List.mem_append.mp h with h |h
 ·exact h
 ·have:=(List.mem_replicate.mp h).2
  rw [this,List.getLastD_eq_getLast?,List.getLast?_eq_some_getLast h0]
  exact List.getLast_mem h0
structure Nums(ns:List Int)(C:Md22.Costs):Prop where
 len:ns.length=132
 bd:∀x∈ns,-10000<=x/\x<=10000
 eq:C=⟨ns.take 36,(ns.drop 36).take 31,(ns.drop 67).take 31,(ns.drop 98).take 31,ns.drop 129⟩
structure Good(s:List Int):Prop where
 pos:∀x∈s,0<=x
 n1:1<=s.length
 n100:s.length<=100
structure PrcOk(ns s:List Int)(k:Int)(p:Prc):Prop where
 k1:1<=k
 tab:p.tab=tables ns k
 far:p.far=FAR*k
 ex:∀l r,-k<=g p.opening l+g p.closing r/\g p.opening l+g p.closing r<=k
 w:1<=p.weight
section
variable {ns s:List Int}{C:Md22.Costs}{k:Int}{p:Prc}
theorem eY(hn:ns.length=132)(a:Nat)(h:a+31<=132)(k:Int):(((ns.map (· *k)).drop a).take 31).length=31:=by simp [hn];omega
theorem kD(N:Nums ns C)(a:Nat)(h:a+31<=132){m:Nat}(hm:m<100):g (stretched (((ns.map (· *k)).drop a).take 31)) m=k*Md22.upTo ((ns.drop a).take 31) m:=by
 rw [ju (eY N.len a h k) hm,<-List.map_drop,<-List.map_take,dw]
 rfl
theorem gh(N:Nums ns C)(hk:1<=k)(a:Nat)(h:a+31<=132)(m:Nat):-(10000*k)<=g (stretched (((ns.map (· *k)).drop a).take 31)) m/\g (stretched (((ns.map (· *k)).drop a).take 31)) m<=10000*k:=by
 refine kP (by omega) (fun x hx=>?_) m
 have hx:=jx hx (fun e=>by have:=eY N.len a h k;rw [e] at this;simp at this)
 have hx:=List.mem_of_mem_drop (List.mem_of_mem_take hx)
 obtain⟨y,hy,rfl⟩:=List.mem_map.mp hx
 have:=N.bd y hy
 constructor
 ·have:=Int.mul_le_mul_of_nonneg_right this.1 (show 0<=k by omega);omega
 ·have:=Int.mul_le_mul_of_nonneg_right this.2 (show 0<=k by omega);omega
theorem gF(N:Nums ns C)(hk:1<=k)(m:Nat):-(10000*k)<=g (ns.map (· *k)) m/\g (ns.map (· *k)) m<=10000*k:=by
 refine kP (by omega) (fun x hx=>?_) m
 obtain⟨y,hy,rfl⟩:=List.mem_map.mp hx
 have:=N.bd y hy
 constructor
 ·have:=Int.mul_le_mul_of_nonneg_right this.1 (show 0<=k by omega);omega
 ·have:=Int.mul_le_mul_of_nonneg_right this.2 (show 0<=k by omega);omega
theorem lT(N:Nums ns C)(h:PrcOk ns s k p):p.tab.both.length=100:=by
 rw [h.tab]
 exact cw (eY N.len 98 (by omega) k)
theorem qy(N:Nums ns C)(hs:Good s)(h:PrcOk ns s k p):Gz s p (10000*k):=by
 have hk:=h.k1
 refine⟨by omega,fun m=>?_,fun l r a b=>?_,fun m=>?_,fun m=>?_,?_,?_,?_,fun l r=>?_,fun l r=>?_,fun l r q=>q.1,fun l r q=>q.2.1,?_⟩
 ·show -(10000*k)<=g p.tab.ends m/\g p.tab.ends m<=10000*k
  rw [h.tab];exact gh N hk 36 (by omega) m
 ·show -(10000*k)<=g p.tab.stacks _/\g p.tab.stacks _<=10000*k
  rw [h.tab]
  refine kP (by omega) (fun x hx=>?_) _
  obtain⟨y,hy,rfl⟩:=List.mem_map.mp (List.mem_of_mem_take hx)
  have:=N.bd y hy
  constructor
  ·have:=Int.mul_le_mul_of_nonneg_right this.1 (show 0<=k by omega);omega
  ·have:=Int.mul_le_mul_of_nonneg_right this.2 (show 0<=k by omega);omega
 ·show -(10000*k)<=g p.tab.sides m/\g p.tab.sides m<=10000*k
  rw [h.tab];exact gh N hk 67 (by omega) m
 ·show -(10000*k)<=g p.tab.both m/\g p.tab.both m<=10000*k
  rw [h.tab];exact gh N hk 98 (by omega) m
 ·show -(10000*k)<=p.tab.once/\p.tab.once<=10000*k
  rw [h.tab];exact gF N hk 129
 ·show -(10000*k)<=p.tab.pair/\p.tab.pair<=10000*k
  rw [h.tab];exact gF N hk 130
 ·show -(10000*k)<=p.tab.letter/\p.tab.letter<=10000*k
  rw [h.tab];exact gF N hk 131
 ·have:=h.ex l r
  show -(10000*k)<=g p.opening l+g p.closing r/\g p.opening l+g p.closing r<=10000*k
  omega
 ·show 1<=if p.mark=some ((l:Int),(r:Int)) then p.weight else 1
  have:=h.w
  split <;> omega
 ·rw [h.far]
  have h1:B (10000*k) (s.length+1)<=B (10000*k) 101:=ef (by omega) (by have:=hs.n100;omega)
  have h2:B (10000*k) 101=4040000*k:=by unfold B;omega
  unfold FAR
  omega
theorem jq(ns:List Int)(j:Nat):(ns.drop 129).getD j 0=g ns (129+j):=by
 unfold g
 rw [List.getD_eq_getElem?_getD,List.getElem?_drop,List.getD_eq_getElem?_getD]
theorem rD(N:Nums ns C)(hs:Good s)(h:PrcOk ns s k p):Scl (alOf s) k (zOf s p) (zS C (nats s)):=by
 have eC:=N.eq
 subst eC
 refine⟨fun m hm=>?_,fun m hm=>?_,fun m hm=>?_,fun l r a b h1 h2=>?_,?_,?_,?_,fun _ _=>rfl⟩
 ·show g p.tab.ends m=_
  rw [h.tab];exact kD N 36 (by omega) hm
 ·show g p.tab.sides m=_
  rw [h.tab];exact kD N 67 (by omega) hm
 ·show g p.tab.both m=_
  rw [h.tab];exact kD N 98 (by omega) hm
 ·obtain⟨_,x,e1,e2⟩:=cC hs.pos h1.2.2
  obtain⟨_,y,e3,e4⟩:=cC hs.pos h2.2.2
  show g p.tab.stacks (6*aE s l r+aE s a b).toNat=k*(ns.take 36).getD (6*(Md22.sort (Md22.letter (nats s) l) (Md22.letter (nats s) r)).getD 0+(Md22.sort (Md22.letter (nats s) a) (Md22.letter (nats s) b)).getD 0) 0
  rw [h.tab,e1,e2,e3,e4]
  show g ((ns.map (· *k)).take 36) _=_
  rw [<-List.map_take,dw]
  have:(6*(x:Int)+(y:Int)).toNat=6*x+y:=by omega
  rw [this]
  rfl
 ·show p.tab.once=k*(ns.drop 129).getD 0 0
  rw [h.tab,jq];exact dw _ _ _
 ·show p.tab.pair=k*(ns.drop 129).getD 1 0
  rw [h.tab,jq];exact dw _ _ _
 ·show p.tab.letter=k*(ns.drop 129).getD 2 0
  rw [h.tab,jq];exact dw _ _ _
end
theorem lY{C:Md22.Costs}{s:List Nat}(h:Md22.foldsOf s≠[]):Md22.best C s∈Md22.foldsOf s/\∀f∈Md22.foldsOf s,Md22.cost C s (Md22.best C s)<=Md22.cost C s f:=by
 unfold Md22.best
 cases e:Md22.foldsOf s with
 |nil=>exact (h e).elim
 |cons f l=>
  simp only
  have:∀(l:List (List Nat)) (b:List Nat),(l.foldl (fun (b g:List Nat)=>if Md22.cost C s g<Md22.cost C s b\/(Md22.cost C s g=Md22.cost C s b/\Md22.before g b=true) then g else b) b∈b::l)/\
    ∀f∈b::l,Md22.cost C s (l.foldl (fun (b g:List Nat)=>if Md22.cost C s g<Md22.cost C s b\/(Md22.cost C s g=Md22.cost C s b/\Md22.before g b=true) then g else b) b)<=Md22.cost C s f:=by
   intro l
   induction l with
   |nil=>intro b;simp
   |cons x l ih=>
    intro b
    rw [List.foldl_cons]
    split
    ·rename_i c
     obtain⟨i1,i2⟩:=ih x
     refine⟨List.mem_cons_of_mem _ i1,fun f hf=>?_⟩
     rcases List.mem_cons.mp hf with rfl |hf
     ·have:=i2 x (by simp)
      omega
     ·exact i2 f hf
    ·rename_i c
     obtain⟨i1,i2⟩:=ih b
     refine⟨?_,fun f hf=>?_⟩
     ·rcases List.mem_cons.mp i1 with i1 |i1
      ·rw [i1];simp
      ·simp [i1]
     ·have i3:=i2 b (by simp)
      rcases List.mem_cons.mp hf with rfl |hf
      ·exact i3
      ·rcases List.mem_cons.mp hf with rfl |hf
       ·have:¬Md22.cost C s f<Md22.cost C s b:=fun q=>c (.inl q)
        omega
       ·exact i2 f (by simp [hf])
  exact this l f
theorem fN(s:List Nat):Md22.foldsOf s≠[]:=by
 have:rowOf (dots s.length)∈Md22.foldsOf s:=(cB s _).mpr ⟨dots s.length,⟨dO _ _,by rw [bB];omega⟩,rfl⟩
 intro e
 rw [e] at this
 simp at this
def cntP{α:Type}(f:α->Bool)(l:List α):Int:=((l.filter f).length:Int)
theorem cK{α:Type}(f:α->Bool)(a:α)(l:List α):cntP f (a::l)=(if f a=true then 1 else 0)+cntP f l:=by
 unfold cntP
 rw [List.filter_cons]
 split
 ·simp only [List.length_cons,Int.natCast_add];omega
 ·omega
theorem gn{α:Type}(f:α->Bool){l r:List α}(h:l.Perm r):cntP f l=cntP f r:=by
 unfold cntP
 rw [(h.filter f).length_eq]
theorem fF{α β:Type}(f:β->Bool)(m:α->β):∀l:List α,cntP f (l.map m)=cntP (fun x=>f (m x)) l
 |[]=>rfl
 |a::l=>by rw [List.map_cons,cK,cK,fF f m l]
theorem oo{α:Type}(f:α->Bool)(l:List α):0<=cntP f l/\cntP f l<=l.length:=by
 unfold cntP
 have:=List.length_filter_le f l
 omega
theorem gM{α:Type}(m W:Int)(c w:α->Int)(f:α->Bool):∀(l:List α),(∀x∈l,w x=if f x=true then W else 1)->cnt m (l.map fun x=>(c x,w x))=W*cntP (fun x=>f x && decide (c x=m)) l+cntP (fun x=>!f x && decide (c x=m)) l
 |[],_=>by simp [cnt,cntP]
 |a::l,h=>by
  rw [List.map_cons,cnt,cK,cK,gM m W c w f l fun x hx=>h x (by simp [hx])]
  simp only
  rw [h a (by simp)]
  cases e:f a with
  |false=>
   by_cases q:c a=m
   ·simp [q];omega
   ·simp [q]
  |true=>
   by_cases q:c a=m
   ·simp [q,Int.mul_add];omega
   ·simp [q]
theorem gg{α:Type}(W:Int)(w:α->Int)(f:α->Bool):∀(l:List α),(∀x∈l,w x=if f x=true then W else 1)->(l.map w).sum=W*cntP f l+cntP (fun x=>!f x) l
 |[],_=>by simp [cntP]
 |a::l,h=>by
  rw [List.map_cons,List.sum_cons,cK,cK,gg W w f l fun x hx=>h x (by simp [hx]),h a (by simp)]
  cases e:f a with
  |false=>simp;omega
  |true=>simp [Int.mul_add];omega
def rows3:Nat->List (List Nat)
 |0=>[[]]
 |n+1=>(rows3 n).map (40::·)++((rows3 n).map (41::·)++(rows3 n).map (46::·))
theorem gB:∀n,(rows3 n).length=3^n
 |0=>rfl
 |n+1=>by
  simp only [rows3,List.length_append,List.length_map,gB n,Nat.pow_succ]
  omega
def sign(c:Nat):Prop:=c=40\/c=41\/c=46
theorem gu:∀(f:List Nat),(∀c∈f,sign c)->f∈rows3 f.length
 |[],_=>by simp [rows3]
 |c::f,h=>by
  have ih:=gu f fun x hx=>h x (by simp [hx])
  simp only [List.length_cons,rows3,List.mem_append,List.mem_map]
  rcases h c (by simp) with rfl |rfl |rfl
  ·exact .inl ⟨f,ih,rfl⟩
  ·exact .inr (.inl ⟨f,ih,rfl⟩)
  ·exact .inr (.inr ⟨f,ih,rfl⟩)
theorem cM:∀(t:T),∀c∈rowOf t,sign c
 |.nil,c,h=>by simp [rowOf] at h
 |.dot t,c,h=>by
  simp only [rowOf,List.mem_cons] at h
  rcases h with rfl |h
  ·exact .inr (.inr rfl)
  ·exact cM t c h
 |.pr a b,c,h=>by
  simp only [rowOf,List.mem_cons,List.mem_append] at h
  rcases h with rfl |h |rfl |h
  ·exact .inl rfl
  ·exact cM a c h
  ·exact .inr (.inl rfl)
  ·exact cM b c h
theorem pf{al:Nat->Nat->Prop}{n:Nat}{L:List T}(h:En L (Rs al n 0)):L.length<=3^n:=by
 have e:(L.map rowOf).length<=(rows3 n).length:=by
  refine eF (b8 h.nd fun x _ y _ e=>gN e) fun f hf=>?_
  obtain⟨t,ht,rfl⟩:=List.mem_map.mp hf
  have:=gu (rowOf t) (cM t)
  rw [bI] at this
  have e:=((h.mem t).mp ht).2
  rw [show t.len=n by omega] at this
  exact this
 rw [List.length_map,gB] at e
 exact e
theorem uK{al:Nat->Nat->Prop}{n:Nat}(hn:n<=100){L:List T}(h:En L (Rs al n 0)):(L.length:Int)<WEIGHT:=by
 have h1:=pf h
 have h2:3^n<=3^100:=Nat.pow_le_pow_right (by omega) hn
 have h3:(3:Nat)^100<8^64:=by decide
 have h4:WEIGHT=((8^64:Nat):Int):=by decide
 rw [h4]
 omega
theorem jm{a b:Int}(h0:0<=b)(h:b<WEIGHT):(WEIGHT*a+b)/WEIGHT=a:=by
 have hw:0<WEIGHT:=by decide
 rw [Int.add_comm,Int.add_mul_ediv_left _ _ (by omega),Int.ediv_eq_zero_of_lt h0 h]
 omega
section
variable {ns s:List Int}{C:Md22.Costs}
def aO(ns s:List Int)(mark:Option (Int × Int))(weight:Int):Prc:=⟨tables ns 1,FAR,List.replicate s.length 0,List.replicate s.length 0,mark,weight⟩
theorem gA(n m:Nat):g (List.replicate n 0) m=0:=by
 unfold g
 rw [List.getD_eq_getElem?_getD,List.getElem?_replicate]
 split <;> rfl
theorem je(mark:Option (Int × Int)){weight:Int}(hw:1<=weight):PrcOk ns s 1 (aO ns s mark weight):=by
 refine⟨by omega,rfl,by show FAR=FAR*1;omega,fun l r=>?_,hw⟩
 show -1<=g (List.replicate s.length 0) l+g (List.replicate s.length 0) r/\g (List.replicate s.length 0) l+g (List.replicate s.length 0) r<=1
 rw [gA,gA];omega
theorem jh(N:Nums ns C)(hs:Good s){mark:Option (Int × Int)}{weight:Int}(hw:1<=weight){t:T}(ht:Rs (alOf s) s.length 0 t):tcost (zOf s (aO ns s mark weight)) 0 t=Md22.cost C (nats s) (rowOf t):=by
 rw [mh,dn (rD N hs (je mark hw)) ht.1 (by have:=ht.2;have:=hs.n100;omega)]
 have:exs (zOf s (aO ns s mark weight)) 0 t=0:=by
  unfold exs
  have:∀l:List (Nat × Nat),(l.map fun q=>(zOf s (aO ns s mark weight)).ex q.1 q.2).sum=0:=by
   intro l
   induction l with
   |nil=>rfl
   |cons a l ih=>
    rw [List.map_cons,List.sum_cons,ih]
    show g (List.replicate s.length 0) _+g (List.replicate s.length 0) _+0=0
    rw [gA,gA];omega
  exact this _
 rw [this];omega
theorem gZ(N:Nums ns C)(hs:Good s){mark:Option (Int × Int)}{weight:Int}(hw:1<=weight):∃L:List T,En L (Rs (alOf s) s.length 0)/\(Md22.foldsOf (nats s)).Perm (L.map rowOf)/\
  (least s (aO ns s mark weight)).1=Md22.cost C (nats s) (Md22.best C (nats s))/\
  (least s (aO ns s mark weight)).2=cnt (Md22.cost C (nats s) (Md22.best C (nats s))) (L.map fun t=>(Md22.cost C (nats s) (rowOf t),wt (zOf s (aO ns s mark weight)) 0 t)):=by
 have P:=je (ns:=ns) (s:=s) mark hw
 obtain⟨L,e,sm⟩:=lW (qy N hs P) (lT N P) hs.n100
 have e':En L (Rs (alS (nats s)) (nats s).length 0):=⟨e.nd,fun t=>(e.mem t).trans (nu hs.pos t)⟩
 have pm:=lh e'
 have em:(L.map fun t=>(tcost (zOf s (aO ns s mark weight)) 0 t,wt (zOf s (aO ns s mark weight)) 0 t))=L.map fun t=>(Md22.cost C (nats s) (rowOf t),wt (zOf s (aO ns s mark weight)) 0 t):=by
  apply List.map_congr_left
  intro t ht
  rw [jh N hs hw ((e.mem t).mp ht)]
 rw [em] at sm
 have ne:L≠[]:=fun q=>by
  have:=fN (nats s)
  rw [q] at pm
  exact this (List.perm_nil.mp pm)
 have ne':(L.map fun t=>(Md22.cost C (nats s) (rowOf t),wt (zOf s (aO ns s mark weight)) 0 t))≠[]:=fun q=>ne (List.map_eq_nil_iff.mp q)
 obtain⟨b1,b2⟩:=lY (C:=C) (fN (nats s))
 have c1:(least s (aO ns s mark weight)).1=Md22.cost C (nats s) (Md22.best C (nats s)):=by
  obtain⟨x,hx,ex⟩:=sm.at_ ne'
  obtain⟨t,ht,rfl⟩:=List.mem_map.mp hx
  have h1:=b2 (rowOf t) (pm.mem_iff.mpr (List.mem_map.mpr ⟨t,ht,rfl⟩))
  obtain⟨u,hu,eu⟩:=List.mem_map.mp (pm.mem_iff.mp b1)
  have h2:=sm.le _ (List.mem_map.mpr ⟨u,hu,rfl⟩)
  simp only at ex h2
  rw [eu] at h2
  omega
 exact⟨L,e,pm,c1,by rw [sm.ct ne',c1]⟩
theorem jS(C:Md22.Costs)(s:List Nat)(l:List (List Nat))(hl:∀f∈l,f∈Md22.foldsOf s):((Md22.cheap C s l).length:Int)=cntP (fun f=>decide (Md22.cost C s f=Md22.cost C s (Md22.best C s))) l:=by
 unfold Md22.cheap cntP
 simp only
 congr 2
 apply List.filter_congr
 intro f hf
 have:=(lY (C:=C) (fN s)).2 f (hl f hf)
 rw [Bool.eq_iff_iff,decide_eq_true_eq,decide_eq_true_eq]
 omega
theorem rest_eq(n:Nat):Md22.rest n=(n:Int)%1000000007:=by
 unfold Md22.rest Md22.PRIME
 omega
theorem dE{α:Type}{f f':α->Bool}{l:List α}(h:∀x∈l,f x=f' x):cntP f l=cntP f' l:=by
 unfold cntP
 rw [List.filter_congr h]
theorem count_eq(N:Nums ns C)(hs:Good s):countFolds ns s=[Md22.rest (Md22.foldsOf (nats s)).length,Md22.rest (Md22.cheap C (nats s) (Md22.foldsOf (nats s))).length]:=by
 unfold countFolds
 obtain⟨L,e,pm,c1,c2⟩:=gZ (mark:=none) (weight:=1) N hs (by omega)
 have w1:∀t,wt (zOf s (aO ns s none 1)) 0 t=1:=fun t=>ku (fun l r=>by show (if (none:Option (Int × Int))=some ((l:Int),(r:Int)) then (1:Int) else 1)=1;simp) 0 t
 have h1:allFolds s none 1=((Md22.foldsOf (nats s)).length:Int):=by
  obtain⟨L',e',s'⟩:=hJ (s:=s) (z:=zOf s (aO ns s none 1)) (mark:=none) (weight:=1) (fun l r=>rfl)
  rw [s',gg 1 _ (fun _=>true) L' (fun x _=>by rw [w1];rfl),pm.length_eq,List.length_map,(e.perm e').length_eq]
  have k1:cntP (fun _=>true) L'=(L'.length:Int):=by
   unfold cntP
   rw [List.filter_eq_self.mpr (fun _ _=>rfl)]
  have k2:cntP (fun _=>!true) L'=0:=by
   unfold cntP
   rw [List.filter_eq_nil_iff.mpr (fun _ _=>by simp)];rfl
  rw [k1,k2];omega
 have h2:bestFolds ns s none 1=((Md22.cheap C (nats s) (Md22.foldsOf (nats s))).length:Int):=by
  show (least s (aO ns s none 1)).2=_
  rw [c2,jS _ _ _ (fun f hf=>hf),gn _ pm,fF,gM _ 1 _ _ (fun _=>true) L (fun x _=>by rw [w1];rfl)]
  have k2:cntP (fun x=>!true && decide (Md22.cost C (nats s) (rowOf x)=Md22.cost C (nats s) (Md22.best C (nats s)))) L=0:=by
   unfold cntP
   rw [List.filter_eq_nil_iff.mpr (fun _ _=>by simp)];rfl
  rw [k2]
  simp only [Bool.true_and];omega
 rw [h1,h2,rest_eq,rest_eq]
theorem oq{l r:Nat}{weight:Int}:∀a b,(zOf s (aO ns s (some ((l:Int),(r:Int))) weight)).wf a b=if (a,b)=(l,r) then weight else 1:=fun a b=>by
 show (if some ((l:Int),(r:Int))=some ((a:Int),(b:Int)) then weight else 1)=_
 by_cases c:(a,b)=(l,r)
 ·injection c with c1 c2
  subst c1 c2
  simp
 ·rw [if_neg c,if_neg]
  intro e
  injection e with e
  injection e with e1 e2
  exact c (Prod.ext (by simp only;omega) (by simp only;omega))
theorem tV(N:Nums ns C)(hs:Good s)(l r:Nat):countWithPair ns s l r=[Md22.rest (Md22.having (nats s) l r).length,Md22.rest (Md22.cheap C (nats s) (Md22.having (nats s) l r)).length]:=by
 unfold countWithPair
 have hv:∀t:T,((Md22.pairs (rowOf t)).getD []).contains (l,r)=decide ((l,r)∈pl 0 t):=fun t=>by
  rw [gw,Bool.eq_iff_iff,decide_eq_true_eq]
  simp
 obtain⟨L,e,pm,c1,c2⟩:=gZ (mark:=some ((l:Int),(r:Int))) (weight:=WEIGHT) N hs (by decide)
 have hhav:((Md22.having (nats s) l r).length:Int)=cntP (fun t=>decide ((l,r)∈pl 0 t)) L:=by
  show cntP _ (Md22.foldsOf (nats s))=_
  rw [gn _ pm,fF]
  exact dE fun t _=>hv t
 have hche:((Md22.cheap C (nats s) (Md22.having (nats s) l r)).length:Int)=cntP (fun t=>decide ((l,r)∈pl 0 t) && decide (Md22.cost C (nats s) (rowOf t)=Md22.cost C (nats s) (Md22.best C (nats s)))) L:=by
  rw [jS C (nats s) (Md22.having (nats s) l r) (fun f hf=>(List.mem_filter.mp hf).1)]
  unfold Md22.having cntP
  rw [List.filter_filter]
  show cntP _ (Md22.foldsOf (nats s))=cntP _ L
  rw [gn _ pm,fF]
  apply dE
  intro t _
  rw [hv t,Bool.and_comm]
 by_cases c:aE s l r<0
 ·rw [if_pos c]
  have no:∀t∈L,decide ((l,r)∈pl 0 t)=false:=fun t ht=>by
   rw [decide_eq_false_iff_not]
   intro q
   have:=(mD ((e.mem t).mp ht).1 q).2.2
   simp only at this
   omega
  have z1:cntP (fun t=>decide ((l,r)∈pl 0 t)) L=0:=by
   rw [dE (f':=fun _=>false) no];simp [cntP]
  have z2:cntP (fun t=>decide ((l,r)∈pl 0 t) && decide (Md22.cost C (nats s) (rowOf t)=Md22.cost C (nats s) (Md22.best C (nats s)))) L=0:=by
   rw [dE (f':=fun _=>false) (fun t ht=>by rw [no t ht];rfl)];simp [cntP]
  rw [rest_eq,rest_eq,hhav,hche,z1,z2];rfl
 ·rw [if_neg c]
  have lt:=uK hs.n100 e
  have hw:∀t∈L,wt (zOf s (aO ns s (some ((l:Int),(r:Int))) WEIGHT)) 0 t=if decide ((l,r)∈pl 0 t)=true then WEIGHT else 1:=fun t _=>by
   by_cases q:(l,r)∈pl 0 t
   ·rw [gc oq q,if_pos (by simpa using q)]
   ·rw [dP oq q,if_neg (by simpa using q)]
  have h1:allFolds s (some ((l:Int),(r:Int))) WEIGHT/WEIGHT=((Md22.having (nats s) l r).length:Int):=by
   obtain⟨L',e',s'⟩:=hJ (s:=s) (z:=zOf s (aO ns s (some ((l:Int),(r:Int))) WEIGHT)) (mark:=some ((l:Int),(r:Int))) (weight:=WEIGHT) (fun l r=>rfl)
   have s2:(L'.map (wt (zOf s (aO ns s (some ((l:Int),(r:Int))) WEIGHT)) 0)).sum=(L.map (wt (zOf s (aO ns s (some ((l:Int),(r:Int))) WEIGHT)) 0)).sum:=tu ((e'.perm e).map _)
   rw [s',s2,gg WEIGHT _ (fun t=>decide ((l,r)∈pl 0 t)) L hw,hhav]
   have:=oo (fun t=>!decide ((l,r)∈pl 0 t)) L
   exact jm this.1 (by omega)
  have h2:bestFolds ns s (some ((l:Int),(r:Int))) WEIGHT/WEIGHT=((Md22.cheap C (nats s) (Md22.having (nats s) l r)).length:Int):=by
   show (least s (aO ns s (some ((l:Int),(r:Int))) WEIGHT)).2/WEIGHT=_
   rw [c2,hche,gM _ WEIGHT _ _ (fun t=>decide ((l,r)∈pl 0 t)) L hw]
   have:=oo (fun t=>!decide ((l,r)∈pl 0 t) && decide (Md22.cost C (nats s) (rowOf t)=Md22.cost C (nats s) (Md22.best C (nats s)))) L
   exact jm this.1 (by omega)
  rw [h1,h2,rest_eq,rest_eq]
end
end Fs
end
section
namespace Fs
open T
def pRun(s:List Int):Nat->List Int->List Int->List Nat->Option (List Int)
 |_,[],ps,o=>if o=[] then some ps else none
 |n,c::r,ps,o=>if c=40 then pRun s (n+1) r ps (n::o) else if c=41 then (match o with
   |[]=>none
   |i::o=>if aE s i n<0 then none else pRun s (n+1) r ((ps.set i (n:Int)).set n (i:Int)) o)
  else if c=46 then pRun s (n+1) r ps o else none
def bO(s f:List Int):Option (List Int):=pRun s 0 f (List.replicate s.length (-1)) []
def setPairs(ps:List Int)(l:List (Nat × Nat)):List Int:=l.foldl (fun ps q=>(ps.set q.1 (q.2:Int)).set q.2 (q.1:Int)) ps
theorem dk{s:List Int}:∀(r:List Int) (n:Nat) (ps ps':List Int) (o:List Nat),(∀c∈r,0<=c)->pRun s n r ps o=some ps'->
  ∃l,Md22.pairsFrom (nats r) n o=some l/\(∀q∈l,0<=aE s q.1 q.2/\q.2<n+r.length)/\ps'=setPairs ps l
 |[],n,ps,ps',o,_,h=>by
  unfold pRun at h
  by_cases c:o=[]
  ·subst c
   rw [if_pos rfl] at h
   exact⟨[],rfl,by simp,(Option.some.inj h).symm⟩
  ·rw [if_neg c] at h;cases h
 |c::r,n,ps,ps',o,hc,h=>by
  have h0:=hc c (by simp)
  have hr:∀c∈r,0<=c:=fun x hx=>hc x (by simp [hx])
  show ∃l,Md22.pairsFrom (c.toNat::nats r) n o=some l/\_
  rw [bH]
  unfold pRun at h
  by_cases c1:c=40
  ·rw [if_pos c1] at h
   rw [if_pos (by omega)]
   obtain⟨l,e,a,b⟩:=dk r (n+1) ps ps' (n::o) hr h
   exact⟨l,e,fun q hq=>⟨(a q hq).1,by have:=(a q hq).2;simp only [List.length_cons];omega⟩,b⟩
  ·rw [if_neg c1] at h
   rw [if_neg (by omega)]
   by_cases c2:c=41
   ·rw [if_pos c2] at h
    rw [if_pos (by omega)]
    cases o with
    |nil=>cases h
    |cons i o=>
     simp only at h ⊢
     by_cases c3:aE s i n<0
     ·rw [if_pos c3] at h;cases h
     ·rw [if_neg c3] at h
      obtain⟨l,e,a,b⟩:=dk r (n+1) _ ps' o hr h
      refine⟨(i,n)::l,by rw [e];rfl,fun q hq=>?_,b⟩
      rcases List.mem_cons.mp hq with rfl |hq
      ·exact⟨by simp only;omega,by simp only [List.length_cons];omega⟩
      ·exact⟨(a q hq).1,by have:=(a q hq).2;simp only [List.length_cons];omega⟩
   ·rw [if_neg c2] at h
    rw [if_neg (by omega)]
    by_cases c3:c=46
    ·rw [if_pos c3] at h
     rw [if_pos (by omega)]
     obtain⟨l,e,a,b⟩:=dk r (n+1) ps ps' o hr h
     exact⟨l,e,fun q hq=>⟨(a q hq).1,by have:=(a q hq).2;simp only [List.length_cons];omega⟩,b⟩
    ·rw [if_neg c3] at h;cases h
theorem eN{s:List Int}:∀(r:List Int) (n:Nat) (ps:List Int) (o:List Nat) (l:List (Nat × Nat)),(∀c∈r,0<=c)->pRun s n r ps o=none->
  Md22.pairsFrom (nats r) n o=some l->(∀q∈l,0<=aE s q.1 q.2)->False
 |[],n,ps,o,l,_,h,e,a=>by
  unfold pRun at h
  by_cases c:o=[]
  ·rw [if_pos c] at h;cases h
  ·cases o with
   |nil=>exact c rfl
   |cons i o=>cases e
 |c::r,n,ps,o,l,hc,h,e,a=>by
  have h0:=hc c (by simp)
  have hr:∀c∈r,0<=c:=fun x hx=>hc x (by simp [hx])
  have e:Md22.pairsFrom (c.toNat::nats r) n o=some l:=e
  rw [bH] at e
  unfold pRun at h
  by_cases c1:c=40
  ·rw [if_pos c1] at h
   rw [if_pos (by omega)] at e
   exact eN r (n+1) ps (n::o) l hr h e a
  ·rw [if_neg c1] at h
   rw [if_neg (by omega)] at e
   by_cases c2:c=41
   ·rw [if_pos c2] at h
    rw [if_pos (by omega)] at e
    cases o with
    |nil=>cases e
    |cons i o=>
     simp only at h e
     cases e2:Md22.pairsFrom (nats r) (n+1) o with
     |none=>rw [e2] at e;cases e
     |some l2=>
      rw [e2] at e
      have e:(i,n)::l2=l:=Option.some.inj e
      subst e
      have ha:=a (i,n) (by simp)
      rw [if_neg (by simp only at ha;omega)] at h
      exact eN r (n+1) _ o l2 hr h e2 fun q hq=>a q (by simp [hq])
   ·rw [if_neg c2] at h
    rw [if_neg (by omega)] at e
    by_cases c3:c=46
    ·rw [if_pos c3] at h
     rw [if_pos (by omega)] at e
     exact eN r (n+1) ps o l hr h e a
    ·rw [if_neg (by omega)] at e;cases e
theorem fI{al:Nat->Nat->Prop}:∀(r:List Nat) (n:Nat) (o:List Nat) (l:List (Nat × Nat)),Md22.pairsFrom r n o=some l->(∀q∈l,al q.1 q.2)->Gm al n o r
 |[],n,o,l,e,a=>by
  cases o with
  |nil=>exact⟨nil,trivial,rfl⟩
  |cons i o=>cases e
 |c::r,n,o,l,e,a=>by
  rw [bH] at e
  by_cases c1:c=40
  ·rw [if_pos c1] at e
   subst c1
   exact kK.mpr (fI r (n+1) (n::o) l e a)
  ·rw [if_neg c1] at e
   by_cases c2:c=41
   ·rw [if_pos c2] at e
    subst c2
    cases o with
    |nil=>cases e
    |cons i o=>
     simp only at e
     cases e2:Md22.pairsFrom r (n+1) o with
     |none=>rw [e2] at e;cases e
     |some l2=>
      rw [e2] at e
      have e:(i,n)::l2=l:=Option.some.inj e
      subst e
      exact fQ.mpr ⟨a (i,n) (by simp),fI r (n+1) o l2 e2 fun q hq=>a q (by simp [hq])⟩
   ·rw [if_neg c2] at e
    by_cases c3:c=46
    ·rw [if_pos c3] at e
     subst c3
     exact nt.mpr (fI r (n+1) o l e a)
    ·rw [if_neg c3] at e;cases e
theorem sJ{al:Nat->Nat->Prop}{r:List Nat}{l:List (Nat × Nat)}(e:Md22.pairs r=some l)(a:∀q∈l,al q.1 q.2):∃t,Ok al 0 t/\r=rowOf t/\l=pl 0 t:=by
 obtain⟨t,o,rfl⟩:=fI r 0 [] l e a
 rw [gw] at e
 exact⟨t,o,rfl,(Option.some.inj e).symm⟩
def pt:Nat->T->List Int
 |_,.nil=>[]
 |i,.dot t=>-1::pt (i+1) t
 |i,.pr a b=>((i+1+a.len:Nat):Int)::(pt (i+1) a++(i:Int)::pt (i+2+a.len) b)
theorem c8:∀(i:Nat) (t:T),(pt i t).length=t.len
 |_,.nil=>rfl
 |i,.dot t=>by simp only [pt,List.length_cons,len,c8]
 |i,.pr a b=>by simp only [pt,List.length_cons,List.length_append,len,c8];omega
theorem hU(ps:List Int)(l m:List (Nat × Nat)):setPairs ps (l++m)=setPairs (setPairs ps l) m:=List.foldl_append
theorem om{α:Type}(A:List α)(x y:α)(B:List α)(n:Nat)(h:n=A.length):(A++x::B).set n y=A++y::B:=by
 subst h;simp
theorem cV:∀(t:T) (i:Nat) (A B:List Int),A.length=i->setPairs (A++(List.replicate t.len (-1)++B)) (pl i t)=A++(pt i t++B)
 |.nil,i,A,B,h=>rfl
 |.dot t,i,A,B,h=>by
  have:=cV t (i+1) (A++[-1]) B (by simp [h])
  simp only [pl,len,pt,List.replicate_succ,List.cons_append]
  simpa using this
 |.pr a b,i,A,B,h=>by
  simp only [pl,len,pt]
  rw [hU]
  have e:A++(List.replicate (a.len+b.len+2) (-1)++B)=(A++[-1])++(List.replicate a.len (-1)++(-1::(List.replicate b.len (-1)++B))):=by
   have:List.replicate (a.len+b.len+2) (-1:Int)=-1::(List.replicate a.len (-1)++ -1::List.replicate b.len (-1)):=by
    rw [show a.len+b.len+2=(a.len+(b.len+1))+1 by omega,List.replicate_succ,<-List.replicate_append_replicate,List.replicate_succ]
   rw [this];simp
  rw [e,cV a (i+1) (A++[-1]) _ (by simp [h])]
  show setPairs ((((A++[-1])++(pt (i+1) a++(-1::(List.replicate b.len (-1)++B)))).set i ((i+1+a.len:Nat):Int)).set (i+1+a.len) (i:Int)) (pl (i+2+a.len) b)=_
  have e2:(((A++[-1])++(pt (i+1) a++(-1::(List.replicate b.len (-1)++B)))).set i ((i+1+a.len:Nat):Int)).set (i+1+a.len) (i:Int)=(A++((i+1+a.len:Nat):Int)::(pt (i+1) a++[(i:Int)]))++(List.replicate b.len (-1)++B):=by
   rw [show (A++[(-1:Int)])++(pt (i+1) a++(-1::(List.replicate b.len (-1)++B)))=A++(-1)::(pt (i+1) a++(-1::(List.replicate b.len (-1)++B))) by simp]
   rw [om A _ _ _ i h.symm]
   rw [show A++((i+1+a.len:Nat):Int)::(pt (i+1) a++(-1::(List.replicate b.len (-1)++B)))=(A++((i+1+a.len:Nat):Int)::pt (i+1) a)++(-1)::(List.replicate b.len (-1)++B) by simp]
   rw [om _ _ _ _ (i+1+a.len) (by simp only [List.length_append,List.length_cons,c8];omega)]
   simp
  rw [e2,cV b (i+2+a.len) _ B (by simp only [List.length_append,List.length_cons,c8,List.length_nil];omega)]
  simp
theorem jw{s f ps:List Int}(hs:∀x∈s,0<=x)(hf:∀c∈f,0<=c)(hl:f.length=s.length)(h:bO s f=some ps):
  ∃t,Rs (alOf s) s.length 0 t/\nats f=rowOf t/\ps=pt 0 t:=by
 obtain⟨l,e,a,rfl⟩:=dk f 0 _ ps [] hf h
 obtain⟨t,o,e1,e2⟩:=sJ (al:=alOf s) e (fun q hq=>by
  have:=a q hq
  exact⟨(cC hs this.1).1,by omega,this.1⟩)
 have hlen:t.len=s.length:=by rw [<-bI,<-e1,bP,hl]
 refine⟨t,⟨o,by omega⟩,e1,?_⟩
 have:=cV t 0 [] [] rfl
 rw [e2,<-hlen]
 simpa using this
theorem m5{s f ps:List Int}(hs:∀x∈s,0<=x)(hf:∀c∈f,0<=c)(hl:f.length=s.length)(h:bO s f=some ps):Md22.folds (nats s) (nats f)=true:=by
 obtain⟨l,e,a,rfl⟩:=dk f 0 _ ps [] hf h
 unfold Md22.folds Md22.pairs
 rw [e,bP,bP,hl]
 simp only [beq_self_eq_true,Bool.true_and,List.all_eq_true]
 intro q hq
 have:=a q hq
 obtain⟨h1,k,h2,_⟩:=cC hs this.1
 rw [h2]
 simp;omega
theorem mL{s f:List Int}(hs:∀x∈s,0<=x)(hf:∀c∈f,0<=c)(hl:f.length=s.length)(h:bO s f=none):Md22.folds (nats s) (nats f)=false:=by
 unfold Md22.folds Md22.pairs
 rw [bP,bP,hl]
 simp only [beq_self_eq_true,Bool.true_and]
 cases e:Md22.pairsFrom (nats f) 0 [] with
 |none=>rfl
 |some l=>
  simp only
  rw [<-Bool.not_eq_true]
  intro z
  rw [List.all_eq_true] at z
  refine eN f 0 _ [] l hf h e fun q hq=>?_
  have:=z q hq
  simp only [Bool.and_eq_true,decide_eq_true_eq] at this
  obtain⟨z1,z2⟩:=this
  unfold aE
  rw [if_neg (by omega),eH (du hs _) (du hs _)]
  rw [b9,b9] at z1
  cases e:Md22.sort (g s q.1).toNat (g s q.2).toNat with
  |none=>rw [e] at z1;simp at z1
  |some k=>simp only;omega
def Seg(ps:List Int)(i:Nat)(t:T):Prop:=∃A B,ps=A++(pt i t++B)/\A.length=i
theorem sD(A:List Int)(x:Int)(B:List Int)(n:Nat)(h:n=A.length):g (A++x::B) n=x:=by
 subst h;simp [g,List.getD_eq_getElem?_getD]
theorem Seg.dot{ps:List Int}{i:Nat}{t:T}(h:Seg ps i (.dot t)):g ps i=-1/\Seg ps (i+1) t:=by
 obtain⟨A,B,rfl,e⟩:=h
 simp only [pt,List.cons_append]
 exact⟨sD A _ _ i e.symm,A++[-1],B,by simp,by simp [e]⟩
theorem Seg.pr{ps:List Int}{i:Nat}{a b:T}(h:Seg ps i (.pr a b)):g ps i=((i+1+a.len:Nat):Int)/\Seg ps (i+1) a/\g ps (i+1+a.len)=(i:Int)/\Seg ps (i+2+a.len) b:=by
 obtain⟨A,B,rfl,e⟩:=h
 simp only [pt,List.cons_append,List.append_assoc]
 refine⟨sD A _ _ i e.symm,⟨A++[((i+1+a.len:Nat):Int)],(i:Int)::(pt (i+2+a.len) b++B),by simp,by simp [e]⟩,?_,⟨A++(((i+1+a.len:Nat):Int)::(pt (i+1) a++[(i:Int)])),B,by simp,by simp only [List.length_append,List.length_cons,c8,List.length_nil];omega⟩⟩
 have:=sD (A++((i+1+a.len:Nat):Int)::pt (i+1) a) (i:Int) (pt (i+2+a.len) b++B) (i+1+a.len) (by simp only [List.length_append,List.length_cons,c8];omega)
 simpa using this
theorem Seg.len{ps:List Int}{i:Nat}{t:T}(h:Seg ps i t):i+t.len<=ps.length:=by
 obtain⟨A,B,rfl,e⟩:=h
 simp only [List.length_append,c8];omega
theorem jn{ps:List Int}:∀{i:Nat} {t:T},Seg ps i t->∀q∈tops i t,g ps q.1=(q.2:Int)/\q.1<q.2/\q.2<i+t.len/\i<=q.1
 |_,.nil,_,q,hq=>by simp [tops] at hq
 |i,.dot t,h,q,hq=>by
  have:=jn h.dot.2 q hq
  simp only [T.len]
  exact⟨this.1,this.2.1,by omega,by omega⟩
 |i,.pr a b,h,q,hq=>by
  obtain⟨h1,h2,h3,h4⟩:=h.pr
  simp only [tops] at hq
  simp only [T.len]
  rcases List.mem_cons.mp hq with rfl |hq
  ·exact⟨h1,by simp only;omega,by simp only;omega,by simp⟩
  ·have:=jn h4 q hq
   exact⟨this.1,this.2.1,by omega,by omega⟩
def vl(z:Pz):Nat->T->List Int
 |_,.nil=>[]
 |i,.dot t=>0::vl z (i+1) t
 |i,.pr a b=>loopc z i a::(vl z (i+1) a++0::vl z (i+2+a.len) b)
theorem gC(z:Pz):∀(i:Nat) (t:T),(vl z i t).length=t.len
 |_,.nil=>rfl
 |i,.dot t=>by simp only [vl,List.length_cons,T.len,gC]
 |i,.pr a b=>by simp only [vl,List.length_cons,List.length_append,T.len,gC];omega
theorem mH{z:Pz}(h:∀l r,z.ex l r=0):∀(i:Nat) (t:T),(vl z i t).sum=tcost z i t
 |_,.nil=>rfl
 |i,.dot t=>by simp only [vl,List.sum_cons,tcost,mH h];omega
 |i,.pr a b=>by simp only [vl,List.sum_cons,sum_append,tcost,mH h,h];omega
theorem oB{z:Pz}{al:Nat->Nat->Prop}{ps:List Int}:∀{i:Nat} {t:T},Seg ps i t->Ok al i t->∀k,k<t.len->
  (g ps (i+k)<=((i+k:Nat):Int)/\(vl z i t)[k]?=some 0)\/∃a:T,g ps (i+k)=((i+k+1+a.len:Nat):Int)/\Seg ps (i+k+1) a/\al (i+k) (i+k+1+a.len)/\Ok al (i+k+1) a/\(vl z i t)[k]?=some (loopc z (i+k) a)
 |_,.nil,_,_,k,hk=>by simp [T.len] at hk
 |i,.dot t,h,o,k,hk=>by
  obtain⟨h1,h2⟩:=h.dot
  cases k with
  |zero=>exact .inl ⟨by rw [Nat.add_zero,h1];omega,rfl⟩
  |succ k=>
   have:=oB (z:=z) h2 o k (by simp only [T.len] at hk;omega)
   rw [show i+1+k=i+(k+1) by omega] at this
   simpa only [vl,List.getElem?_cons_succ] using this
 |i,.pr a b,h,o,k,hk=>by
  obtain⟨h1,h2,h3,h4⟩:=h.pr
  obtain⟨o1,o2,o3⟩:=o
  simp only [T.len] at hk
  cases k with
  |zero=>exact .inr ⟨a,h1,h2,o1,o2,rfl⟩
  |succ k=>
   simp only [vl,List.getElem?_cons_succ]
   by_cases c:k<a.len
   ·have:=oB (z:=z) h2 o2 k c
    rw [show i+1+k=i+(k+1) by omega] at this
    rw [List.getElem?_append_left (by rw [gC];exact c)]
    exact this
   ·rw [List.getElem?_append_right (by rw [gC];omega),gC]
    by_cases c2:k=a.len
    ·subst c2
     rw [Nat.sub_self]
     refine .inl ⟨?_,rfl⟩
     rw [show i+(a.len+1)=i+1+a.len by omega,h3];omega
    ·have:=oB (z:=z) h4 o3 (k-a.len-1) (by omega)
     rw [show i+2+a.len+(k-a.len-1)=i+(k+1) by omega] at this
     rw [show k-a.len=(k-a.len-1)+1 by omega,List.getElem?_cons_succ]
     exact this
end Fs
end
section
namespace Fs
theorem lq{L x t:List Int}(h:PyFlat.row L=some (x,t)):∃(m:Nat) (R:List Int),L=(m:Int)::R/\m<=R.length/\x=R.take m/\t=R.drop m:=by
 cases L with
 |nil=>cases h
 |cons n R=>
  unfold PyFlat.row at h
  dsimp only at h
  by_cases c:0<=n/\n.toNat<=R.length
  ·rw [if_pos c] at h
   have h:=Option.some.inj h
   injection h with h1 h2
   exact⟨n.toNat,R,by rw [show ((n.toNat:Nat):Int)=n by omega],c.2,h1.symm,h2.symm⟩
  ·rw [if_neg c] at h;cases h
theorem fB{L t:List Int}{xs:List (List Int)}(h:PyFlat.rows 1 L=some (xs,t)):∃(m:Nat) (R:List Int),L=(m:Int)::R/\m<=R.length/\xs=[R.take m]/\t=R.drop m:=by
 unfold PyFlat.rows at h
 cases e:PyFlat.row L with
 |none=>rw [e] at h;cases h
 |some y=>
  rw [e] at h
  obtain⟨m,R,h1,h2,h3,h4⟩:=lq (x:=y.1) (t:=y.2) e
  simp only [PyFlat.rows] at h
  have h:=Option.some.inj h
  injection h with e1 e2
  exact⟨m,R,h1,h2,by rw [<-e1,h3],by rw [<-e2,h4]⟩
theorem nr{L t:List Int}{xs:List (List Int)}(h:PyFlat.rows 2 L=some (xs,t)):∃(m:Nat) (R:List Int) (m2:Nat) (R2:List Int),L=(m:Int)::R/\m<=R.length/\R.drop m=(m2:Int)::R2/\m2<=R2.length/\xs=[R.take m,R2.take m2]/\t=R2.drop m2:=by
 unfold PyFlat.rows at h
 cases e:PyFlat.row L with
 |none=>rw [e] at h;cases h
 |some y=>
  rw [e] at h
  obtain⟨m,R,h1,h2,h3,h4⟩:=lq (x:=y.1) (t:=y.2) e
  simp only at h
  cases e2:PyFlat.rows 1 y.2 with
  |none=>rw [e2] at h;cases h
  |some z=>
   rw [e2] at h
   obtain⟨m2,R2,g1,g2,g3,g4⟩:=fB (xs:=z.1) (t:=z.2) e2
   simp only at h
   have h:=Option.some.inj h
   injection h with e3 e4
   exact⟨m,R,m2,R2,h1,h2,by rw [<-h4,g1],g2,by rw [<-e3,h3,g3],by rw [<-e4,g4]⟩
inductive Kind:List Int->List (List Int)->List Int->Prop
 |costs (m:Nat) (R:List Int):m<=R.length->Kind (1::(m:Int)::R) [[1],R.take m] (R.drop m)
 |cost (m:Nat) (R:List Int) (m2:Nat) (R2:List Int):m<=R.length->R.drop m=(m2:Int)::R2->m2<=R2.length->Kind (2::(m:Int)::R) [[2],R.take m,R2.take m2] (R2.drop m2)
 |best (m:Nat) (R:List Int):m<=R.length->Kind (3::(m:Int)::R) [[3],R.take m] (R.drop m)
 |count (m:Nat) (R:List Int):m<=R.length->Kind (4::(m:Int)::R) [[4],R.take m] (R.drop m)
 |pair (x y:Int) (m:Nat) (R:List Int):m<=R.length->Kind (5::x::y::(m:Int)::R) [[5,x,y],R.take m] (R.drop m)
theorem pR{L t:List Int}{c:List (List Int)}(h:PyFlat.call PyMd22.shape L=some (c,t)):Kind L c t:=by
 cases L with
 |nil=>cases h
 |cons p r=>
  unfold PyFlat.call at h
  dsimp only at h
  have one:∀{xs:List (List Int)} {t':List Int} (q:Int),PyFlat.rows 1 r=some (xs,t')->((q::List.take 0 r)::xs)=c->t'=t->∃(m:Nat) (R:List Int),r=(m:Int)::R/\m<=R.length/\c=[[q],R.take m]/\t=R.drop m:=fun q e1 e2 e3=>by
   obtain⟨m,R,h1,h2,h3,h4⟩:=fB e1
   exact⟨m,R,h1,h2,by rw [<-e2,h3];rfl,by rw [<-e3,h4]⟩
  by_cases c1:p=1
  ·subst c1
   have es:PyMd22.shape 1=some (0,1):=rfl
   rw [es] at h
   simp only [Nat.not_lt_zero,if_false,List.drop_zero] at h
   cases e:PyFlat.rows 1 r with
   |none=>rw [e] at h;cases h
   |some z=>
    rw [e] at h
    have h:=Option.some.inj h
    injection h with e1 e2
    obtain⟨m,R,rfl,h2,rfl,rfl⟩:=one 1 (xs:=z.1) (t':=z.2) e e1 e2
    exact .costs m R h2
  by_cases c2:p=2
  ·subst c2
   have es:PyMd22.shape 2=some (0,2):=rfl
   rw [es] at h
   simp only [Nat.not_lt_zero,if_false,List.drop_zero] at h
   cases e:PyFlat.rows 2 r with
   |none=>rw [e] at h;cases h
   |some z=>
    rw [e] at h
    have h:=Option.some.inj h
    injection h with e1 e2
    obtain⟨m,R,m2,R2,rfl,h2,h3,h4,h5,h6⟩:=nr (xs:=z.1) (t:=z.2) e
    have:=Kind.cost m R m2 R2 h2 h3 h4
    rw [<-e1,<-e2,h5,h6]
    exact this
  by_cases c3:p=3
  ·subst c3
   have es:PyMd22.shape 3=some (0,1):=rfl
   rw [es] at h
   simp only [Nat.not_lt_zero,if_false,List.drop_zero] at h
   cases e:PyFlat.rows 1 r with
   |none=>rw [e] at h;cases h
   |some z=>
    rw [e] at h
    have h:=Option.some.inj h
    injection h with e1 e2
    obtain⟨m,R,rfl,h2,rfl,rfl⟩:=one 3 (xs:=z.1) (t':=z.2) e e1 e2
    exact .best m R h2
  by_cases c4:p=4
  ·subst c4
   have es:PyMd22.shape 4=some (0,1):=rfl
   rw [es] at h
   simp only [Nat.not_lt_zero,if_false,List.drop_zero] at h
   cases e:PyFlat.rows 1 r with
   |none=>rw [e] at h;cases h
   |some z=>
    rw [e] at h
    have h:=Option.some.inj h
    injection h with e1 e2
    obtain⟨m,R,rfl,h2,rfl,rfl⟩:=one 4 (xs:=z.1) (t':=z.2) e e1 e2
    exact .count m R h2
  by_cases c5:p=5
  ·subst c5
   have es:PyMd22.shape 5=some (2,1):=rfl
   rw [es] at h
   simp only at h
   by_cases c:r.length<2
   ·rw [if_pos c] at h;cases h
   ·rw [if_neg c] at h
    cases r with
    |nil=>simp at c
    |cons x r=>
     cases r with
     |nil=>simp at c
     |cons y r=>
      simp only [List.drop_succ_cons,List.drop_zero] at h
      cases e:PyFlat.rows 1 r with
      |none=>rw [e] at h;cases h
      |some z=>
       rw [e] at h
       have h:=Option.some.inj h
       injection h with e1 e2
       obtain⟨m,R,rfl,h2,h3,h4⟩:=fB (xs:=z.1) (t:=z.2) e
       have:=Kind.pair x y m R h2
       rw [<-e1,<-e2,h3,h4]
       exact this
  ·have es:PyMd22.shape p=none:=by
    unfold PyMd22.shape
    rw [if_neg c1,if_neg c2,if_neg c3,if_neg c4,if_neg c5]
   rw [es] at h;cases h
theorem eD{l:List Int}{n:Int}(h:Md22Neutral.bytes l n=true):(∀z∈l,0<=z/\z<256)/\(l.length:Int)=if 1<=n/\n<=100 then n else 0:=by
 unfold Md22Neutral.bytes at h
 simp only [Bool.and_eq_true,List.all_eq_true,decide_eq_true_eq] at h
 refine⟨fun z hz=>?_,h.2⟩
 have:=h.1 z hz
 unfold Md22Neutral.natural at this
 simp only [Bool.and_eq_true,decide_eq_true_eq] at this
 exact⟨this.1,by have:=this.2;omega⟩
theorem cG{r:List Int}(h:Md22Neutral.asked1 (PyMd22.whole [[1],r])=true):r.length=132:=by
 have h:(r.all Md22Neutral.whole32 && decide (r.length=132))=true:=h
 simp only [Bool.and_eq_true,decide_eq_true_eq] at h
 exact h.2
theorem iL{s f:List Int}(h:Md22Neutral.asked1 (PyMd22.whole [[2],s,f])=true):f.length=s.length/\(∀z∈s,0<=z)/\(∀z∈f,0<=z):=by
 have h:(Md22Neutral.whole32 (s.length:Int) && (Md22Neutral.bytes s (s.length:Int) && Md22Neutral.bytes f (s.length:Int)))=true:=h
 simp only [Bool.and_eq_true] at h
 obtain⟨_,h1,h2⟩:=h
 have g1:=eD h1
 have g2:=eD h2
 refine⟨?_,fun z hz=>(g1.1 z hz).1,fun z hz=>(g2.1 z hz).1⟩
 have a:=g1.2
 have b:=g2.2
 rw [<-a] at b
 omega
theorem m8{s:List Int}(h:Md22Neutral.asked1 (PyMd22.whole [[3],s])=true):∀z∈s,0<=z:=by
 have h:(Md22Neutral.whole32 (s.length:Int) && Md22Neutral.bytes s (s.length:Int))=true:=h
 simp only [Bool.and_eq_true] at h
 exact fun z hz=>((eD h.2).1 z hz).1
theorem mi{s:List Int}(h:Md22Neutral.asked1 (PyMd22.whole [[4],s])=true):∀z∈s,0<=z:=by
 have h:(Md22Neutral.whole32 (s.length:Int) && Md22Neutral.bytes s (s.length:Int))=true:=h
 simp only [Bool.and_eq_true] at h
 exact fun z hz=>((eD h.2).1 z hz).1
theorem nv{s:List Int}{x y:Int}(h:Md22Neutral.asked1 (PyMd22.whole [[5,x,y],s])=true):∀z∈s,0<=z:=by
 have h:(Md22Neutral.whole32 (s.length:Int) && (Md22Neutral.whole32 x && (Md22Neutral.whole32 y && Md22Neutral.bytes s (s.length:Int))))=true:=h
 simp only [Bool.and_eq_true] at h
 exact fun z hz=>((eD h.2.2.2).1 z hz).1
end Fs
end
section
namespace L3
open PySem PySem.Spec PyProof.Rows L2
def Sml(a:Int):Prop:=-(2^1000)<a/\a<2^1000
theorem iM{k:Int}(h:Sml k):Builtin.Int.intBits k<=1000:=by
 unfold Builtin.Int.intBits
 split
 ·exact Nat.zero_le _
 ·have hn:k.natAbs<2^1000:=by
   have h1:=h.1
   have h2:=h.2
   have e:((2^1000:Nat):Int)=(2:Int)^1000:=by simp
   have:(k.natAbs:Int)<((2^1000:Nat):Int):=by rw [e];omega
   exact Int.ofNat_lt.mp this
  have:k.natAbs.log2<1000:=by
   rcases Nat.eq_zero_or_pos k.natAbs with h0 |hp
   ·rw [h0];decide
   ·exact (Nat.log2_lt (Nat.ne_of_gt hp)).mpr hn
  omega
theorem cD{a b:Int}(ha:Sml a)(hb:Sml b):IntMulOk a b:=by
 have h1:=iM ha
 have h2:=iM hb
 unfold IntMulOk
 have:Builtin.Int.intTooBig (Builtin.Int.intBits a+Builtin.Int.intBits b)=false:=by
  unfold Builtin.Int.intTooBig
  apply decide_eq_false
  have:bitsLine=134217728:=by decide+kernel
  omega
 rw [this];simp
theorem fT{X:Cx}:OpR X (binaryOp .Mult) (rI IntMulOk fun i j=>.int (i*j)):=opI fun _ _ _ _ _ _ _ hc q=>mul_int q hc
theorem fJ{X:Cx}:OpR X (binaryOp .FloorDiv) (rI (fun _ j=>0<j/\j<2^1000) fun i j=>.int (i/j)):=opI fun i j _ _ _ _ _ hc q=>by
 have h1:(0:Int)<j:=hc.1
 refine floordiv_int (by omega) (by rw [Int.fdiv_eq_ediv_of_nonneg i (by omega)];exact q) (.inl (PyProof.noPylong_of_log2 ?_))
 have hn:j.natAbs<2^1000:=by
  have e:((2^1000:Nat):Int)=(2:Int)^1000:=by simp
  have h2:=hc.2
  have:(j.natAbs:Int)<((2^1000:Nat):Int):=by rw [e];omega
  exact Int.ofNat_lt.mp this
 have:j.natAbs.log2<1000:=(Nat.log2_lt (by omega)).mpr hn
 omega
section
variable {X:Cx}{a b c d:Expr}{ta tb tc td:TE}{pos:Pos}
inductive j9(r' r'':R2)(tc td:TE)(σ:L2.St)(Q:Bool->Hp->Prop)(y z:V)(H3:Hp):Prop
 |mk:∀k,(z=.bl k)->((if k=true then tc σ H3 fun w' H4=>r' y w' H4 fun z' H5=>∃k',z'=.bl k'/\(if k'=true then td σ H5 fun v' H6=>r'' w' v' H6 fun z2 H7=>∃k2,z2=.bl k2/\Q k2 H7 else Q false H5) else Q false H3))->j9 r' r'' tc td σ Q y z H3
def tChain3(r r' r'':R2)(ta tb tc td:TE):TT:=fun σ H Q=>ta σ H fun x H1=>tb σ H1 fun y H2=>r x y H2 fun z H3=>j9 r' r'' tc td σ Q y z H3
theorem pM{op op' op'':CmpOp}{r r' r'':R2}(ho:OpR X (compareOp op) r)(ho':OpR X (compareOp op') r')(ho'':OpR X (compareOp op'') r'')(ha:PE X a ta)(hb:PE X b tb)(hc:PE X c tc)(hd:PE X d td)
  (hm:lastMarks [op,op',op''] [b,c,d]=false:=by with_unfolding_all rfl):PT X (.Compare a [op,op',op''] [b,c,d] pos) (tChain3 r r' r'' ta tb tc td):=by
 intro pins s σ H Q I h
 refine isTrue_chain (thn (ha pins s σ H _ I h) fun v s1 ⟨x,H1,I1,r1,q1⟩=>test_link (thn (hb pins s1 σ H1 _ I1 q1) fun u s2 ⟨y,H2,I2,r2,q2⟩=>
  thn (ho pins s2 σ H2 x y v u _ I2 r1 r2 q2) fun d s3 ⟨z,H3,I3,r3,k,e,q3⟩=>?_)) hm
 subst e
 cases r3
 refine wpAny_truthy_bool ?_
 cases k with
 |false=>exact ite_ff ⟨H3,I3,q3⟩
 |true=>
  refine ite_tt (test_link (thn (hc pins s3 σ H3 _ I3 q3) fun w' s4 ⟨z',H4,I4,r4,q4⟩=>thn (ho' pins s4 σ H4 y z' u w' _ I4 r2 r4 q4) fun d' s5 ⟨z2,H5,I5,r5,k2,e2,q5⟩=>?_))
  subst e2
  cases r5
  refine wpAny_truthy_bool ?_
  cases k2 with
  |false=>exact ite_ff ⟨H5,I5,q5⟩
  |true=>
   refine ite_tt (test_last (thn (hd pins s5 σ H5 _ I5 q5) fun w2 s6 ⟨z3,H6,I6,r6,q6⟩=>thn (ho'' pins s6 σ H6 z' z3 w' w2 _ I6 r4 r6 q6) fun d2 s7 ⟨z4,H7,I7,r7,k3,e3,q7⟩=>?_))
   subst e3
   cases r7
   exact wpAny_truthy_bool ⟨H7,I7,q7⟩
end
section
variable {X:Cx}{e st:Expr}{te:TE}{lo hi:Option Expr}{tl th ts:TO}{pos p2:Pos}
def pickV(xs:List V)(lo hi st:Option Int):List V:=
 (sliceRange (sliceBounds lo hi st xs.length).1 (sliceBounds lo hi st xs.length).2.1 (sliceBounds lo hi st xs.length).2.2).filterMap (xs[·]?)
theorem Vals.places{xs:List V}{us:List Value}(r:Vals xs us):∀js:List Nat,Vals (js.filterMap (xs[·]?)) (js.filterMap (us[·]?))
 |[]=>.nil
 |j::js=>by
  have ih:=Vals.places r js
  rw [List.filterMap_cons,List.filterMap_cons]
  cases e:xs[j]? with
  |none=>
   have:us[j]?=none:=by
    rw [List.getElem?_eq_none_iff] at e ⊢
    rw [<-r.length];exact e
   rw [this];exact ih
  |some x=>
   obtain⟨u,hu,ru⟩:=r.get e
   rw [hu];exact .cons ru ih
inductive tq(K:PySem.W.Frag)(Q:VK)(x:V)(l u c:Option Int)(H4:Hp):Prop
 |mk:∀a xs,(x=.ref a)->(SqL K H4 a xs)->(c≠some 0)->(∀p,H4 p=none->Q (.ref p) (upd H4 p (.lst (pickV xs l u c))))->tq K Q x l u c H4
def tSl3(K:PySem.W.Frag)(te:TE)(tl th ts:TO):TE:=fun σ H Q=>te σ H fun x H1=>tl σ H1 fun l H2=>th σ H2 fun u H3=>ts σ H3 fun c H4=>tq K Q x l u c H4
theorem pU(he:PE X e te)(hl:PO X lo tl)(hu:PO X hi th)(hst:PO X (some st) ts):PE X (.Subscript e (.Slice lo hi (some st) p2) pos) (tSl3 X.K te tl th ts):=by
 intro pins s σ H Q I h
 refine Subscript_ (thn (he pins s σ H _ I h) fun v s1 ⟨x,H1,I1,r1,q1⟩=>?_)
 refine wpAny_Slice (thn (hl pins s1 σ H1 _ I1 q1) fun vl s2 ⟨l,H2,I2,pl,q2⟩=>thn (hu pins s2 σ H2 _ I2 q2) fun vu s3 ⟨u,H3,I3,pu,q3⟩=>thn (hst pins s3 σ H3 _ I3 q3) fun vc s4 ⟨c,H4,I4,pc,q4⟩=>?_)
 obtain⟨a,xs,rfl,hx,h0,q⟩:=q4
 cases r1
 have I5:Inv X pins σ H4 {s4 with heap:=s4.heap.push {cls:=.type "slice",data:=.fields #[vl,vu,vc]}}:=I4.kept (t':=s4.toks) fun b ob q=>Heap.get?_push_of_some _ q
 obtain⟨its,r,ht,hz⟩:=I5.list hx
 have hlen:=r.length
 have hg:wpAny (model X.prog X.w) X.A (getItem (.ref a) (.ref s4.heap.objs.size)) (EP X pins σ Q) X.xe {s4 with heap:=s4.heap.push {cls:=.type "slice",data:=.fields #[vl,vu,vc]}}:=by
  refine wpAny_getItem_list_slice ht.isList (Heap.IsSliceOf.new ..) pl pu pc h0 ?_ (by rw [List.size_toArray] <;> omega)
  have epick:slicePick its.toArray l u c=((sliceRange (sliceBounds l u c xs.length).1 (sliceBounds l u c xs.length).2.1 (sliceBounds l u c xs.length).2.2).filterMap (its[·]?)).toArray:=by
   simp [slicePick,hlen]
  have hsz:=slicePick_size_le its.toArray l u c
  rw [epick] at hsz ⊢
  have rv:Vals (pickV xs l u c) _:=Vals.places r _
  refine⟨.ref _,_,I5.laid (t':=s4.toks) (o:=.lst (pickV xs l u c)) (fun b ob q=>Heap.get?_push_of_some _ q) (Nat.le_refl _) ?_,rfl,q _ (I5.hok.fresh (Nat.le_refl _))⟩
  refine⟨?_,_,0,rv,Heap.get?_push_size _ rfl⟩
  have:=rv.length
  simp only [List.size_toArray] at hsz
  omega
 show wpAny (model X.prog X.w) X.A (subscriptTail e (.Slice lo hi (some st) p2) (.ref a) (.ref s4.heap.objs.size)) (EP X pins σ Q) X.xe {s4 with heap:=s4.heap.push {cls:=.type "slice",data:=.fields #[vl,vu,vc]}}
 exact tail_any (ops:=[.ref a,.ref s4.heap.objs.size]) ht.isList.typeIs slot_list_getitem.lookup hg (by with_unfolding_all rfl)
end
theorem nc(xs:List V)(h:xs.length=100):pickV xs (some 99) (some 1) (some (-1))=((xs.drop 2).take 98).reverse:=by
 unfold pickV
 rw [h]
 apply List.ext_getElem?
 intro i
 have e:sliceRange (sliceBounds (some 99) (some 1) (some (-1)) 100).1 (sliceBounds (some 99) (some 1) (some (-1)) 100).2.1 (sliceBounds (some 99) (some 1) (some (-1)) 100).2.2=(List.range 98).map fun k=>99-k:=by decide+kernel
 rw [e]
 have all:∀js:List Nat,(∀j∈js,j<xs.length)->js.filterMap (xs[·]?)=js.map fun j=>xs.getD j .non:=by
  intro js
  induction js with
  |nil=>intro _;rfl
  |cons j js ih=>
   intro hj
   have h1:=hj j (by simp)
   rw [List.filterMap_cons,List.getElem?_eq_getElem h1,List.map_cons,ih fun x hx=>hj x (by simp [hx])]
   simp only [List.getD_eq_getElem?_getD,List.getElem?_eq_getElem h1,Option.getD_some]
 rw [all _ (fun j hj=>by
  obtain⟨k,hk,rfl⟩:=List.mem_map.mp hj
  omega),List.map_map]
 by_cases hi:i<98
 ·rw [List.getElem?_map,List.getElem?_range hi,List.getElem?_reverse (by simp;omega),List.getElem?_take,if_pos (by simp;omega),List.getElem?_drop]
  simp only [List.length_take,List.length_drop,h,Option.map_some,Function.comp]
  have hi2:99-i<xs.length:=by omega
  rw [List.getD_eq_getElem?_getD,List.getElem?_eq_getElem hi2,Option.getD_some,show 2+(min 98 (100-2)-1-i)=99-i by omega,List.getElem?_eq_getElem hi2]
 ·rw [List.getElem?_eq_none (by simp;omega),List.getElem?_eq_none (by simp;omega)]
end L3
end
section
namespace L3
open PySem PySem.Spec PyProof.Rows L2
section
variable {prog:Program}{w:World}{A:Around}{R:Result->Shared->Prop}{I:Addr}{fp wr:List Addr}{n:Nat}{P:Nat->Value->Prop}{St:Nat->Heap->Prop}
theorem pI(a d:Value):argsOk "min" ⟨[a],[("default",d)]⟩:=by unfold argsOk;kernel_rfl
theorem qb(kw:List (Str × Value))(W:Walks prog w A.in1 I fp wr n P St)(bt:Nat->Nat->Bool)(hcmp:CmpOf prog w A.in1 .Lt P bt)(S:Addr)(hSf:S∉fp):
  ∀(k j:Nat) (s:Shared) (vb:Value) (c:Nat),n-(j+1)=k->j+1<=n->St (j+1) s.heap->P (argBest bt j) vb->
  s.heap.get? S=some {cls:=.type "list",dict:=none,data:=.seq #[vb,vb] c,slots:=#[]}->
  (∀v h' tk,P (argBest bt (n-1)) v->(∀b o,b∉wr->b≠S->s.heap.get? b=some o->h'.get? b=some o)->R (.ok (.ret v)) {s with heap:=h',toks:=tk})->
  codeAny (model prog w) A (.builtin "min.loop" ⟨[.ref I,.none,.ref S],kw⟩) R s:=by
 have hSw:S∉wr:=fun h=>hSf (W.sub _ h)
 have hname:(toString "min"++toString ".loop":String)="min.loop":=by decide
 intro k
 induction k with
 |zero=>
  intro j s vb c hk hj hst hPb hS hR
  have hin:j+1=n:=by omega
  refine codeAny_builtin F.entry_min_loop ?_
  rw [Around.under_plainId F.plain_min_loop _]
  show wpAny _ A.in1 (seqItems? (.ref S) >>=_) _ _ s
  refine wpAny_bind (wpAny_seqItems hS rfl ?_)
  show wpAny _ A.in1 (tryCatch (pyNext (.ref I)) _ >>=_) _ _ s
  refine wpAny_bind (wpAny_tryCatch (W.done s _ _ (hin ▸ hst) fun h' tk hk'=>?_))
  have hS':=hk' S _ hSw hS
  show wpAny _ A.in1 (updateSeq S (fun _=>#[]) >>=_) _ _ _
  refine wpAny_bind ?_
  refine wpAny_updateSeq hS' rfl (wpAny_bind (wpAny_letGo (wpAny_pure ?_)))
  refine hR vb _ tk (by rw [<-hin];exact hPb) fun b o hbw hbS e=>(Heap.get?_update_other _ _ (Ne.symm hbS)).trans (hk' b o hbw e)
 |succ k ih=>
  intro j s vb c hk hj hst hPb hS hR
  have hlt:j+1<n:=by omega
  refine codeAny_builtin F.entry_min_loop ?_
  rw [Around.under_plainId F.plain_min_loop _]
  show wpAny _ A.in1 (seqItems? (.ref S) >>=_) _ _ s
  refine wpAny_bind (wpAny_seqItems hS rfl ?_)
  show wpAny _ A.in1 (tryCatch (pyNext (.ref I)) _ >>=_) _ _ s
  refine wpAny_bind (wpAny_tryCatch (W.item (j+1) s _ _ hlt hst fun v h' tk hP hst' hk'=>?_))
  have hS':=hk' S _ hSw hS
  show wpAny _ A.in1 (tryCatch (holding [v,v] (richCompare .Lt v vb >>=_)) _ >>=_) _ _ _
  refine wpAny_bind (wpAny_tryCatch (wpAny_holding (wpAny_bind (hcmp (j+1) (argBest bt j) v vb _ _ _ hP hPb ?_))))
  refine wpAny_bind (wpAny_holding (wpAny_truthy_bool ?_))
  refine wpAny_bind (wpAny_letGo (wpAny_pure ?_))
  cases hb:bt (j+1) (argBest bt j) with
  |true=>
   simp only [if_true]
   refine wpAny_bind ?_
   refine wpAny_updateSeq hS' rfl (wpAny_bind (wpAny_letGo ?_))
   rw [hname]
   refine wpAny_pure ⟨plainId_quiet F.plain_min_loop _,ih (j+1) _ v _ (by omega) hlt (W.frame _ _ _ hst' fun b hbf o e=>?_) (by simp only [argBest,hb,if_true];exact hP) (Heap.get?_update_self _ hS' rfl)
    fun v' h'' tk'' hP' hk''=>?_⟩
   ·exact (Heap.get?_update_other _ _ (fun h:S=b=>hSf (by rw [h];exact hbf))).trans e
   ·exact hR v' h'' tk'' hP' fun b o hbw hbS e=>hk'' b o hbw hbS ((Heap.get?_update_other _ _ (Ne.symm hbS)).trans (hk' b o hbw e))
  |false=>
   simp only [Bool.false_eq_true,if_false]
   refine wpAny_bind (wpAny_letGo ?_)
   rw [hname]
   refine wpAny_pure ⟨plainId_quiet F.plain_min_loop _,ih (j+1) _ vb c (by omega) hlt hst' (by simp only [argBest,hb,Bool.false_eq_true,if_false];exact hPb) hS' fun v' h'' tk'' hP' hk''=>?_⟩
   exact hR v' h'' tk'' hP' fun b o hbw hbS e=>hk'' b o hbw hbS (hk' b o hbw e)
theorem m6(kw:List (Str × Value))(W:Walks prog w A.in1 I fp wr n P St)(bt:Nat->Nat->Bool)(hcmp:CmpOf prog w A.in1 .Lt P bt)(S:Addr)(hSf:S∉fp)(hn:0<n){s:Shared}{c:Nat}(hst:St 0 s.heap)
  (hS:s.heap.get? S=some {cls:=.type "list",dict:=none,data:=.seq #[] c,slots:=#[]})
  (hR:∀v h' tk,P (argBest bt (n-1)) v->(∀b o,b∉wr->b≠S->s.heap.get? b=some o->h'.get? b=some o)->R (.ok (.ret v)) {s with heap:=h',toks:=tk}):
  codeAny (model prog w) A (.builtin "min.loop" ⟨[.ref I,.none,.ref S],kw⟩) R s:=by
 have hSw:S∉wr:=fun h=>hSf (W.sub _ h)
 have hname:(toString "min"++toString ".loop":String)="min.loop":=by decide
 refine codeAny_builtin F.entry_min_loop ?_
 rw [Around.under_plainId F.plain_min_loop _]
 show wpAny _ A.in1 (seqItems? (.ref S) >>=_) _ _ s
 refine wpAny_bind (wpAny_seqItems hS rfl ?_)
 show wpAny _ A.in1 (tryCatch (pyNext (.ref I)) _ >>=_) _ _ s
 refine wpAny_bind (wpAny_tryCatch (W.item 0 s _ _ hn hst fun v h' tk hP hst' hk'=>?_))
 have hS':=hk' S _ hSw hS
 show wpAny _ A.in1 (updateSeq S (fun _=>#[v,v]) >>=_) _ _ _
 refine wpAny_bind ?_
 refine wpAny_updateSeq hS' rfl ?_
 rw [hname]
 refine wpAny_pure ⟨plainId_quiet F.plain_min_loop _,qb kw W bt hcmp S hSf _ 0 _ v _ rfl hn (W.frame _ _ _ hst' fun b hbf o e=>?_) hP (Heap.get?_update_self _ hS' rfl) fun v' h'' tk'' hP' hk''=>?_⟩
 ·exact (Heap.get?_update_other _ _ (fun h:S=b=>hSf (by rw [h];exact hbf))).trans e
 ·exact hR v' h'' tk'' hP' fun b o hbw hbS e=>hk'' b o hbw hbS ((Heap.get?_update_other _ _ (Ne.symm hbS)).trans (hk' b o hbw e))
theorem nF(d:Value)(W:Walks prog w A.in1 I fp wr n P St)(S:Addr)(hSf:S∉fp)(hn:n=0){s:Shared}{c:Nat}(hst:St 0 s.heap)
  (hS:s.heap.get? S=some {cls:=.type "list",dict:=none,data:=.seq #[] c,slots:=#[]})
  (hR:∀h' tk,(∀b o,b∉wr->s.heap.get? b=some o->h'.get? b=some o)->R (.ok (.ret d)) {s with heap:=h',toks:=tk}):
  codeAny (model prog w) A (.builtin "min.loop" ⟨[.ref I,.none,.ref S],[("default",d)]⟩) R s:=by
 refine codeAny_builtin F.entry_min_loop ?_
 rw [Around.under_plainId F.plain_min_loop _]
 show wpAny _ A.in1 (seqItems? (.ref S) >>=_) _ _ s
 refine wpAny_bind (wpAny_seqItems hS rfl ?_)
 show wpAny _ A.in1 (tryCatch (pyNext (.ref I)) _ >>=_) _ _ s
 refine wpAny_bind (wpAny_tryCatch (W.done s _ _ (hn ▸ hst) fun h' tk hk'=>?_))
 refine wpAny_bind (wpAny_rule ?_)
 exact wpAny_pure (hR h' tk hk')
end
section
variable {prog:Program}{w:World}{A:Around}{E:Value->Shared->Prop}{s:Shared}
theorem kY{id:String}{b:Builtin}{args:List Value}{kw:List (Str × Value)}{Q:Value->Shared->Prop}(hk:builtinKind id=none)(hp:plainId id=true)
  (hb:entryFor table id=some b) (ha:argsOk id ⟨args,kw⟩)
  (hc:wpAny (model prog w) A.in1 (b ⟨args,kw⟩) (fun fin s'=>match fin with
   |.done f=>(match (Except.ok f:Result) with |.ok (.ret v)=>Q v s' |.ok _=>False |.error e=>E e s')
   |.again c'=>c'.quiet=true/\codeAny (model prog w) A c' (fun r s'=>match r with |.ok (.ret v)=>Q v s' |.ok _=>False |.error e=>E e s') s') E s):
  wpAny (model prog w) A (call (.builtin id) args kw) Q E s:=by
 refine wpAny_call (codeAny_call_builtin hp hb ?_)
 simp only [checkBuiltinCall,hk]
 cases hsig:Manifest.signature? id with
 |none=>exact wpAny_pure hc
 |some sig=>
  simp only [argsOk,hsig] at ha
  have h2:Bind.checkArgs id sig ⟨args,kw⟩=pure ():=ha
  show wpAny _ A.in1 (Bind.checkArgs id sig ⟨args,kw⟩) _ _ s
  rw [h2];exact wpAny_pure hc
theorem iK{l:Addr}{xs:Array (Int × Tok)}{d:Value}{Q:Value->Shared->Prop}(hh:A.handled=none)(hl:s.heap.IsList l (intItems xs))
  (h0:xs.size=0->∀h' tk,(∀b o,s.heap.get? b=some o->h'.get? b=some o)->Q d {s with heap:=h',toks:=tk})
  (h:0<xs.size->∀v h' tk,(intItems xs)[argBest (fun i j=>decide (numAt xs i<numAt xs j)) (xs.size-1)]?=some v->(∀b o,s.heap.get? b=some o->h'.get? b=some o)->Q v {s with heap:=h',toks:=tk}):
  wpAny (model prog w) A (call (.builtin "min") [.ref l] [("default",d)]) Q E s:=by
 have hname:(toString "min"++toString ".loop":String)="min.loop":=by decide
 refine kY F.kind_min F.plain_min F.entry_min (pI _ _) ?_
 show wpAny _ A.in1 (Builtin.Builtins.bindParams "min" ["key","default"] 0 ⟨[],[("default",d)]⟩ >>=_) _ _ s
 refine wpAny_bind (wpAny_of_eq (show Builtin.Builtins.bindParams "min" ["key","default"] 0 ⟨[],[("default",d)]⟩=pure [none,some d] from by with_unfolding_all rfl) ?_)
 refine wpAny_bind (wpAny_pure ?_)
 refine wpAny_bind (iter_intList hl fun s₂ e st hfp hlI=>?_)
 subst e
 have W:=Walks.list (prog:=prog) (w:=w) (A:=A.in1) hh s.heap.objs.size l hlI (intItems xs)
 refine wpAny_bind (wpAny_newObj_type ?_)
 rw [hname]
 have hsz:(intItems xs).size=xs.size:=by simp [intItems]
 generalize hs2:(s.heap.push {cls:=.type "list_iterator",data:=.fields #[.ref l,.int 0 0]})=hp2 at st hfp ⊢
 have hold:∀b o,s.heap.get? b=some o->hp2.get? b=some o:=fun b o e=>by rw [<-hs2];exact Heap.get?_push_of_some _ e
 have hsize:hp2.objs.size=s.heap.objs.size+1:=by rw [<-hs2];exact Heap.size_push ..
 have hne:∀b o,s.heap.get? b=some o->b∉[s.heap.objs.size]:=fun b o e hm=>by
  rcases List.mem_cons.mp hm with e1 |hm
  ·exact absurd (e1 ▸ Heap.lt_size e) (Nat.lt_irrefl _)
  ·cases hm
 have hSf:hp2.objs.size∉[s.heap.objs.size,l]:=fun hm=>Nat.lt_irrefl _ (hfp _ hm)
 by_cases hz:xs.size=0
 ·refine wpAny_pure ⟨plainId_quiet F.plain_min_loop _,nF d W hp2.objs.size hSf (by rw [hsz];exact hz) (W.frame _ _ _ st fun b _ o e=>Heap.get?_push_of_some _ e) (Heap.get?_push_size _ rfl) fun h' tk hk=>?_⟩
  exact h0 hz h' tk fun b o e=>hk b o (hne b o e) (Heap.get?_push_of_some _ (hold b o e))
 ·refine wpAny_pure ⟨plainId_quiet F.plain_min_loop _,m6 _ W _ (CmpOf.ints_lt (numAt xs) (fun _ _=>intItems_at)) hp2.objs.size hSf (by rw [hsz];omega) (W.frame _ _ _ st fun b _ o e=>Heap.get?_push_of_some _ e) (Heap.get?_push_size _ rfl) fun v h' tk hP hk=>?_⟩
  refine h (by omega) v h' tk (by rw [<-hsz];exact hP) fun b o e=>hk b o (hne b o e) (fun q=>?_) (Heap.get?_push_of_some _ (hold b o e))
  have h9:hp2.objs.size<s.heap.objs.size:=q ▸ Heap.lt_size e
  rw [hsize] at h9
  exact absurd h9 (Nat.not_lt.mpr (Nat.le_succ _))
theorem rn{l:Addr}{its:List Value}{ns:List Int}{d:Value}{Q:Value->Shared->Prop}(hh:A.handled=none)(hl:s.heap.IsList l its.toArray)(hi:IntsAre its ns)
  (h0:ns=[]->∀h' tk,(∀b o,s.heap.get? b=some o->h'.get? b=some o)->Q d {s with heap:=h',toks:=tk})
  (h:ns≠[]->∀h' tk M t',(∀b o,s.heap.get? b=some o->h'.get? b=some o)->M∈ns->(∀a,a∈ns->M<=a)->Q (.int M t') {s with heap:=h',toks:=tk}):
  wpAny (model prog w) A (call (.builtin "min") [.ref l] [("default",d)]) Q E s:=by
 obtain⟨xs,e⟩:=hi.allInts.items
 have hn:numsOf (intItems xs).toList=ns:=by rw [<-e];exact hi.numsOf
 rw [nums_intItems] at hn
 subst hn
 rw [e] at hl
 refine iK hh hl (fun hz h' tk hk=>?_) fun hne v h' tk hv hk=>?_
 ·exact h0 (by rw [List.map_eq_nil_iff];exact Array.toList_eq_nil_iff.mpr (Array.eq_empty_of_size_eq_zero hz)) h' tk hk
 ·have hne':List.map (fun x=>x.1) xs.toList≠[]:=fun q=>by
   have:=congrArg List.length q
   simp at this
   simp [this] at hne
  obtain⟨t,rfl⟩:=intItems_at hv
  obtain⟨h1,h2⟩:=argBest_lt (numAt xs) (xs.size-1)
  refine h hne' h' tk _ t hk ?_ fun a ha=>?_
  ·rw [numAt_eq];exact PySem.getD_mem (by rw [List.length_map,Array.length_toList];omega)
  ·obtain⟨j,hj,rfl⟩:=mem_getD ha
   rw [List.length_map,Array.length_toList] at hj
   rw [<-numAt_eq];exact h2 j (by omega)
end
def leastD(d:Int):List Int->Int
 |[]=>d
 |x::r=>r.foldl min x
theorem fG:∀(r:List Int) (x m:Int),m∈x::r->(∀y∈x::r,m<=y)->r.foldl min x=m
 |[],x,m,h,_=>by simp at h;exact h.symm
 |y::r,x,m,h,q=>by
  rw [List.foldl_cons]
  apply fG r (min x y) m
  ·have h1:=q x (by simp)
   have h2:=q y (by simp)
   rcases List.mem_cons.mp h with e |h
   ·rw [e,show min x y=x by omega];simp
   ·rcases List.mem_cons.mp h with e |h
    ·rw [e,show min x y=y by omega];simp
    ·simp [h]
  ·intro z hz
   rcases List.mem_cons.mp hz with e |hz
   ·have h1:=q x (by simp)
    have h2:=q y (by simp)
    omega
   ·exact q z (by simp [hz])
section
variable {X:Cx}{e d:Expr}{te td:TE}{p pos kpos:Pos}
inductive h7(K:PySem.W.Frag)(Q:VK)(x y:V)(H2:Hp):Prop
 |mk:∀(a:Addr) (ns:List Int) (z:Int),(x=V.ref a)->(y=V.int z)->(SqL K H2 a (ns.map V.int))->(Q (.int (leastD z ns)) H2)->h7 K Q x y H2
def tMinD(K:PySem.W.Frag)(te td:TE):TE:=fun σ H Q=>te σ H fun x H1=>td σ H1 fun y H2=>h7 K Q x y H2
theorem oR(hc:X.calm=true)(hg:Gl X "min")(hm:X.mg "min"=none)(he:PE X e te)(hd:PE X d td)
  (he1:backTo pos (starEach [e] X.env)=[(false,eval e X.env)]:=by rfl) (hs:starEach [e] X.env=(false,eval e X.env)::starEach [] X.env:=by rfl):PE X (.Call (.Name "min" p) [e] [⟨some "default",d,kpos⟩] pos) (tMinD X.K te td):=by
 intro pins s σ H Q I h
 refine wpAny_Call_Name_kw (eG I hg hm boot_min ?_)
 refine callWith_kw (thn ((aa he ag hs) pos pins s σ H (fun vs H1=>match vs with
  |[x]=>td σ H1 fun y H2=>h7 X.K Q x y H2
  |_=>False) I h) fun us s1 ⟨vs,H1,I1,r1,q1⟩=>?_) he1 (by rw [he1];rfl)
 match vs,r1,q1 with
 |[x],r1,q1=>
  refine thn ((tX (nm:=some "default") (kpos:=kpos) hd vp) pos pins s1 σ H1 (fun zs H2=>match zs with
   |[y]=>h7 X.K Q x y H2
   |_=>False) I1 q1) fun ws s2 ⟨zs,H2,I2,rz,q2⟩=>?_
  match zs,rz,q2 with
  |[y],rz,⟨a,ns,z,ex,ey,hs,q⟩=>
   subst ex ey
   rw [Vals.ref1 r1]
   obtain⟨u,e1,t,e2⟩:=Vals.one rz
   subst e1 e2
   obtain⟨its,rv,hl,_⟩:=I2.list hs
   show wpAny _ _ (call (.builtin "min") [.ref a] [("default",.int z t)]) _ _ s2
   refine rn (I2.ok.hd hc) hl.isList rv.ints (fun e0 h' tk hk=>?_) fun hne h' tk m t' hk h1 h2=>?_
   ·subst e0
    exact⟨.int z,H2,I2.kept hk,⟨_,rfl⟩,q⟩
   ·refine⟨.int m,H2,I2.kept hk,⟨_,rfl⟩,?_⟩
    cases ns with
    |nil=>exact absurd rfl hne
    |cons n r=>
     have e3:leastD z (n::r)=m:=fG r n m h1 h2
     rw [<-e3];exact q
end
end L3
end
section
namespace L3
open PySem PySem.Spec PyProof.Rows L2
theorem iX(a b c:Value):checkTypeCall "zip" ⟨[a,b,c],[]⟩=pure ():=by kernel_rfl
theorem jt(a b c:Value):checkBuiltinCall "zip.__new__" ⟨[.type "zip",a,b,c],[]⟩=pure ():=by kernel_rfl
theorem fq(a b c d:Value):argsOk "object.__init__" ⟨[a,b,c,d],[]⟩:=by
 unfold argsOk;rw [signature?_of (id:="object.__init__") (n:=['_','_','t','i','n','i','_','_']) (o:=['t','c','e','j','b','o']) (by kernel_rfl) F.owner_object];kernel_rfl
abbrev IsTri(h:Heap)(T:Addr)(a b c:Value):Prop:=h.get? T=some {cls:=.type "tuple",data:=.seq #[a,b,c]}
section
variable {prog:Program}{w:World}{A:Around}{E:Value->Shared->Prop}{s:Shared}
theorem c7{T:Addr}{a b c x:Value}{k:Nat}{Q:Unit->Shared->Prop}(hT:IsTri s.heap T a b c)
  (h:∀h',h'.get? T=some {cls:=.type "tuple",data:=.seq ((#[a,b,c]:Array Value).setIfInBounds k x)}->Heap.SameBut T s.heap h'->Q () {s with heap:=h'}):
  wpAny (model prog w) A (updateSeq T (·.setIfInBounds k x)) Q E s:=by
 refine wpAny_updateSeq hT rfl (h _ ?_ (Heap.SameBut.update ..))
 rw [Heap.get?_update_self _ hT rfl]
 simp [Obj.mapSeq]
structure Zip3(z TI TO i1 i2 i3 l1 l2 l3:Addr):Prop where
 nd:[z,TI,TO,i1,i2,i3].Nodup
 f1:l1∉[z,TO,i1,i2,i3]
 f2:l2∉[z,TO,i1,i2,i3]
 f3:l3∉[z,TO,i1,i2,i3]
theorem pY{z TI TO i1 i2 i3 l1 l2 l3:Addr}{k1 k2 k3:Nat}{xs ys zs:Array Value}{x y v a b c:Value}{Q:Value->Shared->Prop}(D:Zip3 z TI TO i1 i2 i3 l1 l2 l3)
  (hz:IsZip s.heap z TI TO .none) (hTI:IsTri s.heap TI (.ref i1) (.ref i2) (.ref i3)) (hTO:IsTri s.heap TO a b c)
  (h1:s.heap.IsListIter i1 l1 k1) (h2:s.heap.IsListIter i2 l2 k2) (h3:s.heap.IsListIter i3 l3 k3) (hl1:s.heap.IsList l1 xs) (hl2:s.heap.IsList l2 ys) (hl3:s.heap.IsList l3 zs) (hx:xs[k1]?=some x) (hy:ys[k2]?=some y) (hv:zs[k3]?=some v)
  (hQ:∀h',IsZip h' z TI TO (rawInt s.heap.objs.size)->IsTri h' TO x y v->h'.IsListIter i1 l1 (k1+1)->h'.IsListIter i2 l2 (k2+1)->h'.IsListIter i3 l3 (k3+1)->IsTri h' s.heap.objs.size x y v->h'.objs.size=s.heap.objs.size+1->
   (∀c o,c∉[z,TO,i1,i2,i3]->s.heap.get? c=some o->h'.get? c=some o)->Q (.ref s.heap.objs.size) {s with heap:=h'}):
  wpAny (model prog w) A (Builtin.«zip.__next__» ⟨[.ref z],[]⟩) (fun fin s'=>∃v,fin=.done (.ret v)/\Q v s') E s:=by
 obtain⟨nd,f1,f2,f3⟩:=D
 simp only [List.nodup_cons,List.mem_cons,List.not_mem_nil,or_false,not_or,List.nodup_nil,and_true,not_false_eq_true] at nd f1 f2 f3
 obtain⟨⟨zTI,zTO,zi1,zi2,zi3⟩,⟨TITO,TIi1,TIi2,TIi3⟩,⟨TOi1,TOi2,TOi3⟩,⟨i12,i13⟩,i23⟩:=nd
 obtain⟨l1z,l1TO,l1i1,l1i2,l1i3⟩:=f1
 obtain⟨l2z,l2TO,l2i1,l2i2,l2i3⟩:=f2
 obtain⟨l3z,l3TO,l3i1,l3i2,l3i3⟩:=f3
 show wpAny _ _ (field (.ref z) 2 >>=_) _ _ _
 refine wpAny_bind (wpAny_field hz rfl (x:=.bool false) rfl ?_)
 show wpAny _ _ (field (.ref z) 3 >>=_) _ _ _
 refine wpAny_bind (wpAny_field hz rfl (x:=.ref TI) rfl ?_)
 refine wpAny_bind (wpAny_seqItems hTI rfl ?_)
 show wpAny _ _ (Builtin.SmallTypes.ownedTupleIsFree (.ref z) >>=_) _ _ _
 refine wpAny_bind ?_
 unfold Builtin.SmallTypes.ownedTupleIsFree
 refine wpAny_bind (wpAny_field hz rfl (x:=.none) rfl (wpAny_pure ?_))
 simp only [if_true]
 refine wpAny_bind (wpAny_rule ?_)
 refine wpAny_bind (wpAny_field hz rfl (x:=.ref TO) rfl ?_)
 refine wpAny_bind (wpAny_setField_rec hz (by simp) fun g1 hz1 s1=>?_)
 replace hz1:IsZip g1 z TI TO .ellipsis:=hz1
 refine wpAny_bind ?_
 simp only [List.zipIdx_cons,List.zipIdx_nil,List.forIn_cons,List.forIn_nil]
 refine wpAny_bind (wpAny_bind (wpAny_onRaise ?_))
 show wpAny _ _ (Builtin.SmallTypes.nextOf (.ref i1) >>=_) _ _ _
 refine wpAny_bind (wpAny_nextOf_list_item (h1.extBut s1.extBut (Ne.symm zi1)) (hl1.extBut s1.extBut l1z) hx fun g2 h12 s2=>wpAny_pure ?_)
 have hTO2:IsTri g2 TO a b c:=s2.extBut _ _ TOi1 (s1.extBut _ _ (Ne.symm zTO) hTO)
 refine wpAny_bind (wpAny_seqItems hTO2 rfl ?_)
 refine wpAny_bind (c7 hTO2 fun g3 hTO3 s3=>?_)
 replace hTO3:IsTri g3 TO x b c:=hTO3
 refine wpAny_bind (wpAny_letGo (wpAny_pure ?_))
 refine wpAny_bind (wpAny_bind (wpAny_onRaise ?_))
 show wpAny _ _ (Builtin.SmallTypes.nextOf (.ref i2) >>=_) _ _ _
 refine wpAny_bind (wpAny_nextOf_list_item (((h2.extBut s1.extBut (Ne.symm zi2)).extBut s2.extBut (Ne.symm i12)).extBut s3.extBut (Ne.symm TOi2))
  (((hl2.extBut s1.extBut l2z).extBut s2.extBut l2i1).extBut s3.extBut l2TO) hy fun g4 h24 s4=>wpAny_pure ?_)
 have hTO4:IsTri g4 TO x b c:=s4.extBut _ _ TOi2 hTO3
 refine wpAny_bind (wpAny_seqItems hTO4 rfl ?_)
 refine wpAny_bind (c7 hTO4 fun g5 hTO5 s5=>?_)
 replace hTO5:IsTri g5 TO x y c:=hTO5
 refine wpAny_bind (wpAny_letGo (wpAny_pure ?_))
 refine wpAny_bind (wpAny_bind (wpAny_onRaise ?_))
 show wpAny _ _ (Builtin.SmallTypes.nextOf (.ref i3) >>=_) _ _ _
 refine wpAny_bind (wpAny_nextOf_list_item (((((h3.extBut s1.extBut (Ne.symm zi3)).extBut s2.extBut (Ne.symm i13)).extBut s3.extBut (Ne.symm TOi3)).extBut s4.extBut (Ne.symm i23)).extBut s5.extBut (Ne.symm TOi3))
  (((((hl3.extBut s1.extBut l3z).extBut s2.extBut l3i1).extBut s3.extBut l3TO).extBut s4.extBut l3i2).extBut s5.extBut l3TO) hv fun g6 h36 s6=>wpAny_pure ?_)
 have hTO6:IsTri g6 TO x y c:=s6.extBut _ _ TOi3 hTO5
 refine wpAny_bind (wpAny_seqItems hTO6 rfl ?_)
 refine wpAny_bind (c7 hTO6 fun g7 hTO7 s7=>?_)
 replace hTO7:IsTri g7 TO x y v:=hTO7
 refine wpAny_bind (wpAny_letGo (wpAny_pure (wpAny_pure ?_)))
 refine wpAny_bind (wpAny_seqItems hTO7 rfl ?_)
 refine wpAny_bind (wpAny_newTuple ?_)
 have hsz:g7.objs.size=s.heap.objs.size:=by rw [s7.1,s6.1,s5.1,s4.1,s3.1,s2.1,s1.1]
 have hz7:IsZip g7 z TI TO .ellipsis:=s7.extBut _ _ zTO (s6.extBut _ _ zi3 (s5.extBut _ _ zTO (s4.extBut _ _ zi2 (s3.extBut _ _ zTO (s2.extBut _ _ zi1 hz1)))))
 have hk7:∀c o,c∉[z,TO,i1,i2,i3]->s.heap.get? c=some o->g7.get? c=some o:=fun c o hc e=>by
  simp only [List.mem_cons,List.not_mem_nil,or_false,not_or] at hc
  obtain⟨c1,c2,c3,c4,c5⟩:=hc
  exact s7.extBut _ _ c2 (s6.extBut _ _ c5 (s5.extBut _ _ c2 (s4.extBut _ _ c4 (s3.extBut _ _ c2 (s2.extBut _ _ c3 (s1.extBut _ _ c1 e))))))
 have h17:g7.IsListIter i1 l1 (k1+1):=((((h12.extBut s3.extBut (Ne.symm TOi1)).extBut s4.extBut i12).extBut s5.extBut (Ne.symm TOi1)).extBut s6.extBut i13).extBut s7.extBut (Ne.symm TOi1)
 have h27:g7.IsListIter i2 l2 (k2+1):=((h24.extBut s5.extBut (Ne.symm TOi2)).extBut s6.extBut i23).extBut s7.extBut (Ne.symm TOi2)
 have h37:g7.IsListIter i3 l3 (k3+1):=h36.extBut s7.extBut (Ne.symm TOi3)
 have hzlt:z<g7.objs.size:=Heap.lt_size hz7
 show wpAny _ _ (Builtin.SmallTypes.ownedTupleHandOut (.ref z) (.ref g7.objs.size) >>=_) _ _ _
 refine wpAny_bind ?_
 unfold Builtin.SmallTypes.ownedTupleHandOut
 have hz8:IsZip (g7.push {cls:=.type "tuple",data:=.seq #[x,y,v]}) z TI TO .ellipsis:=Heap.get?_push_of_some _ hz7
 refine wpAny_bind (wpAny_setField_rec hz8 (by simp) fun g9 hz9 s9=>?_)
 replace hz9:IsZip g9 z TI TO (rawInt g7.objs.size):=hz9
 refine wpAny_setField_rec hz9 (by simp) fun g0 hz0 s0=>?_
 replace hz0:IsZip g0 z TI TO (rawInt g7.objs.size):=hz0
 have up:∀c o,c≠z->g7.get? c=some o->g0.get? c=some o:=fun c o c1 e=>s0.extBut _ _ c1 (s9.extBut _ _ c1 (Heap.get?_push_of_some _ e))
 have hT0:IsTri g0 g7.objs.size x y v:=s0.extBut _ _ (Nat.ne_of_gt hzlt) (s9.extBut _ _ (Nat.ne_of_gt hzlt) (Heap.get?_push_size _ rfl))
 have hs0:g0.objs.size=g7.objs.size+1:=by rw [s0.1,s9.1,Heap.size_push]
 rw [hsz] at hz0 hT0 hs0
 refine wpAny_pure ⟨_,rfl,?_⟩
 show Q (.ref g7.objs.size) _
 rw [hsz]
 refine hQ g0 hz0 (up _ _ (Ne.symm zTO) hTO7) (h17.at fun o e=>up _ o (Ne.symm zi1) e) (h27.at fun o e=>up _ o (Ne.symm zi2) e) (h37.at fun o e=>up _ o (Ne.symm zi3) e) hT0 hs0 fun c o hc e=>up c o (fun q=>hc (by simp [q])) (hk7 c o hc e)
theorem rS{z TI TO i1 i2 i3 l1 l2 l3:Addr}{k1 k2 k3:Nat}{xs ys zs:Array Value}{a b c:Value}{Q:Fin->Shared->Prop}(hh:A.handled=none)(D:Zip3 z TI TO i1 i2 i3 l1 l2 l3)
  (hz:IsZip s.heap z TI TO .none) (hTI:IsTri s.heap TI (.ref i1) (.ref i2) (.ref i3)) (hTO:IsTri s.heap TO a b c)
  (h1:s.heap.IsListIter i1 l1 k1) (hl1:s.heap.IsList l1 xs) (hend:xs[k1]?=none)
  (hE:∀h' e,(∀c o,c∉[z,TO,i1,i2,i3]->s.heap.get? c=some o->h'.get? c=some o)->(∃o,h'.get? e=some o/\o.cls=.type "StopIteration")->E (.ref e) {s with heap:=h'}):
  wpAny (model prog w) A (Builtin.«zip.__next__» ⟨[.ref z],[]⟩) Q E s:=by
 obtain⟨nd,f1,f2,f3⟩:=D
 simp only [List.nodup_cons,List.mem_cons,List.not_mem_nil,or_false,not_or,List.nodup_nil,and_true,not_false_eq_true] at nd f1
 obtain⟨⟨zTI,zTO,zi1,zi2,zi3⟩,⟨TITO,TIi1,TIi2,TIi3⟩,⟨TOi1,TOi2,TOi3⟩,⟨i12,i13⟩,i23⟩:=nd
 obtain⟨l1z,l1TO,l1i1,l1i2,l1i3⟩:=f1
 show wpAny _ _ (field (.ref z) 2 >>=_) _ _ _
 refine wpAny_bind (wpAny_field hz rfl (x:=.bool false) rfl ?_)
 show wpAny _ _ (field (.ref z) 3 >>=_) _ _ _
 refine wpAny_bind (wpAny_field hz rfl (x:=.ref TI) rfl ?_)
 refine wpAny_bind (wpAny_seqItems hTI rfl ?_)
 show wpAny _ _ (Builtin.SmallTypes.ownedTupleIsFree (.ref z) >>=_) _ _ _
 refine wpAny_bind ?_
 unfold Builtin.SmallTypes.ownedTupleIsFree
 refine wpAny_bind (wpAny_field hz rfl (x:=.none) rfl (wpAny_pure ?_))
 simp only [if_true]
 refine wpAny_bind (wpAny_rule ?_)
 refine wpAny_bind (wpAny_field hz rfl (x:=.ref TO) rfl ?_)
 refine wpAny_bind (wpAny_setField_rec hz (by simp) fun g1 hz1 s1=>?_)
 replace hz1:IsZip g1 z TI TO .ellipsis:=hz1
 refine wpAny_bind ?_
 simp only [List.zipIdx_cons,List.zipIdx_nil,List.forIn_cons,List.forIn_nil]
 refine wpAny_bind (wpAny_bind (wpAny_onRaise ?_))
 show wpAny _ _ (Builtin.SmallTypes.nextOf (.ref i1) >>=_) _ _ _
 refine wpAny_bind (wpAny_nextOf_list_end hh (h1.extBut s1.extBut (Ne.symm zi1)) (hl1.extBut s1.extBut l1z) hend fun g2 e s2 he=>?_)
 obtain⟨oe,hoe,hce⟩:=he
 have hz2:IsZip g2 z TI TO .ellipsis:=s2 _ _ zi1 hz1
 have hez:e≠z:=fun x=>by subst x;rw [hz2] at hoe;cases hoe;simp at hce
 refine wpAny_setField_rec hz2 (by simp) fun g3 _ s3=>hE g3 e (fun c o hc x=>?_) ⟨oe,s3.extBut _ _ hez hoe,hce⟩
 simp only [List.mem_cons,List.not_mem_nil,or_false,not_or] at hc
 exact s3.extBut _ _ hc.1 (s2 _ _ hc.2.2.1 (s1.extBut _ _ hc.1 x))
theorem iZ{z TI TO i1 i2 i3 l1 l2 l3:Addr}{k1 k2 k3:Nat}{xs ys zs:Array Value}{x y v a b c:Value}{Q:Option Value->Shared->Prop}(D:Zip3 z TI TO i1 i2 i3 l1 l2 l3)
  (hz:IsZip s.heap z TI TO .none) (hTI:IsTri s.heap TI (.ref i1) (.ref i2) (.ref i3)) (hTO:IsTri s.heap TO a b c)
  (h1:s.heap.IsListIter i1 l1 k1) (h2:s.heap.IsListIter i2 l2 k2) (h3:s.heap.IsListIter i3 l3 k3) (hl1:s.heap.IsList l1 xs) (hl2:s.heap.IsList l2 ys) (hl3:s.heap.IsList l3 zs) (hx:xs[k1]?=some x) (hy:ys[k2]?=some y) (hv:zs[k3]?=some v)
  (hQ:∀h',IsZip h' z TI TO (rawInt s.heap.objs.size)->IsTri h' TO x y v->h'.IsListIter i1 l1 (k1+1)->h'.IsListIter i2 l2 (k2+1)->h'.IsListIter i3 l3 (k3+1)->IsTri h' s.heap.objs.size x y v->h'.objs.size=s.heap.objs.size+1->
   (∀c o,c∉[z,TO,i1,i2,i3]->s.heap.get? c=some o->h'.get? c=some o)->Q (some (.ref s.heap.objs.size)) {s with heap:=h'}):
  wpAny (model prog w) A (pyNext (.ref z)) Q E s:=by
 have hT:s.TypeIs (.ref z) "zip":=⟨_,hz,rfl⟩
 unfold pyNext
 exact wpAny_bind (wpAny_attempt (wpAny_callSpecial?_slot (name:=Str.ofString "__next__") hT F.slot_zip_next
  (wpAny_call_entry F.slot_zip_next hT F.entry_zip_next
   (pY D hz hTI hTO h1 h2 h3 hl1 hl2 hl3 hx hy hv fun h' a1 a2 a3 a4 a5 a6 a7 a8=>wpAny_pure (hQ h' a1 a2 a3 a4 a5 a6 a7 a8)) (F.args_zip_next_1 _))))
theorem jy{z TI TO i1 i2 i3 l1 l2 l3:Addr}{k1 k2 k3:Nat}{xs ys zs:Array Value}{a b c:Value}{Q:Option Value->Shared->Prop}(hh:A.handled=none)(D:Zip3 z TI TO i1 i2 i3 l1 l2 l3)
  (hz:IsZip s.heap z TI TO .none) (hTI:IsTri s.heap TI (.ref i1) (.ref i2) (.ref i3)) (hTO:IsTri s.heap TO a b c)
  (h1:s.heap.IsListIter i1 l1 k1) (hl1:s.heap.IsList l1 xs) (hend:xs[k1]?=none)
  (hQ:∀h',(∀c o,c∉[z,TO,i1,i2,i3]->s.heap.get? c=some o->h'.get? c=some o)->Q none {s with heap:=h'}):wpAny (model prog w) A (pyNext (.ref z)) Q E s:=by
 have hT:s.TypeIs (.ref z) "zip":=⟨_,hz,rfl⟩
 unfold pyNext
 refine wpAny_bind (wpAny_attempt (wpAny_callSpecial?_slot (name:=Str.ofString "__next__") hT F.slot_zip_next
  (wpAny_call_entry F.slot_zip_next hT F.entry_zip_next (rS (k2:=k2) (k3:=k3) (ys:=ys) (zs:=zs) hh D hz hTI hTO h1 hl1 hend fun h' e hk he=>?_) (F.args_zip_next_1 _))))
 obtain⟨o,ho,hc⟩:=he
 refine wpAny_bind (wpAny_isInstance (T:="StopIteration") (b:=true) ⟨o,ho,hc⟩ isSubtype_stop ?_)
 exact wpAny_pure (hQ _ hk)
end
abbrev z3a(h:Heap)(l1:Addr):Heap:=h.push {cls:=.type "list_iterator",data:=.fields #[.ref l1,.int 0 0]}
abbrev z3b(h:Heap)(l1 l2:Addr):Heap:=(z3a h l1).push {cls:=.type "list_iterator",data:=.fields #[.ref l2,.int 0 0]}
abbrev z3c(h:Heap)(l1 l2 l3:Addr):Heap:=(z3b h l1 l2).push {cls:=.type "list_iterator",data:=.fields #[.ref l3,.int 0 0]}
abbrev z3d(h:Heap)(l1 l2 l3:Addr):Heap:=(z3c h l1 l2 l3).push {cls:=.type "tuple",data:=.seq #[.ref h.objs.size,.ref (z3a h l1).objs.size,.ref (z3b h l1 l2).objs.size]}
abbrev z3e(h:Heap)(l1 l2 l3:Addr):Heap:=(z3d h l1 l2 l3).push {cls:=.type "tuple",data:=.seq #[.none,.none,.none]}
abbrev z3f(h:Heap)(l1 l2 l3:Addr):Heap:=(z3e h l1 l2 l3).push {cls:=.type "zip",data:=.fields #[.none,.bool false,.bool false,.ref (z3c h l1 l2 l3).objs.size,.ref (z3d h l1 l2 l3).objs.size]}
theorem iw(l1 l2 l3:Addr)(xs ys zs:Array Value):
  Meets (Builtin.«zip.__new__» ⟨[.type "zip",.ref l1,.ref l2,.ref l3],[]⟩) (fun _ R s=>s.heap.IsList l1 xs/\s.heap.IsList l2 ys/\s.heap.IsList l3 zs/\
   R (.ok (.ret (.ref (z3e s.heap l1 l2 l3).objs.size))) {s with heap:=z3f s.heap l1 l2 l3}):=
 .of_wp fun prog w A R s h=>by
  obtain⟨hp,g,d,tk,os⟩:=s;obtain⟨hl1,hl2,hl3,h⟩:=h
  have hsub:=sub_zip
  have hL1:Heap.IsList (Shared.heap ⟨hp,g,d,tk,os⟩) l1 xs:=hl1
  have hL2:Heap.IsList (Shared.heap ⟨hp.push {cls:=.type "list_iterator",data:=.fields #[.ref l1,.int 0 0]},g,d,tk,os⟩) l2 ys:=Heap.IsList.push hl2 _
  have hL3:Heap.IsList (Shared.heap ⟨(hp.push {cls:=.type "list_iterator",data:=.fields #[.ref l1,.int 0 0]}).push {cls:=.type "list_iterator",data:=.fields #[.ref l2,.int 0 0]},g,d,tk,os⟩) l3 zs:=Heap.IsList.push (Heap.IsList.push hl3 _) _
  wp_walk using wpAny_pyIter_list hL1,wpAny_pyIter_list hL2,wpAny_pyIter_list hL3
  exact⟨_,rfl,h⟩
section
variable {prog:Program}{w:World}{A:Around}{E:Value->Shared->Prop}{s:Shared}
theorem nj{l1 l2 l3:Addr}{xs ys zs:Array Value}{Q:Value->Shared->Prop}(hl1:s.heap.IsList l1 xs)(hl2:s.heap.IsList l2 ys)(hl3:s.heap.IsList l3 zs)
  (h:∀h',IsZip h' (s.heap.objs.size+5) (s.heap.objs.size+3) (s.heap.objs.size+4) .none->IsTri h' (s.heap.objs.size+3) (.ref s.heap.objs.size) (.ref (s.heap.objs.size+1)) (.ref (s.heap.objs.size+2))->
   IsTri h' (s.heap.objs.size+4) .none .none .none->h'.IsListIter s.heap.objs.size l1 0->h'.IsListIter (s.heap.objs.size+1) l2 0->h'.IsListIter (s.heap.objs.size+2) l3 0->h'.objs.size=s.heap.objs.size+6->
   (∀c o,s.heap.get? c=some o->h'.get? c=some o)->Q (.ref (s.heap.objs.size+5)) {s with heap:=h'}):
  wpAny (model prog w) A (call (.type "zip") [.ref l1,.ref l2,.ref l3]) Q E s:=by
 refine callType_new F.called_zip (by decide) (iX _ _ _) (jt _ _ _) (fun obj=>fq obj _ _ _) F.entry_zip_new
  (iw l1 l2 l3 xs ys zs) ⟨hl1,hl2,hl3,?_⟩
 have z1:(z3a s.heap l1).objs.size=s.heap.objs.size+1:=Heap.size_push ..
 have z2:(z3b s.heap l1 l2).objs.size=s.heap.objs.size+2:=by rw [Heap.size_push,z1]
 have z3:(z3c s.heap l1 l2 l3).objs.size=s.heap.objs.size+3:=by rw [Heap.size_push,z2]
 have z4:(z3d s.heap l1 l2 l3).objs.size=s.heap.objs.size+4:=by rw [Heap.size_push,z3]
 have z5:(z3e s.heap l1 l2 l3).objs.size=s.heap.objs.size+5:=by rw [Heap.size_push,z4]
 have z6:(z3f s.heap l1 l2 l3).objs.size=s.heap.objs.size+6:=by rw [Heap.size_push,z5]
 have g6:(z3f s.heap l1 l2 l3).get? (z3e s.heap l1 l2 l3).objs.size=some _:=Heap.get?_push_size _ rfl
 have g5:(z3f s.heap l1 l2 l3).get? (z3d s.heap l1 l2 l3).objs.size=some _:=Heap.get?_push_of_some _ (Heap.get?_push_size _ rfl)
 have g4:(z3f s.heap l1 l2 l3).get? (z3c s.heap l1 l2 l3).objs.size=some _:=Heap.get?_push_of_some _ (Heap.get?_push_of_some _ (Heap.get?_push_size _ rfl))
 have g3:(z3f s.heap l1 l2 l3).get? (z3b s.heap l1 l2).objs.size=some _:=Heap.get?_push_of_some _ (Heap.get?_push_of_some _ (Heap.get?_push_of_some _ (Heap.get?_push_size _ rfl)))
 have g2:(z3f s.heap l1 l2 l3).get? (z3a s.heap l1).objs.size=some _:=Heap.get?_push_of_some _ (Heap.get?_push_of_some _ (Heap.get?_push_of_some _ (Heap.get?_push_of_some _ (Heap.get?_push_size _ rfl))))
 have g1:(z3f s.heap l1 l2 l3).get? s.heap.objs.size=some _:=Heap.get?_push_of_some _ (Heap.get?_push_of_some _ (Heap.get?_push_of_some _ (Heap.get?_push_of_some _ (Heap.get?_push_of_some _ (Heap.get?_push_size _ rfl)))))
 show _/\_
 rw [z3,z4,z5] at g6
 rw [z1,z2,z3] at g4
 rw [z4] at g5
 rw [z1] at g2
 rw [z2] at g3
 rw [z5]
 exact⟨⟨_,g6,rfl⟩,h _ g6 g4 g5 ⟨_,g1,rfl,rfl⟩ ⟨_,g2,rfl,rfl⟩ ⟨_,g3,rfl,rfl⟩ z6 fun c o x=>
  Heap.get?_push_of_some _ (Heap.get?_push_of_some _ (Heap.get?_push_of_some _ (Heap.get?_push_of_some _ (Heap.get?_push_of_some _ (Heap.get?_push_of_some _ x)))))⟩
end
def Itz3(K:PySem.W.Frag)(a b c:Addr):It:=
 ⟨fun i H=>∃(xs ys zs:List V) (x y z:V),SqL K H a xs/\SqL K H b ys/\SqL K H c zs/\xs[i]?=some x/\ys[i]?=some y/\zs[i]?=some z,
  fun i H v H'=>∃T x y z,v=.ref T/\H T=none/\H'=upd H T (.tup [x,y,z])/\(∀xs,SqL K H a xs->xs[i]?=some x)/\(∀ys,SqL K H b ys->ys[i]?=some y)/\∀zs,SqL K H c zs->zs[i]?=some z,
  fun i H=>∃xs ys zs:List V,SqL K H a xs/\SqL K H b ys/\SqL K H c zs/\xs.length<=i⟩
theorem oW{P:Program}{w:World}{K:PySem.W.Frag}{elts:List Expr}{kk:Nat}{tpos:Pos}{a b c z TI TO i1 i2 i3:Addr}(D:Zip3 z TI TO i1 i2 i3 a b c):
  Turn P w K (.Tuple elts kk tpos) (Itz3 K a b c) [z,TI,TO,i1,i2,i3] z (fun i h=>IsZip h z TI TO .none/\IsTri h TI (.ref i1) (.ref i2) (.ref i3)/\(∃x y v,IsTri h TO x y v)/\h.IsListIter i1 a i/\h.IsListIter i2 b i/\h.IsListIter i3 c i) where
 mem:=by simp
 obj:=fun i h st q hq=>by
  obtain⟨hz,hTI,⟨x,y,v,hTO⟩,⟨o1,e1,_,d1⟩,⟨o2,e2,_,d2⟩,⟨o3,e3,_,d3⟩⟩:=st
  have e':q=z\/q=TI\/q=TO\/q=i1\/q=i2\/q=i3:=by simpa using hq
  rcases e' with q |q |q |q |q |q
  ·rw [q];exact⟨_,hz,fun v q=>nomatch q⟩
  ·rw [q];exact⟨_,hTI,fun v q=>nomatch q⟩
  ·rw [q];exact⟨_,hTO,fun v q=>nomatch q⟩
  ·rw [q];exact⟨o1,e1,fun v q=>by rw [d1] at q;cases q⟩
  ·rw [q];exact⟨o2,e2,fun v q=>by rw [d2] at q;cases q⟩
  ·rw [q];exact⟨o3,e3,fun v q=>by rw [d3] at q;cases q⟩
 keep:=fun i h h' st k=>by
  obtain⟨hz,hTI,⟨x,y,v,hTO⟩,h1,h2,h3⟩:=st
  exact⟨k z (by simp) _ hz,k TI (by simp) _ hTI,⟨x,y,v,k TO (by simp) _ hTO⟩,h1.at fun o q=>k i1 (by simp) o q,h2.at fun o q=>k i2 (by simp) o q,h3.at fun o q=>k i3 (by simp) o q⟩
 item:=by
  intro X hP hw hK hc i pins s σ H E I hf st hg
  subst hP hw hK
  obtain⟨hz,hTI,⟨x0,y0,v0,hTO⟩,h1,h2,h3⟩:=st
  obtain⟨xs,ys,zs,x,y,v,hqx,hqy,hqz,hx,hy,hv⟩:=hg
  obtain⟨its,rv,p,_⟩:=I.list hqx
  obtain⟨its2,rv2,p2,_⟩:=I.list hqy
  obtain⟨its3,rv3,p3,_⟩:=I.list hqz
  obtain⟨u,hu,ru⟩:=rv.get hx
  obtain⟨u2,hu2,ru2⟩:=rv2.get hy
  obtain⟨u3,hu3,ru3⟩:=rv3.get hv
  have hzl:z<s.heap.objs.size:=Heap.lt_size hz
  refine iZ D hz hTI hTO h1 h2 h3 p.isList p2.isList p3.isList (x:=u) (y:=u2) (v:=u3) (by simpa using hu) (by simpa using hu2) (by simpa using hu3) fun h' z' TO' h1' h2' h3' hT hsz hk=>?_
  refine⟨_,rfl,wpAny_letOwnedTupleGo_zip (s:={s with heap:=h'}) z' fun h'' z'' sb=>?_⟩
  have hT2:h''.get? s.heap.objs.size=some {cls:=.type "tuple",data:=.seq #[u,u2,u3]}:=(sb.2 _ (Nat.ne_of_gt hzl)).trans hT
  have new:ObjOk X.prog X.w (upd H s.heap.objs.size (.tup [x,y,v])) h'' s.heap.objs.size (.tup [x,y,v]):=
   ⟨by show 3<=sizeLine;decide,[u,u2,u3],.cons ru (.cons ru2 (.cons ru3 .nil)),⟨_,hT2,rfl,_,rfl⟩⟩
  have hmem:∀q:Addr,q∉[z,TI,TO,i1,i2,i3]->q∉[z,TO,i1,i2,i3]:=fun q hq hm=>hq (by
   simp only [List.mem_cons,List.not_mem_nil,or_false] at hm ⊢
   rcases hm with e |e |e |e |e
   ·exact .inl e
   ·exact .inr (.inr (.inl e))
   ·exact .inr (.inr (.inr (.inl e)))
   ·exact .inr (.inr (.inr (.inr (.inl e))))
   ·exact .inr (.inr (.inr (.inr (.inr e)))))
  have I1:Inv X pins σ (upd H s.heap.objs.size (.tup [x,y,v])) {s with heap:=h''}:=
   I.turnedNew (t':=s.toks) (ch:=[z,TI,TO,i1,i2,i3]) (fun q o hb e=>(sb.2 q (fun q'=>hb (by simp [q']))).trans (hk q o (hmem q hb) e)) hf (Nat.le_refl _) new
  have nd:=D.nd
  simp only [List.nodup_cons,List.mem_cons,List.not_mem_nil,or_false,not_or,List.nodup_nil,and_true,not_false_eq_true] at nd
  obtain⟨⟨zTI,zTO,zi1,zi2,zi3⟩,⟨TITO,TIi1,TIi2,TIi3⟩,⟨TOi1,TOi2,TOi3⟩,⟨i12,i13⟩,i23⟩:=nd
  refine⟨.ref s.heap.objs.size,_,I1,rfl,⟨_,x,y,v,rfl,I.hok.fresh (Nat.le_refl _),rfl,fun l hl=>by rw [I.list_inj hl hqx];exact hx,fun l hl=>by rw [I.list_inj hl hqy];exact hy,fun l hl=>by rw [I.list_inj hl hqz];exact hv⟩,⟨z'',?_,⟨u,u2,u3,?_⟩,?_,?_,?_⟩,fun q hcm=>?_⟩
  ·exact (sb.2 _ (Ne.symm zTI)).trans (hk _ _ (by simp only [List.mem_cons,List.not_mem_nil,or_false,not_or];exact⟨Ne.symm zTI,TITO,TIi1,TIi2,TIi3⟩) hTI)
  ·exact (sb.2 _ (Ne.symm zTO)).trans TO'
  ·exact h1'.at fun o q=>(sb.2 _ (Ne.symm zi1)).trans q
  ·exact h2'.at fun o q=>(sb.2 _ (Ne.symm zi2)).trans q
  ·exact h3'.at fun o q=>(sb.2 _ (Ne.symm zi3)).trans q
  ·have hlt:q<s.heap.objs.size:=by
    have e':q=z\/q=TI\/q=TO\/q=i1\/q=i2\/q=i3:=by simpa using hcm
    rcases e' with q |q |q |q |q |q
    ·rw [q];exact hzl
    ·rw [q];exact Heap.lt_size hTI
    ·rw [q];exact Heap.lt_size hTO
    ·rw [q];obtain⟨_,e1,_⟩:=h1;exact Heap.lt_size e1
    ·rw [q];obtain⟨_,e2,_⟩:=h2;exact Heap.lt_size e2
    ·rw [q];obtain⟨_,e3,_⟩:=h3;exact Heap.lt_size e3
   rw [aM (Nat.ne_of_lt hlt)]
   exact (hf q hcm).1
 done:=by
  intro X hP hw hK hc i pins s σ H E I hf st hg
  subst hP hw hK
  obtain⟨hz,hTI,⟨x0,y0,v0,hTO⟩,h1,h2,h3⟩:=st
  obtain⟨xs,ys,zs,hqx,hqy,hqz,hend⟩:=hg
  obtain⟨its,rv,p,_⟩:=I.list hqx
  have l1:=rv.length
  refine jy (k2:=0) (k3:=0) (ys:=#[]) (zs:=#[]) (I.ok.hd hc) D hz hTI hTO h1 p.isList (by simp;omega) fun h' hk=>⟨rfl,I.turnedL (t':=s.toks) (ch:=[z,TI,TO,i1,i2,i3]) (fun q o hb e=>hk q o (fun hm=>hb ?_) e) hf⟩
  simp only [List.mem_cons,List.not_mem_nil,or_false] at hm ⊢
  rcases hm with e |e |e |e |e
  ·exact .inl e
  ·exact .inr (.inr (.inl e))
  ·exact .inr (.inr (.inr (.inl e)))
  ·exact .inr (.inr (.inr (.inr (.inl e))))
  ·exact .inr (.inr (.inr (.inr (.inr e))))
 self:=fun A i s Q E st h=>wpAny_pyIter_zip st.1 h
inductive oi(K:PySem.W.Frag)(vs:List V)(H1:Hp)(R:It->Hp->Prop):Prop
 |mk:∀a b c xs ys zs,(vs=[.ref a,.ref b,.ref c])->(SqL K H1 a xs)->(SqL K H1 b ys)->(SqL K H1 c zs)->(R (Itz3 K a b c) H1)->oi K vs H1 R
def iZip3(K:PySem.W.Frag)(ta:TA):TI:=fun σ H R=>ta σ H fun vs H1=>oi K vs H1 R
theorem mM(n a b c:Nat)(ha:a<n)(hb:b<n)(hc:c<n):Zip3 (n+5) (n+3) (n+4) n (n+1) (n+2) a b c:=by
 have k:∀x:Nat,x<n->¬x∈([n+5,n+4,n,n+1,n+2]:List Nat):=fun x hx=>by
  simp only [List.mem_cons,List.not_mem_nil,or_false,not_or];omega
 have m:([n+5,n+3,n+4,n,n+1,n+2]:List Nat).Nodup:=by
  simp only [List.nodup_cons,List.mem_cons,List.not_mem_nil,or_false,not_or,List.nodup_nil,and_true,not_false_eq_true];omega
 exact⟨m,k a ha,k b hb,k c hc⟩
theorem uk{X:Cx}{e e2 e3:Expr}{ta:TA}{p pos tpos:Pos}{elts:List Expr}{kk:Nat}(hg:Gl X "zip")(hm:X.mg "zip"=none)(ha:PA X [e,e2,e3] ta)
  (hs:starEach [e,e2,e3] X.env=(false,eval e X.env)::starEach [e2,e3] X.env:=by rfl) (hpl:(backTo pos (starEach [e2,e3] X.env)).any (·.1)=false:=by rfl):
  PI X (.Tuple elts kk tpos) (.Call (.Name "zip" p) [e,e2,e3] [] pos) (iZip3 X.K ta):=by
 intro pins s σ H R I h
 refine Call_ (eG I hg hm jH (PyProof.Rows.callWith_type1 (thn (ha pos pins s σ H _ I h) fun us s1 ⟨vs,H1,I1,r1,q1⟩=>?_) hs hpl))
 obtain⟨a,b,c,xs,ys,zs,ex,hqx,hqy,hqz,q⟩:=q1
 subst ex
 cases r1 with
 |cons r rr=>
  cases rr with
  |cons r' rr=>
   cases rr with
   |cons r'' rr=>
    cases rr
    cases r
    cases r'
    cases r''
    obtain⟨its,rv,p1,_⟩:=I1.list hqx
    obtain⟨its2,rv2,p2,_⟩:=I1.list hqy
    obtain⟨its3,rv3,p3,_⟩:=I1.list hqz
    have la:a<s1.heap.objs.size:=p1.lt
    have lb:b<s1.heap.objs.size:=p2.lt
    have lc:c<s1.heap.objs.size:=p3.lt
    refine nj p1.isList p2.isList p3.isList fun h' hz hTI hTO h1 h2 h3 hsz hk=>wpAny_pyIter_zip hz ?_
    have I2:Inv X pins σ H1 {s1 with heap:=h'}:=I1.kept (t':=s1.toks) hk
    refine⟨s1.heap.objs.size+5,[s1.heap.objs.size+5,s1.heap.objs.size+3,s1.heap.objs.size+4,s1.heap.objs.size,s1.heap.objs.size+1,s1.heap.objs.size+2],_,_,H1,rfl,I2,oW (mM s1.heap.objs.size a b c la lb lc),⟨hz,hTI,⟨_,_,_,hTO⟩,h1,h2,h3⟩,fun q hcm=>?_,q⟩
    have hle:s1.heap.objs.size<=q:=by
     simp only [List.mem_cons,List.not_mem_nil,or_false] at hcm
     rcases hcm with z |z |z |z |z |z
     ·rw [z];exact Nat.le_add_right _ _
     ·rw [z];exact Nat.le_add_right _ _
     ·rw [z];exact Nat.le_add_right _ _
     ·rw [z];exact Nat.le_refl _
     ·rw [z];exact Nat.le_add_right _ _
     ·rw [z];exact Nat.le_add_right _ _
    exact I1.fpOk hle (I1.hok.fresh hle)
theorem tf{K:PySem.W.Frag}{a b c:Addr}{xs ys zs:List V}{g:TG}{tb:TS}{D:Ends}{σ:L2.St}{H:Hp}(Pv:Nat->L2.St->Hp->Prop)(h0:Pv 0 σ H)(l1:ys.length=xs.length)(l2:zs.length=xs.length)
  (hl:∀i σ H,i<=xs.length->Pv i σ H->SqL K H a xs/\SqL K H b ys/\SqL K H c zs)
  (hb:∀i σ H x y z T,xs[i]?=some x->ys[i]?=some y->zs[i]?=some z->Pv i σ H->H T=none->g (.ref T) σ (upd H T (.tup [x,y,z])) fun σ2 H2=>tb {D with nx:=Pv (i+1),ct:=Pv (i+1),bk:=D.nx} σ2 H2)
  (he:∀σ H,Pv xs.length σ H->D.nx σ H):
  ∃W:Nat->Nat->L2.St->Hp->Prop,(∃m,W 0 m σ H)/\∀i m σ H,W i m σ H->
   ((Itz3 K a b c).stop i H/\D.nx σ H)\/((Itz3 K a b c).go i H/\∃N:L2.St->Hp->Prop,(∀σ' H',N σ' H'->∃m',m'<m/\W (i+1) m' σ' H')/\∀x H',(Itz3 K a b c).yld i H x H'->g x σ H' fun σ2 H2=>tb {D with nx:=N,ct:=N,bk:=D.nx} σ2 H2):=by
 refine⟨fun i m σ H=>i<=xs.length/\m=xs.length-i/\Pv i σ H,⟨_,Nat.zero_le _,rfl,h0⟩,fun i m σ H ⟨hi,hm,hp⟩=>?_⟩
 obtain⟨q1,q2,q3⟩:=hl i σ H hi hp
 by_cases e:i=xs.length
 ·refine .inl ⟨⟨xs,ys,zs,q1,q2,q3,by omega⟩,he σ H ?_⟩
  rw [<-e];exact hp
 ·have hlt:i<xs.length:=by omega
  have gx:=List.getElem?_eq_getElem hlt
  have gy:=List.getElem?_eq_getElem (show i<ys.length by omega)
  have gz:=List.getElem?_eq_getElem (show i<zs.length by omega)
  refine .inr ⟨⟨xs,ys,zs,_,_,_,q1,q2,q3,gx,gy,gz⟩,Pv (i+1),fun σ' H' n=>⟨_,?_,hlt,rfl,n⟩,?_⟩
  ·rw [hm];omega
  ·rintro x H' ⟨T,x',y',z',rfl,hT,rfl,h1,h2,h3⟩
   exact hb i σ H x' y' z' T (h1 xs q1) (h2 ys q2) (h3 zs q3) hp hT
end L3
end
section
namespace L3
open PySem PySem.Spec PyProof.Rows L2
def tupObj(a b:Int)(t u:Tok):Obj:={cls:=.type "tuple",data:=.seq #[.int a t,.int b u]}
def sortsObj(k1 k2 k3 k4 k5 k6:Addr)(t1 t2 t3 t4 t5 t6:Tok):Obj:=
 {cls:=.type "dict",data:=.dict #[⟨6535529247351633190,.ref k1,.int 0 t1⟩,⟨4441010326549070729,.ref k2,.int 1 t2⟩,⟨7720246989821390543,.ref k3,.int 2 t3⟩,
   ⟨-2388111286587220263,.ref k4,.int 3 t4⟩,⟨6289820568568760549,.ref k5,.int 4 t5⟩,⟨-310865921662558227,.ref k6,.int 5 t6⟩] 6}
structure SortsIn(K:PySem.W.Frag)(a:Addr):Prop where
 ex:∃(k1 k2 k3 k4 k5 k6:Addr) (t1 t2 t3 t4 t5 t6 u1 u2 u3 u4 u5 u6 v1 v2 v3 v4 v5 v6:Tok),K.lookup a=some (sortsObj k1 k2 k3 k4 k5 k6 t1 t2 t3 t4 t5 t6)/\
  K.lookup k1=some (tupObj 65 85 u1 v1)/\K.lookup k2=some (tupObj 67 71 u2 v2)/\K.lookup k3=some (tupObj 71 67 u3 v3)/\
  K.lookup k4=some (tupObj 71 85 u4 v4)/\K.lookup k5=some (tupObj 85 65 u5 v5)/\K.lookup k6=some (tupObj 85 71 u6 v6)
 ns:(a==sysModules)=false
def kk(a b:Int):List Key:=[Sum.inl a,Sum.inl b]
def sortsKvs:List (List Key × V):=[(kk 65 85,.int 0),(kk 67 71,.int 1),(kk 71 67,.int 2),(kk 71 85,.int 3),(kk 85 65,.int 4),(kk 85 71,.int 5)]
theorem uJ{kvs:List (List Key × V)}{xs:List (List Key × Addr × Value)}(r:Paired (fun (p:List Key × V) (q:List Key × Addr × Value)=>p.1=q.1/\RelV p.2 q.2.2) kvs xs)(k:List Key):RelO (valV kvs k) ((atKey xs k).map (·.2)):=by
 induction r with
 |nil=>exact True.intro
 |@cons p q ps qs h t ih=>
  obtain⟨h1,h2⟩:=h
  by_cases e:p.1=k
  ·have e':q.1=k:=h1.symm.trans e
   have b:atKey (q::qs) k=some q.2:=by simp [atKey,List.find?_cons,e']
   rw [lV e,b];exact h2
  ·have e':¬q.1=k:=fun z=>e (h1.trans z)
   have b:atKey (q::qs) k=atKey qs k:=by simp [atKey,List.find?_cons,e']
   rw [lZ e,b];exact ih
theorem eR{P:Program}{w:World}{h:Heap}{a:Addr}{x y:Int}{t u:Tok}(e:h.get? a=some (tupObj x y t u)):(tupleKind (mixKind P w)).is h (kk x y) a:=
 ⟨_,_,_,e,rfl,rfl,.cons (eE P w x t) (.cons (eE P w y u) .nil)⟩
theorem SortsIn.dict{P:Program}{w:World}{K:PySem.W.Frag}{a:Addr}{h:Heap}(S:SortsIn K a)(X:K.In h):∃xs,Paired (fun (p:List Key × V) (q:List Key × Addr × Value)=>p.1=q.1/\RelV p.2 q.2.2) sortsKvs xs/\h.DictOfH (tupleKind (mixKind P w)) a xs:=by
 obtain⟨k1,k2,k3,k4,k5,k6,t1,t2,t3,t4,t5,t6,u1,u2,u3,u4,u5,u6,v1,v2,v3,v4,v5,v6,e0,e1,e2,e3,e4,e5,e6⟩:=S.ex
 refine⟨[(kk 65 85,k1,.int 0 t1),(kk 67 71,k2,.int 1 t2),(kk 71 67,k3,.int 2 t3),(kk 71 85,k4,.int 3 t4),(kk 85 65,k5,.int 4 t5),(kk 85 71,k6,.int 5 t6)],?_,?_⟩
 ·exact .cons ⟨rfl,_,rfl⟩ (.cons ⟨rfl,_,rfl⟩ (.cons ⟨rfl,_,rfl⟩ (.cons ⟨rfl,_,rfl⟩ (.cons ⟨rfl,_,rfl⟩ (.cons ⟨rfl,_,rfl⟩ .nil)))))
 ·refine⟨_,_,_,X a _ e0,⟨rfl,rfl,rfl⟩,rfl,?_,?_,?_⟩
  ·kernel_rfl
  ·intro x hx
   simp only [List.mem_cons,List.not_mem_nil,or_false] at hx
   rcases hx with rfl |rfl |rfl |rfl |rfl |rfl
   ·exact eR (X _ _ e1)
   ·exact eR (X _ _ e2)
   ·exact eR (X _ _ e3)
   ·exact eR (X _ _ e4)
   ·exact eR (X _ _ e5)
   ·exact eR (X _ _ e6)
  ·show ([kk 65 85,kk 67 71,kk 71 67,kk 71 85,kk 85 65,kk 85 71]:List (List Key)).Nodup
   decide
section
variable {X:Cx}{o e f:Expr}{apos cpos:Pos}{td ty tx:TE}
inductive l9(Q:VK)(y z:V)(H3:Hp):Prop
 |mk:∀i j b,(y=.ref b)->(H3 b=some (.tup [.int i,.int j]))->(Q ((valV sortsKvs (kk i j)).getD z) H3)->l9 Q y z H3
def tSorts(aS:Addr)(td ty tx:TE):TE:=fun σ H Q=>td σ H fun x H1=>x=.ref aS/\ty σ H1 fun y H2=>tx σ H2 fun z H3=>l9 Q y z H3
theorem qj{aS:Addr}(S:SortsIn X.K aS)(hu:X.A.units+1<cLine)(ho:PE X o td)(he:PE X e ty)(hf:PE X f tx)(m:M2 X o "get" apos e f cpos):PE X (.Call (.Attribute o "get" apos) [e,f] [] cpos) (tSorts aS td ty tx):=by
 intro pins s σ H Q I h
 refine wpAny_Call_method m.base m.few m.line PySem.F.plainAttrs_dict PySem.F.slot_dict_get PySem.F.type_dict_get (thn (ho pins s σ H _ I h) fun u s1 ⟨x,H1,I1,rx,ex,q1⟩=>?_)
 subst ex
 obtain rfl:u=Value.ref aS:=rx
 obtain⟨xs,rel,dd⟩:=S.dict (P:=X.prog) (w:=X.w) I1.kIn
 refine⟨dd.typeIs,fun b q=>?_,?_⟩
 ·cases q
  obtain⟨ob,_,_,h1,h2,_⟩:=dd
  exact⟨ob,h1,h2.2.1⟩
 rw [m.trees]
 refine Calls.callWith_builtin rfl (Calls.evalArgs_plain (Calls.spliced_cons (thn (he pins s1 σ H1 _ I1 q1) fun iv s2 ⟨y,H2,I2,ry,q2⟩=>
  Calls.spliced_cons (thn (hf pins s2 σ H2 _ I2 q2) fun fv s3 ⟨z,H3,I3,rz,i,j,b,ey,eb,q3⟩=>Calls.spliced_nil ?_))))
 subst ey
 cases (show iv=Value.ref b from ry)
 obtain⟨xs,rel,dd⟩:=S.dict (P:=X.prog) (w:=X.w) I3.kIn
 refine call_meetsIn PySem.F.slot_dict_get dd.typeIs PySem.F.entry_dict_get (PySem.F.args_dict_get_3 _ _ _) (meetsH_dict_get_default (tupleKind (mixKind X.prog X.w)) aS b S.ns fv) ⟨tupleKind_room_in1 hu,kk i j,xs,uM I3.hok eb,dd,?_⟩
 exact⟨_,H3,I3.tok _,(uJ rel (kk i j)).getD rz,q3⟩
end
theorem pD(i j:Int):(valV sortsKvs (kk i j)).getD (.int (-1))=V.int (Fs.sortsGet i j):=by
 have key:∀(a b:Int) (v:V) (r:List (List Key × V)),valV ((kk a b,v)::r) (kk i j)=if i=a/\j=b then some v else valV r (kk i j):=fun a b v r=>by
  by_cases e:i=a/\j=b
  ·rw [if_pos e,lV (by show kk a b=kk i j;rw [e.1,e.2])]
  ·rw [if_neg e,lZ]
   intro q
   have q':kk a b=kk i j:=q
   unfold kk at q'
   injection q' with q1 q2
   injection q2 with q2 _
   injection q1 with q1
   injection q2 with q2
   exact e ⟨q1.symm,q2.symm⟩
 unfold sortsKvs Fs.sortsGet
 rw [key,key,key,key,key,key]
 split
 ·rfl
 ·split
  ·rfl
  ·split
   ·rfl
   ·split
    ·rfl
    ·split
     ·rfl
     ·split
      ·rfl
      ·rfl
end L3
end
section
namespace L3
open PySem PySem.Spec PyProof.Rows L2
theorem sM{K:PySem.W.Frag}{a b:Addr}{xs ys:List V}{g:TG}{tt:TT}{te:TE}{vs:List Nat}{σ:L2.St}{H1:Hp}{D:Addr}{Qd:Hp->Prop}(Pv:Nat->Hp->Prop)(h0:Pv 0 (upd H1 D (.lst [])))(hl:∀i H,i<=xs.length->i<=ys.length->Pv i H->SqL K H a xs/\SqL K H b ys)
  (hs:∀i x y T H,xs[i]?=some x->ys[i]?=some y->Pv i H->H T=none->g (.ref T) (wipe σ vs) (upd H T (.tup [x,y])) fun σ2 H2=>wipe σ2 vs=wipe σ vs/\tt σ2 H2 fun b H3=>
   if b=true then te σ2 H3 fun y H4=>∃acc,H4 D=some (.lst acc)/\acc.length<sizeLine/\Pv (i+1) (upd H4 D (.lst (acc++[y]))) else Pv (i+1) H3) (hd:∀H,Pv (min xs.length ys.length) H->Qd H):
  ∃W:Nat->Nat->Hp->Prop,(∃m,W 0 m (upd H1 D (.lst [])))/\∀i m H,W i m H->
   ((Itz K a b).stop i H/\Qd H)\/((Itz K a b).go i H/\∃Nx:Hp->Prop,(∀H',Nx H'->∃m',m'<m/\W (i+1) m' H')/\∀x H',(Itz K a b).yld i H x H'->g x (wipe σ vs) H' fun σ2 H2=>wipe σ2 vs=wipe σ vs/\tt σ2 H2 fun b H3=>
    if b=true then te σ2 H3 fun y H4=>∃acc,H4 D=some (.lst acc)/\acc.length<sizeLine/\Nx (upd H4 D (.lst (acc++[y]))) else Nx H3):=by
 refine⟨fun i m H=>m=min xs.length ys.length-i/\i<=min xs.length ys.length/\Pv i H,⟨min xs.length ys.length,by simp,Nat.zero_le _,h0⟩,?_⟩
 rintro i m H ⟨rfl,hi,p⟩
 obtain⟨q1,q2⟩:=hl i H (by omega) (by omega) p
 by_cases hlt:i<min xs.length ys.length
 ·have l1:i<xs.length:=by omega
  have l2:i<ys.length:=by omega
  refine .inr ⟨⟨xs,ys,xs[i],ys[i],q1,q2,by simp [l1],by simp [l2]⟩,Pv (i+1),fun H' p'=>⟨min xs.length ys.length-(i+1),by omega,rfl,hlt,p'⟩,fun x H' z=>?_⟩
  obtain⟨T,x',y',e1,hT,e2,z1,z2⟩:=z
  subst e1 e2
  exact hs i x' y' T H (z1 xs q1) (z2 ys q2) p hT
 ·have e:i=min xs.length ys.length:=by omega
  subst e
  exact .inl ⟨⟨xs,ys,q1,q2,by omega⟩,hd H p⟩
theorem uw{K:PySem.W.Frag}{a:Addr}{xs:List V}{g:TG}{tt:TT}{te:TE}{vs:List Nat}{σ:L2.St}{H1:Hp}{D:Addr}{Qd:Hp->Prop}(Pv:Nat->Hp->Prop)(h0:Pv 0 (upd H1 D (.lst [])))(hl:∀i H,i<=xs.length->Pv i H->SqL K H a xs)
  (hs:∀i x T H,xs[i]?=some x->Pv i H->H T=none->g (.ref T) (wipe σ vs) (upd H T (.tup [.int (i:Nat),x])) fun σ2 H2=>wipe σ2 vs=wipe σ vs/\tt σ2 H2 fun b H3=>
   if b=true then te σ2 H3 fun y H4=>∃acc,H4 D=some (.lst acc)/\acc.length<sizeLine/\Pv (i+1) (upd H4 D (.lst (acc++[y]))) else Pv (i+1) H3) (hd:∀H,Pv xs.length H->Qd H):
  ∃W:Nat->Nat->Hp->Prop,(∃m,W 0 m (upd H1 D (.lst [])))/\∀i m H,W i m H->
   ((Ite K a).stop i H/\Qd H)\/((Ite K a).go i H/\∃Nx:Hp->Prop,(∀H',Nx H'->∃m',m'<m/\W (i+1) m' H')/\∀x H',(Ite K a).yld i H x H'->g x (wipe σ vs) H' fun σ2 H2=>wipe σ2 vs=wipe σ vs/\tt σ2 H2 fun b H3=>
    if b=true then te σ2 H3 fun y H4=>∃acc,H4 D=some (.lst acc)/\acc.length<sizeLine/\Nx (upd H4 D (.lst (acc++[y]))) else Nx H3):=by
 refine⟨fun i m H=>m=xs.length-i/\i<=xs.length/\Pv i H,⟨xs.length,by simp,Nat.zero_le _,h0⟩,?_⟩
 rintro i m H ⟨rfl,hi,p⟩
 have q:=hl i H hi p
 by_cases hlt:i<xs.length
 ·refine .inr ⟨⟨xs,xs[i],q,by simp [hlt]⟩,Pv (i+1),fun H' p'=>⟨xs.length-(i+1),by omega,rfl,hlt,p'⟩,fun x H' z=>?_⟩
  obtain⟨T,x',e1,hT,e2,z⟩:=z
  subst e1 e2
  exact hs i x' T H (z xs q) p hT
 ·have e:i=xs.length:=by omega
  subst e
  exact .inl ⟨⟨xs,q,Nat.le_refl _⟩,hd H p⟩
theorem lj{K:PySem.W.Frag}{a:Addr}{xs:List V}{g:TG}{tb:TS}{D:Ends}{σ:L2.St}{H:Hp}(Pv:Nat->L2.St->Hp->Prop)(h0:Pv 0 σ H)(hl:∀i σ H,i<=xs.length->Pv i σ H->SqL K H a xs)
  (hs:∀i x T σ H,xs[i]?=some x->Pv i σ H->H T=none->g (.ref T) σ (upd H T (.tup [.int (i:Nat),x])) fun σ2 H2=>tb {D with nx:=Pv (i+1),ct:=Pv (i+1),bk:=D.nx} σ2 H2) (hd:∀σ H,Pv xs.length σ H->D.nx σ H):
  ∃W:Nat->Nat->L2.St->Hp->Prop,(∃m,W 0 m σ H)/\∀i m σ H,W i m σ H->
   ((Ite K a).stop i H/\D.nx σ H)\/((Ite K a).go i H/\∃N:L2.St->Hp->Prop,(∀σ' H',N σ' H'->∃m',m'<m/\W (i+1) m' σ' H')/\∀x H',(Ite K a).yld i H x H'->g x σ H' fun σ2 H2=>tb {D with nx:=N,ct:=N,bk:=D.nx} σ2 H2):=by
 refine⟨fun i m σ H=>m=xs.length-i/\i<=xs.length/\Pv i σ H,⟨xs.length,by simp,Nat.zero_le _,h0⟩,?_⟩
 rintro i m σ H ⟨rfl,hi,p⟩
 have q:=hl i σ H hi p
 by_cases hlt:i<xs.length
 ·refine .inr ⟨⟨xs,xs[i],q,by simp [hlt]⟩,Pv (i+1),fun σ' H' p'=>⟨xs.length-(i+1),by omega,rfl,hlt,p'⟩,fun x H' z=>?_⟩
  obtain⟨T,x',e1,hT,e2,z⟩:=z
  subst e1 e2
  exact hs i x' T σ H (z xs q) p hT
 ·have e:i=xs.length:=by omega
  subst e
  exact .inl ⟨⟨xs,q,Nat.le_refl _⟩,hd σ H p⟩
section
variable {X:Cx}{i j k:Nat}{x y z:Str}{px py pz pos:Pos}{kk:Nat}
theorem dz(K:PySem.W.Frag)(hK:X.K=K)(hc:X.calm=true)(hN:X.N.Nodup)(hi:X.N[i]?=some x)(hj:X.N[j]?=some y)(hx:Loc X.env.scope x)(hy:Loc X.env.scope y)(fx:X.fn x=true\/X.env.scope.names.lookup x=some .local)(fy:X.fn y=true\/X.env.scope.names.lookup y=some .local):
  PG X (.Tuple [.Name x px,.Name y py] kk pos) (gTup K 2 (gCons (gName i) (gCons (gName j) gNil))):=by
 rw [<-hK]
 exact qh hc (dW (bb hN hi hx fx) (dW (bb hN hj hy fy) ot))
theorem rQ(K:PySem.W.Frag)(hK:X.K=K)(hc:X.calm=true)(hN:X.N.Nodup)(hi:X.N[i]?=some x)(hj:X.N[j]?=some y)(hk:X.N[k]?=some z)(hx:Loc X.env.scope x)(hy:Loc X.env.scope y)(hz:Loc X.env.scope z)
  (fx:X.fn x=true\/X.env.scope.names.lookup x=some .local) (fy:X.fn y=true\/X.env.scope.names.lookup y=some .local) (fz:X.fn z=true\/X.env.scope.names.lookup z=some .local):
  PG X (.Tuple [.Name x px,.Name y py,.Name z pz] kk pos) (gTup K 3 (gCons (gName i) (gCons (gName j) (gCons (gName k) gNil)))):=by
 rw [<-hK]
 exact qh hc (dW (bb hN hi hx fx) (dW (bb hN hj hy fy) (dW (bb hN hk hz fz) ot)))
theorem cE(K:PySem.W.Frag)(hK:X.K=K):IxR X (rIxL K):=hK ▸ au
theorem ue(K:PySem.W.Frag)(hK:X.K=K):IxR X (rIxT K):=hK ▸ aJ
theorem vq(K:PySem.W.Frag)(hK:X.K=K):OpR X (compareOp .In) (rIn K false):=hK ▸ pE
theorem kT(K:PySem.W.Frag)(hK:X.K=K){e:Expr}{f:Str}{ta:TE}(he:PE X e ta)(hb:attributeBase e f X.env (eval e X.env)=eval e X.env):PE X (.Attribute e f pos) (tFld K ta f):=by
 rw [<-hK];exact ah he hb
end
def LcP(H1:Hp)(D:Addr)(F:Nat->List V)(i:Nat)(H:Hp):Prop:=Same H1 H/\H D=some (.lst (F i))
theorem LcP.zero{H1:Hp}{D:Addr}{F:Nat->List V}(hD:H1 D=none)(h:F 0=[]):LcP H1 D F 0 (upd H1 D (.lst [])):=
 ⟨fun b o e=>by rw [aM (aD e hD)];exact e,by rw [h];exact ae⟩
theorem LcP.put{H1 H4:Hp}{D:Addr}{F:Nat->List V}{i:Nat}{y:V}(hD:H1 D=none)(s:Same H1 H4)(hx:H4 D=some (.lst (F i)))(hl:(F i).length<sizeLine)(e:F (i+1)=F i++[y]):
  ∃acc,H4 D=some (.lst acc)/\acc.length<sizeLine/\LcP H1 D F (i+1) (upd H4 D (.lst (acc++[y]))):=
 ⟨_,hx,hl,fun b o q=>by rw [aM (aD q hD)];exact s b o q,by rw [e];exact ae⟩
theorem LcP.skip{H1 H4:Hp}{D:Addr}{F:Nat->List V}{i:Nat}(s:Same H1 H4)(hx:H4 D=some (.lst (F i)))(e:F (i+1)=F i):LcP H1 D F (i+1) H4:=⟨s,by rw [e];exact hx⟩
theorem take_snoc{α:Type}:∀{l:List α} {i:Nat} {x:α},l[i]?=some x->l.take (i+1)=l.take i++[x]
 |[],i,x,h=>by simp at h
 |a::l,0,x,h=>by
  have e:a=x:=Option.some.inj h
  subst e
  rfl
 |a::l,i+1,x,h=>by
  have ih:=take_snoc (l:=l) (i:=i) (x:=x) h
  show a::l.take (i+1)=a::l.take i++[x]
  rw [ih]
  rfl
theorem cg{l:List Int}{i:Nat}{x:V}(h:(l.map V.int)[i]?=some x):∃z,l[i]?=some z/\x=V.int z:=by
 rw [List.getElem?_map] at h
 cases e:l[i]? with
 |none=>rw [e] at h;cases h
 |some z=>rw [e] at h;exact⟨z,rfl,(Option.some.inj h).symm⟩
end L3
end
section
namespace Pg
open PySem PySem.Spec PyProof.Rows L2 L3
def top(i:Nat):Stmt:=PySem.Challenge.pw_foldedstrand_s01_answers.main.body.getD i (.Pass ⟨0,0,0,0⟩)
abbrev vi(l:List Int):List V:=l.map V.int
def Tup2(H:Hp)(p:Addr)(v:Int × Int):Prop:=H p=some (.tup [.int v.1,.int v.2])
structure Txt(K:PySem.W.Frag)(mg:Str->Option Value)(aS aL aG:Addr):Prop where
 longest:∃t,mg "LONGEST"=some (.int 100 t)
 nearest:∃t,mg "NEAREST"=some (.int 4 t)
 far:∃t,mg "FAR"=some (.int 1000000000 t)
 largest:∃t,mg "LARGEST"=some (.int 10000 t)
 modulus:∃t,mg "MODULUS"=some (.int 1000000007 t)
 opened:∃t,mg "OPENED"=some (.int 40 t)
 closed:∃t,mg "CLOSED"=some (.int 41 t)
 dot:∃t,mg "DOT"=some (.int 46 t)
 costs:∃t,mg "COSTS"=some (.int 1 t)
 cost:∃t,mg "COST"=some (.int 2 t)
 best:∃t,mg "BEST"=some (.int 3 t)
 count:∃t,mg "COUNT"=some (.int 4 t)
 sorts:mg "SORTS"=some (.ref aS)
 sortsIn:SortsIn K aS
 letters:mg "LETTERS"=some (.ref aL)
 lettersIn:∀H,SqT K H aL (vi [65,67,71,85])
 signs:mg "SIGNS"=some (.ref aG)
 signsIn:∀H,SqT K H aG (vi [40,41,46])
 len:mg "len"=none
 all:mg "all"=none
 sum:mg "sum"=none
 min:mg "min"=none
 range:mg "range"=none
 zip:mg "zip"=none
 enum:mg "enumerate"=none
structure Fn(P:Program)(w:World)(K:PySem.W.Frag)(mg:Str->Option Value)(base:Heap)(k:Nat)(x:Str)(ps:List Str)(sp:Sp):Prop where
 ex:∃(f:Addr) (fd:FuncData),mg x=some (.ref f)/\PySem.W.keepIn K (.ref f)=true/\Binds K fd ps []/\FnOk P w K mg base CX0 k f fd ps sp
structure Mt(P:Program)(w:World)(K:PySem.W.Frag)(mg:Str->Option Value)(base:Heap)(k:Nat)(C:Addr)(m:Str)(ps:List Str)(sp:Sp):Prop where
 cl:Cls K C
 ex:∃(f:Addr) (fd:FuncData),Meth K C m f/\Binds K fd ps []/\FnOk P w K mg base CX0 k f fd ps sp
structure Mc(P:Program)(w:World)(K:PySem.W.Frag)(mg:Str->Option Value)(base:Heap)(k:Nat)(x:Str)(C:Addr)(ps:List Str)(sp:Sp):Prop where
 nm:mg x=some (.ref C)
 ex:∃(f:Addr) (fd:FuncData),Mk K C f/\Binds K fd ps []/\FnOk P w K mg base CX0 k f fd ps sp
section
variable {X:Cx}{k:Nat}{x m:Str}{ps:List Str}{sp:Sp}{C:Addr}{e o:Expr}{es:List Expr}{t:TA}{ta:TE}{p pos apos:Pos}
theorem aW(F:Fn X.prog X.w X.K X.mg X.base k x ps sp)(hr:Room k X.A)(ha:PA X (e::es) t)(hg:Gl X x:=by rfl)(hdb:(x==("__debug__":Str))=false:=by decide)
  (he:starEach (e::es) X.env=(false,eval e X.env)::starEach es X.env:=by rfl) (hpl:(backTo pos (starEach es X.env)).any (·.1)=false:=by rfl):PE X (.Call (.Name x p) (e::es) [] pos) (tCall sp [] E0 t):=by
 obtain⟨f,fd,hm,hk,hb,ok⟩:=F.ex
 exact uu ok hr hg hm hk hb .nil pass0 ha hdb he hpl
theorem vC(F:Fn X.prog X.w X.K X.mg X.base k x ps sp)(hr:Room k X.A)(hg:Gl X x:=by rfl)(hdb:(x==("__debug__":Str))=false:=by decide):PE X (.Call (.Name x p) [] [] pos) (tCall sp [] E0 tNil):=by
 obtain⟨f,fd,hm,hk,hb,ok⟩:=F.ex
 exact qJ ok hr hg hm hk hb .nil pass0 hdb
theorem eh{pl:Sem Bool}(F:Mt X.prog X.w X.K X.mg X.base k C m ps sp)(hr:Room k X.A)(ho:PE X o ta)(ha:PA X (e::es) t)
  (hst:starEach (e::es) X.env=(false,eval e X.env)::starEach es X.env:=by rfl) (hpl:(backTo pos (starEach es X.env)).any (·.1)=false:=by rfl)
  (ht:eval (.Call (.Attribute o m apos) (e::es) [] pos) X.env=(do
   let ov <-eval o X.env
   standAt apos.atName
   let (f,first) <-holding [ov] (getMethod ov m pl)
   callWith pos f first (backTo pos (starEach (e::es) X.env)) (backToKw pos (keywordEach [] X.env))):=by rfl):
  PE X (.Call (.Attribute o m apos) (e::es) [] pos) (tMeth C m sp [] E0 ta t):=by
 obtain⟨f,fd,hm,hb,ok⟩:=F.ex
 exact tH ho F.cl hm ok hr hb .nil pass0 ha hst hpl ht
theorem cI{pl:Sem Bool}(F:Mt X.prog X.w X.K X.mg X.base k C m ps sp)(hr:Room k X.A)(ho:PE X o ta)
  (ht:eval (.Call (.Attribute o m apos) [] [] pos) X.env=(do
   let ov <-eval o X.env
   standAt apos.atName
   let (f,first) <-holding [ov] (getMethod ov m pl)
   callWith pos f first (backTo pos (starEach [] X.env)) (backToKw pos (keywordEach [] X.env))):=by rfl):
  PE X (.Call (.Attribute o m apos) [] [] pos) (tMeth C m sp [] E0 ta tNil):=by
 obtain⟨f,fd,hm,hb,ok⟩:=F.ex
 exact qO ho F.cl hm ok hr hb .nil pass0 ht
theorem fe(F:Mc X.prog X.w X.K X.mg X.base k x C ps sp)(hr:Room (k+1) X.A)(ha:PA X (e::es) t)(hg:Gl X x:=by rfl)(hdb:(x==("__debug__":Str))=false:=by decide)
  (he:starEach (e::es) X.env=(false,eval e X.env)::starEach es X.env:=by rfl) (hpl:(backTo pos (starEach es X.env)).any (·.1)=false:=by rfl):PE X (.Call (.Name x p) (e::es) [] pos) (tMake C sp [] E0 t):=by
 obtain⟨f,fd,hm,hb,ok⟩:=F.ex
 exact uc hm ok hr hg F.nm hb .nil pass0 ha hdb he hpl
theorem rf(F:Mc X.prog X.w X.K X.mg X.base k x C ps sp)(hr:Room (k+1) X.A)(hg:Gl X x:=by rfl)(hdb:(x==("__debug__":Str))=false:=by decide):PE X (.Call (.Name x p) [] [] pos) (tMake C sp [] E0 tNil):=by
 obtain⟨f,fd,hm,hb,ok⟩:=F.ex
 exact tm hm ok hr hg F.nm hb .nil pass0 hdb
theorem bh{n:Int}(h:∃t,X.mg x=some (.int n t))(hg:Gl X x:=by rfl)(hd:(x==("__debug__":Str))=false:=by decide):PE X (.Name x p) (tC (.int n)):=by
 obtain⟨t,h⟩:=h
 exact iu hg h ⟨t,rfl⟩ hd
end
theorem bC{l:List Int}{i:Nat}(h:i<l.length):atI (vi l) (i:Int)=some (V.int (Fs.g l i)):=by
 refine h8 ?_
 rw [List.getElem?_map,List.getElem?_eq_getElem h]
 simp [Fs.g,List.getD_eq_getElem?_getD,List.getElem?_eq_getElem h]
theorem bq{l:List Int}{z:Int}{i:Nat}(e:z=(i:Int))(h:i<l.length):atI (vi l) z=some (V.int (Fs.g l i)):=by rw [e];exact bC h
theorem bu(a b:List Int):vi (a++b)=vi a++vi b:=List.map_append
theorem az(l:List Int):(vi l).length=l.length:=List.length_map ..
theorem bU(l:List Int)(i:Nat)(v:Int):(vi l).set i (.int v)=vi (l.set i v):=by simp [vi,List.map_set]
theorem bR{n i:Nat}(h:i<n):ixN n (i:Int)=some i:=by
 unfold ixN
 rw [if_pos (by omega),if_pos (by omega)];simp
theorem nY{n:Nat}{z:Int}{i:Nat}(e:z=(i:Int))(h:i<n):ixN n z=some i:=by rw [e];exact bR h
theorem aj{H:Hp}{p:Addr}{o:HO}(h:H p=none):Same H (upd H p o):=fun b q e=>by rw [aM (aD e h)];exact e
theorem line1000{n:Nat}(h:n<=1000):n<=sizeLine:=Nat.le_of_lt (small1000 h)
theorem vn(k:Nat)(x:Int):(List.replicate k [V.int x]).flatten=vi (List.replicate k x):=by
 induction k with
 |zero=>rfl
 |succ k ih=>rw [List.replicate_succ,List.flatten_cons,ih,List.replicate_succ];rfl
theorem line1048576{n:Nat}(h:n<=1000):1*n<=sizeLine:=by rw [Nat.one_mul];exact line1000 h
theorem kM{te tn:TE}{σ:L2.St}{H:Hp}{Q:VK}{x:Int}{n:Nat}(h1:∀Q':VK,Q' (.int x) H->te σ H Q')(h2:∀(H':Hp) (Q':VK),Same H H'->Q' (.int (n:Int)) H'->tn σ H' Q')(hn:n<=1000)
  (k:∀(H':Hp) (p:Addr),Same H H'->H p=none->H' p=some (.lst (vi (List.replicate n x)))->Q (.ref p) H'):tOp rRep (tLst (tCons te tNil)) tn σ H Q:=by
 refine h1 _ ⟨(by show 1<=sizeLine;decide),fun q hq=>h2 _ _ (aj hq) ⟨q,(n:Int),_,rfl,rfl,ae,by omega,by omega,?_,fun p hp=>?_⟩⟩
 ·show 1*(n:Int).toNat<=sizeLine
  rw [Int.toNat_natCast];exact line1048576 hn
 ·rw [Int.toNat_natCast]
  have s1:=aj (o:=.lst [V.int x]) hq
  refine k _ p (s1.trans (aj hp)) (s1.free hp) ?_
  rw [ae,vn]
theorem dC{t u:TS}{D:Ends}{σ:L2.St}{H:Hp}(h:t {D with nx:=u D} σ H):tSeq t u D σ H:=h
theorem cy{K:PySem.W.Frag}{ta te tn:TE}{f:Str}{D:Ends}{σ:L2.St}{H:Hp}{x:Int}{n:Nat}(h1:∀Q':VK,Q' (.int x) H->te σ H Q')(h2:∀(H':Hp) (Q':VK),Same H H'->Q' (.int (n:Int)) H'->tn σ H' Q')(hn:n<=1000)
  (k:∀(H':Hp) (p:Addr),Same H H'->H p=none->H' p=some (.lst (vi (List.replicate n x)))->ta σ H' fun x H2=>m9 K f D σ (.ref p) x H2):
  sFld K ta (tOp rRep (tLst (tCons te tNil)) tn) f D σ H:=kM h1 h2 hn k
theorem ir{te tn:TE}{g:TG}{D:Ends}{σ:L2.St}{H:Hp}{x:Int}{n:Nat}(h1:∀Q':VK,Q' (.int x) H->te σ H Q')(h2:∀(H':Hp) (Q':VK),Same H H'->Q' (.int (n:Int)) H'->tn σ H' Q')(hn:n<=1000)
  (k:∀(H':Hp) (p:Addr),Same H H'->H p=none->H' p=some (.lst (vi (List.replicate n x)))->g (.ref p) σ H' D.nx):tAsg (tOp rRep (tLst (tCons te tNil)) tn) g D σ H:=kM h1 h2 hn k
end Pg
end
section
namespace Pg
open PySem PySem.Spec PyProof.Rows L2 L3
section
variable {P:Program}{w:World}{K:PySem.W.Frag}{mg:Str->Option Value}{base:Heap}{aS aL aG:Addr}
abbrev sSortOf:Stmt:=top 6
inductive iP(K:PySem.W.Frag)(vs:List V)(H:Hp)(Q:VK):Prop
 |mk:∀(a:Addr) (s:List Int) (l r:Nat),(vs=[.ref a,.int l,.int r])->(SqL K H a (vi s))->(l<s.length)->(r<s.length)->(∀H':Hp,Same H H'->Q (.int (Fs.aE s l r)) H')->iP K vs H Q
def spSortOf(K:PySem.W.Frag):Sp:=fun vs H Q _=>iP K vs H Q
theorem scSortOf:aB ["strand","left","right"] ["strand","left","right"] (ax sSortOf):=⟨rfl,rfl,rfl,by decide+kernel,rfl,by decide+kernel,by decide+kernel⟩
theorem oZ{f:Addr}{fd:FuncData}(F:Fun K "sort_of" "sort_of" sSortOf f fd)(T:Txt K mg aS aL aG):FnOk P w K mg base CX0 1 f fd ["strand","left","right"] (spSortOf K):=by
 refine F.ok scSortOf (fun vs H Q E h=>?_) (fun cdv A outer s H vs Q E hr h=>?_)
 ·obtain⟨a,s,l,r,rfl,_⟩:=h
  rfl
 ·obtain⟨a,s,l,r,rfl,hS,hl,hr',k⟩:=h
  have hu:=vE hr
  refine⟨_,ab (br (aK dS (ao aN (pv 2) (pv 1)) (bh T.nearest) (aX _)) (ak (aC (cf bK af))) aQ)
   (ak (aC (qj T.sortsIn hu (iu (v:=.ref aS) rfl T.sorts rfl) (b0 (aa (aq au (pv 0) (pv 1) (fun _ _=>rfl)) (aa (aq au (pv 0) (pv 2) (fun _ _=>rfl)) ag))) (cf bK af) ⟨rfl,rfl,rfl,rfl⟩))),?_⟩
  refine⟨_,rfl,_,rfl,_,_,rfl,rfl,_,_,rfl,rfl,_,rfl,?_⟩
  unfold Fs.aE at k
  refine ite2 (fun c=>?_) (fun c=>?_)
  ·have c:(r:Int)-l<4:=of_decide_eq_true c
   rw [if_pos c] at k
   exact⟨_,rfl,k H (Same.refl H)⟩
  ·have c:¬(r:Int)-l<4:=fun z=>c (decide_eq_true z)
   rw [if_neg c] at k
   refine⟨rfl,_,rfl,_,rfl,a,_,_,_,rfl,rfl,hS,bC hl,_,rfl,_,rfl,a,_,_,_,rfl,rfl,hS,bC hr',(by show 2<=sizeLine;decide),fun p hp=>?_⟩
   refine⟨_,rfl,_,_,p,rfl,ae,?_⟩
   have:=k _ (aj (o:=.tup [.int (Fs.g s l),.int (Fs.g s r)]) hp)
   show Q ((valV sortsKvs (kk (Fs.g s l) (Fs.g s r))).getD (.int (-1))) _
   rw [pD];exact this
abbrev sMerged:Stmt:=top 13
inductive iR(vs:List V)(H:Hp)(Q:VK):Prop
 |mk:∀(x y:Int × Int),(vs=[.int x.1,.int x.2,.int y.1,.int y.2])->(∀(H':Hp) (p:Addr),Same H H'->Tup2 H' p (Fs.mg x y)->Q (.ref p) H')->iR vs H Q
def spMerged:Sp:=fun vs H Q _=>iR vs H Q
theorem scMerged:aB ["cost","ways","other_cost","other_ways"] ["cost","ways","other_cost","other_ways"] (ax sMerged):=⟨rfl,rfl,rfl,by decide+kernel,rfl,by decide+kernel,by decide+kernel⟩
theorem oS{f:Addr}{fd:FuncData}(F:Fun K "merged" "merged" sMerged f fd):FnOk P w K mg base CX0 1 f fd ["cost","ways","other_cost","other_ways"] spMerged:=by
 refine F.ok scMerged (fun vs H Q E h=>?_) (fun cdv A outer s H vs Q E hr h=>?_)
 ·obtain⟨x,y,rfl,_⟩:=h
  rfl
 ·obtain⟨x,y,rfl,k⟩:=h
  have z2:2<=sizeLine:=by decide
  refine⟨_,ab (br (aK dS (pv 0) (pv 2) (aX _)) (ak (aC (b0 (aa (pv 0) (aa (pv 1) ag))))) aQ)
   (ab (br (aK dS (pv 2) (pv 0) (aX _)) (ak (aC (b0 (aa (pv 2) (aa (pv 3) ag))))) aQ)
   (ak (aC (b0 (aa (pv 0) (aa (ao aF (pv 1) (pv 3)) ag)))))),?_⟩
  refine⟨_,rfl,_,rfl,_,_,rfl,rfl,_,rfl,?_⟩
  unfold Fs.mg at k
  refine ite2 (fun c=>?_) (fun c=>?_)
  ·have c:x.1<y.1:=of_decide_eq_true c
   rw [if_pos c] at k
   exact⟨_,rfl,_,rfl,z2,fun p hp=>k _ p (aj hp) ae⟩
  ·have c:¬x.1<y.1:=fun z=>c (decide_eq_true z)
   rw [if_neg c] at k
   refine⟨_,rfl,_,rfl,_,_,rfl,rfl,_,rfl,?_⟩
   refine ite2 (fun c=>?_) (fun c=>?_)
   ·have c:y.1<x.1:=of_decide_eq_true c
    rw [if_pos c] at k
    exact⟨_,rfl,_,rfl,z2,fun p hp=>k _ p (aj hp) ae⟩
   ·have c:¬y.1<x.1:=fun z=>c (decide_eq_true z)
    rw [if_neg c] at k
    exact⟨_,rfl,_,rfl,_,rfl,_,_,rfl,rfl,z2,fun p hp=>k _ p (aj hp) ae⟩
end
end Pg
end
section
namespace Pg
open PySem PySem.Spec PyProof.Rows L2 L3
theorem boot_all:bootBuiltins "all"=some (.builtin "all"):=by decide+kernel
section
variable {P:Program}{w:World}{K:PySem.W.Frag}{mg:Str->Option Value}{base:Heap}{aS aL aG:Addr}
theorem Tup2.sq{H:Hp}{p:Addr}{v:Int × Int}(h:Tup2 H p v):SqT K H p [.int v.1,.int v.2]:=SqT.of h
abbrev sOffered:Stmt:=top 14
inductive gY(K:PySem.W.Frag)(vs:List V)(H:Hp)(Q:VK):Prop
 |mk:∀(fp cp wp:Addr) (f:Int × Int) (cs ws:List Int),(vs=[.ref fp,.ref cp,.ref wp])->(Tup2 H fp f)->(SqL K H cp (vi cs))->(SqL K H wp (vi ws))->(cs.length<=1000)->(∀(H':Hp) (p:Addr),Same H H'->Tup2 H' p (Fs.offered f cs ws)->Q (.ref p) H')->gY K vs H Q
def spOffered(K:PySem.W.Frag):Sp:=fun vs H Q _=>gY K vs H Q
theorem ke(d:Int)(l:List Int):leastD d l=Fs.minD d l:=by cases l <;> rfl
theorem scOffered:aB ["found","costs","ways","low","cost","many"] ["found","costs","ways"] (ax sOffered):=⟨rfl,rfl,rfl,by decide+kernel,rfl,by decide+kernel,by decide+kernel⟩
theorem qW{cs ws:List Int}{i:Nat}{x y:Int}(hx:cs[i]?=some x)(hy:ws[i]?=some y):(cs.zip ws)[i]?=some (x,y):=by
 rw [List.getElem?_zip_eq_some];exact⟨hx,hy⟩
theorem mI{f:Addr}{fd:FuncData}(F:Fun K "offered" "offered" sOffered f fd)(T:Txt K mg aS aL aG)(FM:Fn P w K mg base 1 "merged" ["cost","ways","other_cost","other_ways"] spMerged):FnOk P w K mg base CX0 2 f fd ["found","costs","ways"] (spOffered K):=by
 refine F.ok scOffered (fun vs H Q E h=>?_) (fun cdv A outer s H vs Q E hr h=>?_)
 ·obtain⟨_,_,_,_,_,_,rfl,_⟩:=h
  rfl
 ·obtain⟨fp,cp,wp,f0,cs,ws,rfl,hf,hcs,hws,hlen,k⟩:=h
  have nd:=scOffered.nd
  refine⟨_,ab (aw (i:=3) nd rfl (Or.inr rfl) (oR rfl rfl T.min (pv 1) (aq aJ (pv 0) af (fun _ _=>rfl))))
   (ab (br (aK oz (pv 3) (aq aJ (pv 0) af (fun _ _=>rfl)) (aX _)) (ak (aC (pv 0))) aQ)
   (ak (aC (aW FM hr (aa (aq aJ (pv 0) af (fun _ _=>rfl)) (aa (aq aJ (pv 0) af (fun _ _=>rfl)) (aa (pv 3) (aa
    (bc (kZ rfl) rfl T.sum boot_sum (aa (gR (own:=[("cost",4),("many",5)]) rfl nd (jf rfl T.zip (aa (pv 1) (aa (pv 2) ag))) (bf (by kernel_rfl))
     (fun _ _ _ _ _=>by exact dz (i:=4) (j:=5) K rfl rfl nd rfl rfl (Or.inl rfl) (Or.inl rfl) (.inr rfl) (.inr rfl))
     (fun _ _ _ _ _=>by exact oP (aK dv (pv 4) (pv 3) (aX _))) (fun _ _ _ _ _=>by exact pv 5)) ag)) ag)))))))),?_⟩
  refine⟨_,rfl,_,rfl,fp,_,_,_,rfl,rfl,hf.sq,rfl,cp,cs,f0.1,rfl,rfl,hcs,?_⟩
  rw [ke]
  refine⟨_,rfl,_,rfl,fp,_,_,_,rfl,rfl,hf.sq,rfl,_,_,rfl,rfl,_,rfl,?_⟩
  unfold Fs.offered at k
  simp only at k
  refine ite2 (fun c=>?_) (fun c=>?_)
  ·have c:Fs.minD f0.1 cs > f0.1:=of_decide_eq_true c
   rw [if_pos c] at k
   exact⟨_,rfl,k H fp (Same.refl H) hf⟩
  ·have c:¬Fs.minD f0.1 cs > f0.1:=fun z=>c (decide_eq_true z)
   rw [if_neg c] at k
   refine⟨_,rfl,fp,_,_,_,rfl,rfl,hf.sq,rfl,_,rfl,fp,_,_,_,rfl,rfl,hf.sq,rfl,_,rfl,?_⟩
   generalize hlow:Fs.minD f0.1 cs=low at k ⊢
   refine⟨_,rfl,_,rfl,cp,wp,_,_,rfl,hcs,hws,fun D hD=>?_⟩
   refine sM (K:=K) (a:=cp) (b:=wp) (xs:=vi cs) (ys:=vi ws) (LcP H D fun i=>vi ((((cs.zip ws).take i).filter fun x=>decide (x.1=low)).map (·.2))) (LcP.zero hD rfl) (fun i H' _ _ z=>⟨z.1.seq hcs,z.1.seq hws⟩) ?_ ?_
   ·rintro i x y TT H' hx hy ⟨sm,hx'⟩ hT
    obtain⟨x,hx2,rfl⟩:=cg hx
    obtain⟨y,hy2,rfl⟩:=cg hy
    dsimp only at hx'
    have sm2:Same H (upd H' TT (.tup [.int x,.int y])):=sm.trans (aj hT)
    have hD2:(upd H' TT (.tup [.int x,.int y])) D=some (.lst (vi ((((cs.zip ws).take i).filter fun x=>decide (x.1=low)).map (·.2)))):=by
     rw [aM (aD hx' hT)];exact hx'
    have hz:=qW hx2 hy2
    have hlt:(vi ((((cs.zip ws).take i).filter fun x=>decide (x.1=low)).map (·.2))).length<sizeLine:=by
     refine small1000 ?_
     rw [az,List.length_map]
     refine Nat.le_trans (List.length_filter_le _ _) ?_
     rw [List.length_take,List.length_zip];omega
    refine⟨_,_,rfl,SqT.of ae,rfl,_,_,rfl,_,_,rfl,rfl,rfl,_,rfl,_,rfl,rfl,_,rfl,?_⟩
    refine ite2 (fun c=>?_) (fun c=>?_)
    ·have c:x=low:=by
      have:=of_decide_eq_true c
      injection this
     refine⟨_,rfl,LcP.put hD sm2 hD2 hlt ?_⟩
     show vi _=_
     rw [take_snoc hz,List.filter_append,List.map_append,bu,List.filter_cons,if_pos (by simpa using c)]
     rfl
    ·have c:¬x=low:=fun z=>c (decide_eq_true (by rw [z]))
     refine LcP.skip sm2 hD2 ?_
     show vi _=_
     rw [take_snoc hz,List.filter_append,List.map_append,bu,List.filter_cons,if_neg (by simpa using c)]
     simp
   ·rintro H' ⟨sm,hx'⟩
    refine⟨D,_,rfl,SqL.of (by
     have e:(cs.zip ws).take (min (vi cs).length (vi ws).length)=cs.zip ws:=by
      apply List.take_of_length_le
      rw [List.length_zip,az,az]
      exact Nat.le_refl _
     dsimp only at hx'
     rw [e] at hx'
     exact hx'),f0,(low,_),rfl,fun H2 p s2 h2=>k H2 p (sm.trans s2) h2⟩
abbrev sIsStrand:Stmt:=top 5
def aY(s:List Int):Bool:=decide (1<=s.length/\s.length<=100) && s.all fun x=>decide (x=65\/x=67\/x=71\/x=85)
inductive fL(K:PySem.W.Frag)(vs:List V)(H:Hp)(Q:VK):Prop
 |mk:∀(a:Addr) (s:List Int),(vs=[.ref a])->(SqL K H a (vi s))->(∀H':Hp,Same H H'->Q (.bl (aY s)) H')->fL K vs H Q
def spIsStrand(K:PySem.W.Frag):Sp:=fun vs H Q _=>fL K vs H Q
theorem scIsStrand:aB ["letters","letter"] ["letters"] (ax sIsStrand):=⟨rfl,rfl,rfl,by decide+kernel,rfl,by decide+kernel,by decide+kernel⟩
theorem mf(x:Int):inV (.int x) (vi [65,67,71,85])=decide (x=65\/x=67\/x=71\/x=85):=by
 show ((65:Int)==x || ((67:Int)==x || ((71:Int)==x || ((85:Int)==x || false))))=_
 rw [Bool.eq_iff_iff]
 simp only [Bool.or_eq_true,beq_iff_eq,decide_eq_true_eq,Bool.false_eq_true,or_false]
 omega
theorem lN{f:Addr}{fd:FuncData}(F:Fun K "is_strand" "is_strand" sIsStrand f fd)(T:Txt K mg aS aL aG):FnOk P w K mg base CX0 1 f fd ["letters"] (spIsStrand K):=by
 refine F.ok scIsStrand (fun vs H Q E h=>?_) (fun cdv A outer s H vs Q E hr h=>?_)
 ·obtain⟨_,_,rfl,_⟩:=h
  rfl
 ·obtain⟨a,s,rfl,hS,k⟩:=h
  have nd:=scIsStrand.nd
  refine⟨_,ab (br (dH (qV lI lI af (bc aV rfl T.len PySem.boot_len (aa (pv 0) ag)) (bh T.longest))) (ak (aC vP)) aQ)
   (ak (aC (bc (qX rfl) rfl T.all boot_all (aa (gR (own:=[("letter",1)]) rfl nd (cX (pv 0)) (bf (by kernel_rfl))
    (fun _ _ _ _ _=>by exact bb (i:=1) nd rfl (Or.inl rfl)) (fun _ _ _ _ _=>by exact bG) (fun _ _ _ _ _=>by exact uy (vq K rfl) (pv 1) (iu (v:=.ref aL) rfl T.letters rfl) (by with_unfolding_all rfl))) ag)))),?_⟩
  have fin:1<=s.length/\s.length<=100->tRet (tCB (rAll K) (tCons (tLc (iList K (tVar 0)) (gName 1) tYes (tOp (rIn K false) (tVar 1) (tC (.ref aL))) [1]) tNil)) {nx:=fun _ H'=>Q .non H',rt:=Q} [some (.ref a),none] H:=fun hb=>by
   refine⟨_,rfl,a,rfl,⟨_,hS⟩,fun D hD=>?_⟩
   refine fY (K:=K) (a:=a) (xs:=vi s) (LcP H D fun i=>((s.take i).map fun x=>decide (x=65\/x=67\/x=71\/x=85)).map V.bl) (LcP.zero hD rfl) (fun i H' _ z=>z.1.seq hS) ?_ ?_
   ·rintro i x H' hx ⟨sm,hx'⟩
    obtain⟨x,hx2,rfl⟩:=cg hx
    refine⟨rfl,?_⟩
    refine⟨_,rfl,aL,_,rfl,.inr (T.lettersIn _),rfl,rfl,LcP.put hD sm hx' ?_ ?_⟩
    ·refine small1000 ?_
     rw [List.length_map,List.length_map,List.length_take];omega
    ·show List.map V.bl _=_
     rw [take_snoc (l:=s) hx2,List.map_append,List.map_append]
     show _=_++[V.bl (inV (.int x) (vi [65,67,71,85]))]
     rw [mf];rfl
   ·rintro H' ⟨sm,hx'⟩
    refine⟨D,_,rfl,SqL.of (by dsimp only at hx';rw [az,List.take_length] at hx';exact hx'),?_⟩
    have:=k H' sm
    unfold aY at this
    rw [decide_eq_true hb,Bool.true_and] at this
    rw [List.all_map]
    exact this
  refine⟨_,rfl,a,_,rfl,.inl hS,?_⟩
  rw [az]
  refine⟨_,_,rfl,rfl,_,rfl,?_⟩
  refine ite2 (fun c=>?_) (fun c=>?_)
  ·have c:(1:Int)<=(s.length:Int):=of_decide_eq_true c
   refine⟨_,_,rfl,rfl,_,rfl,?_⟩
   by_cases c2:(s.length:Int)<=100
   ·rw [show decide ((s.length:Int)<=100)=true from decide_eq_true c2]
    exact iteF (fin (by omega))
   ·rw [show decide ((s.length:Int)<=100)=false from decide_eq_false c2]
    have:=k H (Same.refl H)
    unfold aY at this
    rw [decide_eq_false (by omega),Bool.false_and] at this
    exact iteT this
  ·have c:¬(1:Int)<=(s.length:Int):=fun z=>c (decide_eq_true z)
   have:=k H (Same.refl H)
   unfold aY at this
   rw [decide_eq_false (by omega),Bool.false_and] at this
   exact⟨_,rfl,iteT this⟩
abbrev sAreTables:Stmt:=top 18
def aU(l:List Int):Bool:=l.all fun x=>decide (-10000<=x/\x<=10000)
inductive fg(K:PySem.W.Frag)(vs:List V)(H:Hp)(Q:VK):Prop
 |mk:∀(a:Addr) (s:List Int),(vs=[.ref a])->(SqL K H a (vi s))->(s.length<=1000)->(∀H':Hp,Same H H'->Q (.bl (aU s)) H')->fg K vs H Q
def spAreTables(K:PySem.W.Frag):Sp:=fun vs H Q _=>fg K vs H Q
theorem scAreTables:aB ["numbers","number"] ["numbers"] (ax sAreTables):=⟨rfl,rfl,rfl,by decide+kernel,rfl,by decide+kernel,by decide+kernel⟩
theorem kI{f:Addr}{fd:FuncData}(F:Fun K "are_tables" "are_tables" sAreTables f fd)(T:Txt K mg aS aL aG):FnOk P w K mg base CX0 1 f fd ["numbers"] (spAreTables K):=by
 refine F.ok scAreTables (fun vs H Q E h=>?_) (fun cdv A outer s H vs Q E hr h=>?_)
 ·obtain⟨_,_,rfl,_⟩:=h
  rfl
 ·obtain⟨a,s,rfl,hS,hlen,k⟩:=h
  have nd:=scAreTables.nd
  refine⟨_,ak (aC (bc (qX rfl) rfl T.all boot_all (aa (gR (own:=[("number",1)]) rfl nd (cX (pv 0)) (bf (by kernel_rfl))
    (fun _ _ _ _ _=>by exact bb (i:=1) nd rfl (Or.inl rfl)) (fun _ _ _ _ _=>by exact bG) (fun _ _ _ _ _=>by exact qG lI lI (cf bK (bh T.largest)) (pv 1) (bh T.largest))) ag))),?_⟩
  refine⟨_,rfl,a,rfl,⟨_,hS⟩,fun D hD=>?_⟩
  refine fY (K:=K) (a:=a) (xs:=vi s) (LcP H D fun i=>((s.take i).map fun x=>decide (-10000<=x/\x<=10000)).map V.bl) (LcP.zero hD rfl) (fun i H' _ z=>z.1.seq hS) ?_ ?_
  ·rintro i x H' hx ⟨sm,hx'⟩
   obtain⟨x,hx2,rfl⟩:=cg hx
   have hlt:(((s.take i).map fun x=>decide (-10000<=x/\x<=10000)).map V.bl).length<sizeLine:=by
    refine small1000 ?_
    rw [List.length_map,List.length_map,List.length_take];omega
   have snoc:(((s.take (i+1)).map fun x=>decide (-10000<=x/\x<=10000)).map V.bl)=(((s.take i).map fun x=>decide (-10000<=x/\x<=10000)).map V.bl)++[V.bl (decide (-10000<=x/\x<=10000))]:=by
    rw [take_snoc (l:=s) hx2,List.map_append,List.map_append];rfl
   refine⟨rfl,?_⟩
   refine⟨_,rfl,_,rfl,_,_,rfl,rfl,_,rfl,?_⟩
   refine ite2 (fun c=>?_) (fun c=>?_)
   ·have c:(-10000:Int)<=x:=of_decide_eq_true c
    refine⟨_,_,rfl,rfl,LcP.put hD sm hx' hlt ?_⟩
    show List.map V.bl _=_
    rw [snoc]
    congr 3
    by_cases c2:x<=10000
    ·rw [decide_eq_true (show -10000<=x/\x<=10000 from⟨c,c2⟩)];exact (decide_eq_true c2).symm
    ·rw [decide_eq_false (show ¬(-10000<=x/\x<=10000) from fun z=>c2 z.2)];exact (decide_eq_false c2).symm
   ·have c:¬(-10000:Int)<=x:=fun z=>c (decide_eq_true z)
    refine LcP.put hD sm hx' hlt ?_
    show List.map V.bl _=_
    rw [snoc,decide_eq_false (show ¬(-10000<=x/\x<=10000) from fun z=>c z.1)]
  ·rintro H' ⟨sm,hx'⟩
   refine⟨D,_,rfl,SqL.of (by dsimp only at hx';rw [az,List.take_length] at hx';exact hx'),?_⟩
   have:=k H' sm
   unfold aU at this
   rw [List.all_map]
   exact this
theorem kJ{l:List Int}(h:0<l.length):atI (vi l) (-1)=some (V.int (Fs.g l (l.length-1))):=by
 unfold atI ixN
 rw [az,if_neg (by omega),if_pos (by omega)]
 show (vi l)[(-1+(l.length:Int)).toNat]?=_
 rw [show (-1+(l.length:Int)).toNat=l.length-1 by omega,List.getElem?_map,List.getElem?_eq_getElem (by omega)]
 simp [Fs.g,List.getD_eq_getElem?_getD,List.getElem?_eq_getElem (show l.length-1<l.length by omega)]
abbrev sStretched:Stmt:=top 19
inductive ff(vs:List V)(H:Hp)(Q:VK):Prop
 |mk:∀(a:Addr) (ns:List Int),(vs=[.ref a])->(H a=some (.lst (vi ns)))->(ns.length=31)->(∀(H':Hp) (p:Addr),Same H H'->H' p=some (.lst (vi (Fs.stretched ns)))->Q (.ref p) H')->ff vs H Q
def spStretched:Sp:=fun vs H Q _=>ff vs H Q
theorem scStretched:aB ["numbers"] ["numbers"] (ax sStretched):=⟨rfl,rfl,rfl,by decide+kernel,rfl,by decide+kernel,by decide+kernel⟩
theorem kH{f:Addr}{fd:FuncData}(F:Fun K "stretched" "stretched" sStretched f fd)(T:Txt K mg aS aL aG):FnOk P w K mg base CX0 1 f fd ["numbers"] spStretched:=by
 refine F.ok scStretched (fun vs H Q E h=>?_) (fun cdv A outer s H vs Q E hr h=>?_)
 ·obtain⟨_,_,rfl,_⟩:=h
  rfl
 ·obtain⟨a,ns,rfl,ha,hlen,k⟩:=h
  refine⟨_,ak (aC (ao mG (pv 0) (ao bT (aP (aa (aq au (pv 0) (cf bK af) (fun _ _=>rfl)) ag)) (ao aN (bh T.longest) (bc aV rfl T.len PySem.boot_len (aa (pv 0) ag)))))),?_⟩
  refine⟨_,rfl,?_⟩
  refine kM (x:=Fs.g ns (ns.length-1)) (n:=69) (fun Q' q=>⟨_,rfl,_,rfl,a,_,_,_,rfl,rfl,SqL.of ha,kJ (by omega),q⟩) (fun H' Q' sm q=>?_) (by decide) (fun H' q2 sm _ hq2=>?_)
  ·refine⟨_,rfl,a,_,rfl,.inl (SqL.of (sm _ _ ha)),?_⟩
   rw [az,hlen]
   exact⟨_,_,rfl,rfl,q⟩
  ·refine⟨a,q2,_,_,rfl,rfl,sm _ _ ha,hq2,?_,fun p hp=>?_⟩
   ·rw [az,az,hlen,List.length_replicate];decide
   ·refine k _ p (sm.trans (aj hp)) ?_
    rw [ae]
    congr 2
    unfold Fs.stretched
    have eg:ns.getLastD 0=Fs.g ns (ns.length-1):=by
     rw [List.getLastD_eq_getLast?,List.getLast?_eq_getElem?]
     simp [Fs.g,List.getD_eq_getElem?_getD]
    rw [bu,eg,hlen]
end
end Pg
end
section
namespace Pg
open PySem PySem.Spec PyProof.Rows L2 L3
structure ClsF(K:PySem.W.Frag)(C:Addr)(fs:List Str):Prop where
 cl:Cls K C
 no:∀(i:Nat) (f:Str),fs[i]?=some f->NoAttr K C f
theorem aZ{H:Hp}{a b:Addr}{o u:HO}(h:H b=some u)(hn:H a=none):upd H a o b=some u:=by rw [aM (aD h hn)];exact h
theorem ai{H:Hp}{a b:Addr}{o u:HO}(h:H b=some u)(hn:b≠a):upd H a o b=some u:=by rw [aM hn];exact h
def Grown(p:Addr)(H H':Hp):Prop:=∀b o,H b=some o->b≠p->H' b=some o
structure Acc(p:Addr)(H0 H:Hp)(ql:List (Addr × List V)):Prop where
 gr:Grown p H0 H
 nd:(ql.map (·.1)).Nodup
 at_:∀x∈ql,H0 x.1=none/\H x.1=some (.lst x.2)/\x.1≠p
theorem Acc.nil(p:Addr)(H:Hp):Acc p H H []:=⟨fun _ _ e _=>e,List.nodup_nil,fun x hx=>by simp at hx⟩
theorem Acc.step{p q C dx:Addr}{H0 H H1:Hp}{ql:List (Addr × List V)}{fs fs':List (Str × V)}{xs:List V}(A:Acc p H0 H ql)(hp:H p=some (.ins C dx fs))(sm:Same H H1)(hq:H q=none)(hq1:H1 q=some (.lst xs)):
  Acc p H0 (upd H1 p (.ins C dx fs')) (ql++[(q,xs)]):=by
 have qp:q≠p:=fun e=>by rw [e,hp] at hq;cases hq
 refine⟨fun b o e hb=>ai (sm _ _ (A.gr b o e hb)) hb,?_,fun x hx=>?_⟩
 ·rw [List.map_append,List.nodup_append]
  refine⟨A.nd,by simp,fun a ha b hb e=>?_⟩
  obtain⟨x,hx,rfl⟩:=List.mem_map.mp ha
  simp at hb
  have:=(A.at_ x hx).2.1
  rw [e,hb,hq] at this
  cases this
 ·rcases List.mem_append.mp hx with h |h
  ·obtain⟨h1,h2,h3⟩:=A.at_ x h
   exact⟨h1,ai (sm _ _ h2) h3,h3⟩
  ·simp at h
   subst h
   refine⟨?_,ai hq1 qp,qp⟩
   cases e:H0 q with
   |none=>rfl
   |some o=>
    have:=A.gr q o e qp
    rw [hq] at this
    cases this
theorem Acc.num{p C dx:Addr}{H0 H:Hp}{ql:List (Addr × List V)}{fs':List (Str × V)}(A:Acc p H0 H ql):Acc p H0 (upd H p (.ins C dx fs')) ql:=
 ⟨fun b o e hb=>ai (A.gr b o e hb) hb,A.nd,fun x hx=>⟨(A.at_ x hx).1,ai (A.at_ x hx).2.1 (A.at_ x hx).2.2,(A.at_ x hx).2.2⟩⟩
section
variable {P:Program}{w:World}{K:PySem.W.Frag}{mg:Str->Option Value}{base:Heap}{aS aL aG:Addr}
abbrev arcF(p1 p2 p3:Addr):List (Str × V):=[("places",.ref p1),("costs",.ref p2),("ways",.ref p3)]
abbrev arcN:List Str:=["places","costs","ways"]
abbrev sArcsI:Stmt:=inClass (top 11) 0
abbrev sArcsP:Stmt:=inClass (top 11) 1
inductive jL(C:Addr)(vs:List V)(H:Hp)(Q:VK):Prop
 |mk:∀(p dx:Addr),(vs=[.ref p])->(H p=some (.ins C dx []))->(∀(H':Hp) (q1 q2 q3:Addr),H' p=some (.ins C dx (arcF q1 q2 q3))->Acc p H H' [(q1,[]),(q2,[]),(q3,[])]->Q .non H')->jL C vs H Q
def spArcsI(C:Addr):Sp:=fun vs H Q _=>jL C vs H Q
theorem scArcsI:aB ["self"] ["self"] (ax sArcsI):=⟨rfl,rfl,rfl,by decide+kernel,rfl,by decide+kernel,by decide+kernel⟩
theorem rV{f C:Addr}{fd:FuncData}(F:Fun K "__init__" "Arcs.__init__" sArcsI f fd)(CA:ClsF K C arcN):FnOk P w K mg base CX0 1 f fd ["self"] (spArcsI C):=by
 refine F.ok scArcsI (fun vs H Q E h=>?_) (fun cdv A outer s H vs Q E hr h=>?_)
 ·obtain⟨_,_,rfl,_⟩:=h
  rfl
 ·obtain⟨p,dx,rfl,hp,k⟩:=h
  refine⟨_,ab (aT (pv 0) (aP ag) rfl) (ab (aT (pv 0) (aP ag) rfl) (ak (aT (pv 0) (aP ag) rfl))),?_⟩
  refine⟨Nat.zero_le _,fun q1 h1=>⟨_,rfl,p,C,dx,[],rfl,aZ hp h1,CA.cl,CA.no 0 _ rfl,(by show 0<1000;decide),?_⟩⟩
  have A1:=(Acc.nil p H).step (xs:=[]) (fs':=putF "places" (.ref q1) []) hp (aj h1) h1 ae
  have e1:(upd (upd H q1 (.lst [])) p (.ins C dx (putF "places" (.ref q1) []))) p=some (.ins C dx (putF "places" (.ref q1) [])):=ae
  generalize upd (upd H q1 (.lst [])) p (.ins C dx (putF "places" (.ref q1) []))=H1 at A1 e1 ⊢
  refine⟨Nat.zero_le _,fun q2 h2=>⟨_,rfl,p,C,dx,_,rfl,aZ e1 h2,CA.cl,CA.no 1 _ rfl,(by show 1<1000;decide),?_⟩⟩
  have A2:=A1.step (xs:=[]) (fs':=putF "costs" (.ref q2) (putF "places" (.ref q1) [])) e1 (aj h2) h2 ae
  have e2:(upd (upd H1 q2 (.lst [])) p (.ins C dx (putF "costs" (.ref q2) (putF "places" (.ref q1) [])))) p=some (.ins C dx (putF "costs" (.ref q2) (putF "places" (.ref q1) []))):=ae
  generalize upd (upd H1 q2 (.lst [])) p (.ins C dx (putF "costs" (.ref q2) (putF "places" (.ref q1) [])))=H2 at A2 e2 ⊢
  refine⟨Nat.zero_le _,fun q3 h3=>⟨_,rfl,p,C,dx,_,rfl,aZ e2 h3,CA.cl,CA.no 2 _ rfl,(by show 2<1000;decide),?_⟩⟩
  have A3:=A2.step (xs:=[]) (fs':=putF "ways" (.ref q3) (putF "costs" (.ref q2) (putF "places" (.ref q1) []))) e2 (aj h3) h3 ae
  refine k _ q1 q2 q3 ?_ A3
  rw [ae]
  rfl
structure ArcsAt(C:Addr)(H:Hp)(a p1 p2 p3:Addr)(x:Fs.Arcs):Prop where
 ob:∃dx,H a=some (.ins C dx (arcF p1 p2 p3))
 pl:H p1=some (.lst (vi x.pl))
 cs:H p2=some (.lst (vi x.cs))
 ws:H p3=some (.lst (vi x.ws))
 nd:[p1,p2,p3].Nodup
inductive jG(C:Addr)(vs:List V)(H:Hp)(Q:VK):Prop
 |mk:∀(a p1 p2 p3:Addr) (x:Fs.Arcs) (p c n:Int),(vs=[.ref a,.int p,.int c,.int n])->(ArcsAt C H a p1 p2 p3 x)->(x.pl.length<1000)->(x.cs.length<1000)->(x.ws.length<1000)->(∀H':Hp,ArcsAt C H' a p1 p2 p3 (x.put p c n)->(∀b o,H b=some o->b∉[p1,p2,p3]->H' b=some o)->Q .non H')->jG C vs H Q
def spArcsP(C:Addr):Sp:=fun vs H Q _=>jG C vs H Q
theorem scArcsP:aB ["self","place","cost","ways"] ["self","place","cost","ways"] (ax sArcsP):=⟨rfl,rfl,rfl,by decide+kernel,rfl,by decide+kernel,by decide+kernel⟩
theorem rX{f C:Addr}{fd:FuncData}(F:Fun K "put" "Arcs.put" sArcsP f fd)(CA:ClsF K C arcN):FnOk P w K mg base CX0 1 f fd ["self","place","cost","ways"] (spArcsP C):=by
 refine F.ok scArcsP (fun vs H Q E h=>?_) (fun cdv A outer s H vs Q E hr h=>?_)
 ·obtain⟨_,_,_,_,_,_,_,_,rfl,_⟩:=h
  rfl
 ·obtain⟨a,p1,p2,p3,x,p,c,n,rfl,⟨⟨dx,ha⟩,h1,h2,h3,nd⟩,l1,l2,l3,k⟩:=h
  have ap:∀{q:Addr} {xs:List V},H q=some (.lst xs)->a≠q:=fun e z=>by rw [z,e] at ha;cases ha
  simp only [List.nodup_cons,List.mem_cons,List.not_mem_nil,or_false,not_or,List.nodup_nil,and_true,not_false_eq_true] at nd
  obtain⟨⟨n12,n13⟩,n23⟩:=nd
  refine⟨_,ab (bx (gb PySem.F.plainAttrs_list PySem.F.slot_list_append PySem.F.type_list_append cb (ah (pv 0) rfl) (aa (pv 1) ag)))
   (ab (bx (gb PySem.F.plainAttrs_list PySem.F.slot_list_append PySem.F.type_list_append cb (ah (pv 0) rfl) (aa (pv 2) ag)))
   (ak (bx (gb PySem.F.plainAttrs_list PySem.F.slot_list_append PySem.F.type_list_append cb (ah (pv 0) rfl) (aa (pv 3) ag))))),?_⟩
  refine⟨_,rfl,a,C,dx,_,_,rfl,ha,CA.cl,CA.no 0 _ rfl,rfl,.inl ⟨rfl,_,SqL.of h1⟩,_,rfl,p1,_,_,rfl,rfl,h1,(by rw [az];exact small1000 (by omega)),?_⟩
  have k1:∀b o,H b=some o->b≠p1->(upd H p1 (.lst (vi x.pl++[.int p]))) b=some o:=fun b o e hb=>ai e hb
  have g1:(upd H p1 (.lst (vi x.pl++[.int p]))) p1=some (.lst (vi x.pl++[.int p])):=ae
  generalize upd H p1 (.lst (vi x.pl++[.int p]))=H1 at k1 g1 ⊢
  refine⟨_,rfl,a,C,dx,_,_,rfl,k1 _ _ ha (ap h1),CA.cl,CA.no 1 _ rfl,rfl,.inl ⟨rfl,_,SqL.of (k1 _ _ h2 (Ne.symm n12))⟩,_,rfl,p2,_,_,rfl,rfl,k1 _ _ h2 (Ne.symm n12),(by rw [az];exact small1000 (by omega)),?_⟩
  have k2:∀b o,H1 b=some o->b≠p2->(upd H1 p2 (.lst (vi x.cs++[.int c]))) b=some o:=fun b o e hb=>ai e hb
  have g2:(upd H1 p2 (.lst (vi x.cs++[.int c]))) p2=some (.lst (vi x.cs++[.int c])):=ae
  generalize upd H1 p2 (.lst (vi x.cs++[.int c]))=H2 at k2 g2 ⊢
  have h3':=k2 _ _ (k1 _ _ h3 (Ne.symm n13)) (Ne.symm n23)
  have ha':=k2 _ _ (k1 _ _ ha (ap h1)) (ap h2)
  refine⟨_,rfl,a,C,dx,_,_,rfl,ha',CA.cl,CA.no 2 _ rfl,rfl,.inl ⟨rfl,_,SqL.of h3'⟩,_,rfl,p3,_,_,rfl,rfl,h3',(by rw [az];exact small1000 (by omega)),?_⟩
  refine k _ ⟨⟨dx,ai ha' (ap h3)⟩,?_,?_,?_,?_⟩ (fun b o e hb=>?_)
  ·rw [ai (k2 _ _ g1 n12) n13]
   unfold Fs.Arcs.put
   rw [bu]
   rfl
  ·rw [ai g2 n23]
   unfold Fs.Arcs.put
   rw [bu]
   rfl
  ·rw [ae]
   unfold Fs.Arcs.put
   rw [bu]
   rfl
  ·simp only [List.nodup_cons,List.mem_cons,List.not_mem_nil,or_false,not_or,List.nodup_nil,and_true,not_false_eq_true]
   exact⟨⟨n12,n13⟩,n23⟩
  ·simp only [List.mem_cons,List.not_mem_nil,or_false,not_or] at hb
   exact ai (k2 _ _ (k1 _ _ e hb.1) hb.2.1) hb.2.2
abbrev rowF(l:Int)(q1 q2 q3 q4 q5 q6:Addr):List (Str × V):=[("left",.int l),("pair_costs",.ref q1),("pair_ways",.ref q2),("one_costs",.ref q3),("one_ways",.ref q4),("two_costs",.ref q5),("two_ways",.ref q6)]
abbrev rowN:List Str:=["left","pair_costs","pair_ways","one_costs","one_ways","two_costs","two_ways"]
abbrev sRowI:Stmt:=inClass (top 10) 0
inductive ll(C:Addr)(vs:List V)(H:Hp)(Q:VK):Prop
 |mk:∀(p dx:Addr) (l:Int) (n:Nat) (far:Int),(vs=[.ref p,.int l,.int n,.int far])->(H p=some (.ins C dx []))->(n<=1000)->(∀(H':Hp) (q1 q2 q3 q4 q5 q6:Addr),H' p=some (.ins C dx (rowF l q1 q2 q3 q4 q5 q6))->Acc p H H' [(q1,vi (List.replicate n far)),(q2,vi (List.replicate n 0)),(q3,vi (List.replicate n far)),(q4,vi (List.replicate n 0)),(q5,vi (List.replicate n far)),(q6,vi (List.replicate n 0))]->Q .non H')->ll C vs H Q
def spRowI(C:Addr):Sp:=fun vs H Q _=>ll C vs H Q
theorem scRowI:aB ["self","left","size","far"] ["self","left","size","far"] (ax sRowI):=⟨rfl,rfl,rfl,by decide+kernel,rfl,by decide+kernel,by decide+kernel⟩
theorem tY{f C:Addr}{fd:FuncData}(F:Fun K "__init__" "Row.__init__" sRowI f fd)(CA:ClsF K C rowN):FnOk P w K mg base CX0 1 f fd ["self","left","size","far"] (spRowI C):=by
 refine F.ok scRowI (fun vs H Q E h=>?_) (fun cdv A outer s H vs Q E hr h=>?_)
 ·obtain⟨_,_,_,_,_,rfl,_⟩:=h
  rfl
 ·obtain⟨p,dx,l,n,far,rfl,hp,hn,k⟩:=h
  refine⟨_,ab (aT (pv 0) (pv 1) rfl) (ab (aT (pv 0) (ao bT (aP (aa (pv 3) ag)) (pv 2)) rfl) (ab (aT (pv 0) (ao bT (aP (aa af ag)) (pv 2)) rfl)
   (ab (aT (pv 0) (ao bT (aP (aa (pv 3) ag)) (pv 2)) rfl) (ab (aT (pv 0) (ao bT (aP (aa af ag)) (pv 2)) rfl)
   (ab (aT (pv 0) (ao bT (aP (aa (pv 3) ag)) (pv 2)) rfl) (ak (aT (pv 0) (ao bT (aP (aa af ag)) (pv 2)) rfl))))))),?_⟩
  refine⟨_,rfl,_,rfl,p,C,dx,[],rfl,hp,CA.cl,CA.no 0 _ rfl,(by show 0<1000;decide),?_⟩
  have A0:=(Acc.nil p H).num (C:=C) (dx:=dx) (fs':=[(("left":Str),V.int l)])
  have e0:(upd H p (.ins C dx [(("left":Str),V.int l)])) p=some (.ins C dx [(("left":Str),V.int l)]):=ae
  have g0:upd H p (.ins C dx (putF "left" (.int l) []))=upd H p (.ins C dx [(("left":Str),V.int l)]):=rfl
  rw [g0]
  generalize upd H p (.ins C dx [(("left":Str),V.int l)])=H0 at A0 e0 ⊢
  dsimp only
  refine dC (cy (x:=far) (n:=n) (fun Q' q=>⟨_,rfl,q⟩) (fun H' Q' _ q=>⟨_,rfl,q⟩) hn (fun H1 q1 s1 f1 d1=>⟨_,rfl,p,C,dx,_,rfl,s1 _ _ e0,CA.cl,CA.no 1 _ rfl,(by show 1<1000;decide),?_⟩))
  have A1:=A0.step (fs':=[("left",V.int l),("pair_costs",.ref q1)]) e0 s1 f1 d1
  have e1:(upd H1 p (.ins C dx [("left",V.int l),("pair_costs",.ref q1)])) p=some (.ins C dx [("left",V.int l),("pair_costs",.ref q1)]):=ae
  have g1:upd H1 p (.ins C dx (putF "pair_costs" (.ref q1) [("left",V.int l)]))=upd H1 p (.ins C dx [("left",V.int l),("pair_costs",.ref q1)]):=rfl
  rw [g1]
  generalize upd H1 p (.ins C dx [("left",V.int l),("pair_costs",.ref q1)])=H1 at A1 e1 ⊢
  dsimp only
  refine dC (cy (x:=0) (n:=n) (fun Q' q=>q) (fun H' Q' _ q=>⟨_,rfl,q⟩) hn (fun H2 q2 s2 f2 d2=>⟨_,rfl,p,C,dx,_,rfl,s2 _ _ e1,CA.cl,CA.no 2 _ rfl,(by show 2<1000;decide),?_⟩))
  have A2:=A1.step (fs':=[("left",V.int l),("pair_costs",.ref q1),("pair_ways",.ref q2)]) e1 s2 f2 d2
  have e2:(upd H2 p (.ins C dx [("left",V.int l),("pair_costs",.ref q1),("pair_ways",.ref q2)])) p=some (.ins C dx [("left",V.int l),("pair_costs",.ref q1),("pair_ways",.ref q2)]):=ae
  have g2:upd H2 p (.ins C dx (putF "pair_ways" (.ref q2) [("left",V.int l),("pair_costs",.ref q1)]))=upd H2 p (.ins C dx [("left",V.int l),("pair_costs",.ref q1),("pair_ways",.ref q2)]):=rfl
  rw [g2]
  generalize upd H2 p (.ins C dx [("left",V.int l),("pair_costs",.ref q1),("pair_ways",.ref q2)])=H2 at A2 e2 ⊢
  dsimp only
  refine dC (cy (x:=far) (n:=n) (fun Q' q=>⟨_,rfl,q⟩) (fun H' Q' _ q=>⟨_,rfl,q⟩) hn (fun H3 q3 s3 f3 d3=>⟨_,rfl,p,C,dx,_,rfl,s3 _ _ e2,CA.cl,CA.no 3 _ rfl,(by show 3<1000;decide),?_⟩))
  have A3:=A2.step (fs':=[("left",V.int l),("pair_costs",.ref q1),("pair_ways",.ref q2),("one_costs",.ref q3)]) e2 s3 f3 d3
  have e3:(upd H3 p (.ins C dx [("left",V.int l),("pair_costs",.ref q1),("pair_ways",.ref q2),("one_costs",.ref q3)])) p=some (.ins C dx [("left",V.int l),("pair_costs",.ref q1),("pair_ways",.ref q2),("one_costs",.ref q3)]):=ae
  have g3:upd H3 p (.ins C dx (putF "one_costs" (.ref q3) [("left",V.int l),("pair_costs",.ref q1),("pair_ways",.ref q2)]))=upd H3 p (.ins C dx [("left",V.int l),("pair_costs",.ref q1),("pair_ways",.ref q2),("one_costs",.ref q3)]):=rfl
  rw [g3]
  generalize upd H3 p (.ins C dx [("left",V.int l),("pair_costs",.ref q1),("pair_ways",.ref q2),("one_costs",.ref q3)])=H3 at A3 e3 ⊢
  dsimp only
  refine dC (cy (x:=0) (n:=n) (fun Q' q=>q) (fun H' Q' _ q=>⟨_,rfl,q⟩) hn (fun H4 q4 s4 f4 d4=>⟨_,rfl,p,C,dx,_,rfl,s4 _ _ e3,CA.cl,CA.no 4 _ rfl,(by show 4<1000;decide),?_⟩))
  have A4:=A3.step (fs':=[("left",V.int l),("pair_costs",.ref q1),("pair_ways",.ref q2),("one_costs",.ref q3),("one_ways",.ref q4)]) e3 s4 f4 d4
  have e4:(upd H4 p (.ins C dx [("left",V.int l),("pair_costs",.ref q1),("pair_ways",.ref q2),("one_costs",.ref q3),("one_ways",.ref q4)])) p=some (.ins C dx [("left",V.int l),("pair_costs",.ref q1),("pair_ways",.ref q2),("one_costs",.ref q3),("one_ways",.ref q4)]):=ae
  have g4:upd H4 p (.ins C dx (putF "one_ways" (.ref q4) [("left",V.int l),("pair_costs",.ref q1),("pair_ways",.ref q2),("one_costs",.ref q3)]))=upd H4 p (.ins C dx [("left",V.int l),("pair_costs",.ref q1),("pair_ways",.ref q2),("one_costs",.ref q3),("one_ways",.ref q4)]):=rfl
  rw [g4]
  generalize upd H4 p (.ins C dx [("left",V.int l),("pair_costs",.ref q1),("pair_ways",.ref q2),("one_costs",.ref q3),("one_ways",.ref q4)])=H4 at A4 e4 ⊢
  dsimp only
  refine dC (cy (x:=far) (n:=n) (fun Q' q=>⟨_,rfl,q⟩) (fun H' Q' _ q=>⟨_,rfl,q⟩) hn (fun H5 q5 s5 f5 d5=>⟨_,rfl,p,C,dx,_,rfl,s5 _ _ e4,CA.cl,CA.no 5 _ rfl,(by show 5<1000;decide),?_⟩))
  have A5:=A4.step (fs':=[("left",V.int l),("pair_costs",.ref q1),("pair_ways",.ref q2),("one_costs",.ref q3),("one_ways",.ref q4),("two_costs",.ref q5)]) e4 s5 f5 d5
  have e5:(upd H5 p (.ins C dx [("left",V.int l),("pair_costs",.ref q1),("pair_ways",.ref q2),("one_costs",.ref q3),("one_ways",.ref q4),("two_costs",.ref q5)])) p=some (.ins C dx [("left",V.int l),("pair_costs",.ref q1),("pair_ways",.ref q2),("one_costs",.ref q3),("one_ways",.ref q4),("two_costs",.ref q5)]):=ae
  have g5:upd H5 p (.ins C dx (putF "two_costs" (.ref q5) [("left",V.int l),("pair_costs",.ref q1),("pair_ways",.ref q2),("one_costs",.ref q3),("one_ways",.ref q4)]))=upd H5 p (.ins C dx [("left",V.int l),("pair_costs",.ref q1),("pair_ways",.ref q2),("one_costs",.ref q3),("one_ways",.ref q4),("two_costs",.ref q5)]):=rfl
  rw [g5]
  generalize upd H5 p (.ins C dx [("left",V.int l),("pair_costs",.ref q1),("pair_ways",.ref q2),("one_costs",.ref q3),("one_ways",.ref q4),("two_costs",.ref q5)])=H5 at A5 e5 ⊢
  dsimp only
  refine cy (x:=0) (n:=n) (fun Q' q=>q) (fun H' Q' _ q=>⟨_,rfl,q⟩) hn (fun H6 q6 s6 f6 d6=>⟨_,rfl,p,C,dx,_,rfl,s6 _ _ e5,CA.cl,CA.no 6 _ rfl,(by show 6<1000;decide),?_⟩)
  have A6:=A5.step (fs':=rowF l q1 q2 q3 q4 q5 q6) e5 s6 f6 d6
  have g6:upd H6 p (.ins C dx (putF "two_ways" (.ref q6) [("left",V.int l),("pair_costs",.ref q1),("pair_ways",.ref q2),("one_costs",.ref q3),("one_ways",.ref q4),("two_costs",.ref q5)]))=upd H6 p (.ins C dx (rowF l q1 q2 q3 q4 q5 q6)):=rfl
  rw [g6]
  exact k _ q1 q2 q3 q4 q5 q6 ae A6
abbrev winF(q1 q2:Addr):List (Str × V):=[("low_costs",.ref q1),("low_ways",.ref q2)]
abbrev winN:List Str:=["low_costs","low_ways"]
abbrev sWinI:Stmt:=inClass (top 12) 0
inductive md(C:Addr)(vs:List V)(H:Hp)(Q:VK):Prop
 |mk:∀(p dx:Addr) (n:Nat) (far:Int),(vs=[.ref p,.int n,.int far])->(H p=some (.ins C dx []))->(n<=1000)->(∀(H':Hp) (q1 q2:Addr),H' p=some (.ins C dx (winF q1 q2))->Acc p H H' [(q1,vi (List.replicate n far)),(q2,vi (List.replicate n 0))]->Q .non H')->md C vs H Q
def spWinI(C:Addr):Sp:=fun vs H Q _=>md C vs H Q
theorem scWinI:aB ["self","size","far"] ["self","size","far"] (ax sWinI):=⟨rfl,rfl,rfl,by decide+kernel,rfl,by decide+kernel,by decide+kernel⟩
theorem tF{f C:Addr}{fd:FuncData}(F:Fun K "__init__" "Window.__init__" sWinI f fd)(CA:ClsF K C winN):FnOk P w K mg base CX0 1 f fd ["self","size","far"] (spWinI C):=by
 refine F.ok scWinI (fun vs H Q E h=>?_) (fun cdv A outer s H vs Q E hr h=>?_)
 ·obtain⟨_,_,_,_,rfl,_⟩:=h
  rfl
 ·obtain⟨p,dx,n,far,rfl,hp,hn,k⟩:=h
  refine⟨_,ab (aT (pv 0) (ao bT (aP (aa (pv 2) ag)) (pv 1)) rfl) (ak (aT (pv 0) (ao bT (aP (aa af ag)) (pv 1)) rfl)),?_⟩
  dsimp only
  refine dC (cy (x:=far) (n:=n) (fun Q' q=>⟨_,rfl,q⟩) (fun H' Q' _ q=>⟨_,rfl,q⟩) hn (fun H1 q1 s1 f1 d1=>⟨_,rfl,p,C,dx,_,rfl,s1 _ _ hp,CA.cl,CA.no 0 _ rfl,(by show 0<1000;decide),?_⟩))
  have A1:=(Acc.nil p H).step (fs':=[("low_costs",.ref q1)]) hp s1 f1 d1
  have e1:(upd H1 p (.ins C dx [("low_costs",.ref q1)])) p=some (.ins C dx [("low_costs",.ref q1)]):=ae
  have g1:upd H1 p (.ins C dx (putF "low_costs" (.ref q1) []))=upd H1 p (.ins C dx [("low_costs",.ref q1)]):=rfl
  rw [g1]
  generalize upd H1 p (.ins C dx [("low_costs",.ref q1)])=H1 at A1 e1 ⊢
  dsimp only
  refine cy (x:=0) (n:=n) (fun Q' q=>q) (fun H' Q' _ q=>⟨_,rfl,q⟩) hn (fun H2 q2 s2 f2 d2=>⟨_,rfl,p,C,dx,_,rfl,s2 _ _ e1,CA.cl,CA.no 1 _ rfl,(by show 1<1000;decide),?_⟩)
  have A2:=A1.step (fs':=winF q1 q2) e1 s2 f2 d2
  have g2:upd H2 p (.ins C dx (putF "low_ways" (.ref q2) [("low_costs",.ref q1)]))=upd H2 p (.ins C dx (winF q1 q2)):=rfl
  rw [g2]
  exact k _ q1 q2 ae A2
end
end Pg
end
section
namespace Pg
open PySem PySem.Spec PyProof.Rows L2 L3
theorem sY{X:Cx}:PGet X (fun x y H Q=>∃p xs i j v,x=.ref p/\y=.int i/\SqL X.K H p xs/\i=((j:Nat):Int)/\xs[j]?=some v/\Q v H):=by
 intro pins s σ H o i ov iv Q I ro ri h
 obtain⟨p,xs,z,j,v,rfl,rfl,hq,ez,he,q⟩:=h
 cases ro
 obtain⟨t,rfl⟩:=ri
 obtain⟨its,r,pl,hz⟩:=I.list hq
 obtain⟨u,hu,ru⟩:=r.get he
 have hj:j<xs.length:=(List.getElem?_eq_some_iff.mp he).1
 have hn:=line63
 exact wpAny_getItem_list pl.isList (by omega) (by omega) (by rw [ez,Int.toNat_natCast];simpa using hu) ⟨v,H,I,ru,q⟩
theorem vR{l:List Int}{i:Nat}(h:i<l.length):(vi l)[i]?=some (V.int (Fs.g l i)):=by
 rw [List.getElem?_map,List.getElem?_eq_getElem h]
 simp [Fs.g,List.getD_eq_getElem?_getD,List.getElem?_eq_getElem h]
structure WinAt(C:Addr)(H:Hp)(a q1 q2:Addr)(W:Fs.Win):Prop where
 ob:∃dx,H a=some (.ins C dx (winF q1 q2))
 lo:H q1=some (.lst (vi W.lows))
 cn:H q2=some (.lst (vi W.cnts))
 ne:q1≠q2
theorem j8(wd:Int)(W:Fs.Win)(x:Int × Int × Int):(W.take1 wd x).lows.length=W.lows.length/\(W.take1 wd x).cnts.length=W.cnts.length:=by
 unfold Fs.Win.take1
 simp only
 split
 ·simp
 ·split <;> simp
section
variable {P:Program}{w:World}{K:PySem.W.Frag}{mg:Str->Option Value}{base:Heap}{aS aL aG:Addr}
abbrev sWiden:Stmt:=inClass (top 12) 1
inductive jB(CW CA:Addr)(vs:List V)(H:Hp)(Q:VK):Prop
 |mk:∀(a q1 q2 b p1 p2 p3:Addr) (W:Fs.Win) (x:Fs.Arcs) (right:Nat),(vs=[.ref a,.ref b,.int right])->(WinAt CW H a q1 q2 W)->(ArcsAt CA H b p1 p2 p3 x)->(q1∉[p1,p2,p3])->(q2∉[p1,p2,p3])->(x.cs.length=x.pl.length)->(x.ws.length=x.pl.length)->(W.cnts.length=W.lows.length)->((∀z∈x.pl,0<=(right:Int)-4-1-z/\((right:Int)-4-1-z).toNat<W.lows.length))->(∀H':Hp,WinAt CW H' a q1 q2 (W.widen x right)->(∀b o,H b=some o->b∉[q1,q2]->H' b=some o)->Q .non H')->jB CW CA vs H Q
def spWiden(CW CA:Addr):Sp:=fun vs H Q _=>jB CW CA vs H Q
theorem scWiden:aB ["self","arcs","right","lows","counts","widest","before","cost","ways","span"] ["self","arcs","right"] (ax sWiden):=⟨rfl,rfl,rfl,by decide+kernel,rfl,by decide+kernel,by decide+kernel⟩
theorem ub{x:Fs.Arcs}{i:Nat}{a b c:Int}(h1:x.pl[i]?=some a)(h2:x.cs[i]?=some b)(h3:x.ws[i]?=some c):x.trip[i]?=some (a,b,c):=by
 unfold Fs.Arcs.trip
 rw [List.getElem?_zip_eq_some]
 refine⟨h1,?_⟩
 rw [List.getElem?_zip_eq_some];exact⟨h2,h3⟩
theorem qL{f CW CA:Addr}{fd:FuncData}(F:Fun K "widen" "Window.widen" sWiden f fd)(T:Txt K mg aS aL aG)(FW:ClsF K CW winN)(FA:ClsF K CA arcN):FnOk P w K mg base CX0 1 f fd ["self","arcs","right"] (spWiden CW CA):=by
 refine F.ok scWiden (fun vs H Q E h=>?_) (fun cdv A outer s H vs Q E hr h=>?_)
 ·obtain⟨_,_,_,_,_,_,_,_,_,_,rfl,_⟩:=h
  rfl
 ·obtain⟨a,q1,q2,b,p1,p2,p3,W,x,right,rfl,hW,hA,nq1,nq2,l1,l2,l3,hin,k⟩:=h
  obtain⟨dxw,hw⟩:=hW.ob
  obtain⟨dxa,ha⟩:=hA.ob
  have nd:=scWiden.nd
  refine⟨_,ab (aw (i:=3) nd rfl (Or.inl rfl) (ah (pv 0) rfl)) (ab (aw (i:=4) nd rfl (Or.inl rfl) (ah (pv 0) rfl))
   (ab (aw (i:=5) nd rfl (Or.inl rfl) (ao aN (ao aN (pv 2) (bh T.nearest)) af))
   (ak (de PassesOwn.never rfl (uk rfl T.zip (aa (ah (pv 1) rfl) (aa (ah (pv 1) rfl) (aa (ah (pv 1) rfl) ag))))
    (rQ (i:=6) (j:=7) (k:=8) K rfl rfl nd rfl rfl rfl (Or.inl rfl) (Or.inl rfl) (Or.inl rfl) (.inr rfl) (.inr rfl) (.inr rfl))
    (ab (aw (i:=9) nd rfl (Or.inl rfl) (ao aN (pv 5) (pv 6)))
    (ak (br (aK dS (pv 7) (aq au (pv 3) (pv 9) (fun _ _=>rfl)) (aX _))
     (ab (bY (pv 7) (bZ (pv 3) (pv 9) set_list)) (ak (bY (pv 8) (bZ (pv 4) (pv 9) set_list))))
     (ak (br (aK dv (pv 7) (aq au (pv 3) (pv 9) (fun _ _=>rfl)) (aX _))
      (ak (ui (pv 4) (pv 9) sY (pv 8) mX set_list)) aQ))))))))),?_⟩
  refine⟨_,rfl,a,CW,dxw,_,_,rfl,hw,FW.cl,FW.no 0 _ rfl,rfl,_,rfl,a,CW,dxw,_,_,rfl,hw,FW.cl,FW.no 1 _ rfl,rfl,_,rfl,_,_,rfl,rfl,_,_,rfl,rfl,?_⟩
  refine⟨_,rfl,b,CA,dxa,_,_,rfl,ha,FA.cl,FA.no 0 _ rfl,rfl,_,rfl,b,CA,dxa,_,_,rfl,ha,FA.cl,FA.no 1 _ rfl,rfl,_,rfl,b,CA,dxa,_,_,rfl,ha,FA.cl,FA.no 2 _ rfl,rfl,?_⟩
  refine⟨p1,p2,p3,_,_,_,rfl,SqL.of hA.pl,SqL.of hA.cs,SqL.of hA.ws,?_⟩
  let Wi:Nat->Fs.Win:=fun i=>(x.trip.take i).foldl (Fs.Win.take1 ((right:Int)-4-1)) W
  have lenW:∀i,(Wi i).lows.length=W.lows.length/\(Wi i).cnts.length=W.lows.length:=fun i=>by
   show (((x.trip.take i).foldl (Fs.Win.take1 ((right:Int)-4-1)) W).lows.length=W.lows.length/\((x.trip.take i).foldl (Fs.Win.take1 ((right:Int)-4-1)) W).cnts.length=W.lows.length)
   generalize x.trip.take i=tl
   have:∀(tl:List (Int × Int × Int)) (W0:Fs.Win),(tl.foldl (Fs.Win.take1 ((right:Int)-4-1)) W0).lows.length=W0.lows.length/\(tl.foldl (Fs.Win.take1 ((right:Int)-4-1)) W0).cnts.length=W0.cnts.length:=by
    intro tl
    induction tl with
    |nil=>intro W0;exact⟨rfl,rfl⟩
    |cons y tl ih=>
     intro W0
     rw [List.foldl_cons]
     have:=j8 ((right:Int)-4-1) W0 y
     have:=ih (W0.take1 ((right:Int)-4-1) y)
     omega
   have:=this tl W
   omega
  simp only [List.mem_cons,List.not_mem_nil,or_false,not_or] at nq1 nq2
  have kp:∀{H':Hp},(∀b o,H b=some o->b∉[q1,q2]->H' b=some o)->∀{q:Addr} {o:HO},H q=some o->q≠q1->q≠q2->H' q=some o:=fun z q o e e1 e2=>z _ _ e (by
   simp only [List.mem_cons,List.not_mem_nil,or_false,not_or];exact⟨e1,e2⟩)
  refine tf (K:=K) (a:=p1) (b:=p2) (c:=p3) (xs:=vi x.pl) (ys:=vi x.cs) (zs:=vi x.ws) (fun i σ H'=>∃v6 v7 v8 v9:Option V,σ=[some (.ref a),some (.ref b),some (.int right),some (.ref q1),some (.ref q2),some (.int ((right:Int)-4-1)),v6,v7,v8,v9]/\
    WinAt CW H' a q1 q2 (Wi i)/\(∀b o,H b=some o->b∉[q1,q2]->H' b=some o)) ⟨none,none,none,none,rfl,hW,fun _ _ e _=>e⟩ (by rw [az,az];exact l1) (by rw [az,az];exact l2)
   (fun i σ H' _ ⟨_,_,_,_,_,_,z⟩=>⟨SqL.of (kp z hA.pl (Ne.symm nq1.1) (Ne.symm nq2.1)),SqL.of (kp z hA.cs (Ne.symm nq1.2.1) (Ne.symm nq2.2.1)),SqL.of (kp z hA.ws (Ne.symm nq1.2.2) (Ne.symm nq2.2.2))⟩) ?_ ?_
  ·rintro i σ H' vx vy vz TT gx gy gz ⟨v6,v7,v8,v9,rfl,hWi,kept⟩ hT
   obtain⟨pz,g1,rfl⟩:=cg gx
   obtain⟨cz,g2,rfl⟩:=cg gy
   obtain⟨nz,g3,rfl⟩:=cg gz
   have hz:=hin pz (List.mem_of_getElem? g1)
   generalize hsp:((right:Int)-4-1-pz).toNat=sp at hz
   have esp:(right:Int)-4-1-pz=(sp:Int):=by omega
   obtain⟨lw1,lw2⟩:=lenW i
   have hWs:Wi (i+1)=(Wi i).take1 ((right:Int)-4-1) (pz,cz,nz):=by
    show (x.trip.take (i+1)).foldl _ W=_
    rw [take_snoc (ub g1 g2 g3),List.foldl_append];rfl
   unfold Fs.Win.take1 at hWs
   simp only [hsp] at hWs
   have kept2:∀b o,H b=some o->b∉[q1,q2]->(upd H' TT (.tup [.int pz,.int cz,.int nz])) b=some o:=fun b o e hb=>aZ (kept b o e hb) hT
   have hlo:=aZ (o:=.tup [.int pz,.int cz,.int nz]) hWi.lo hT
   have hcn:=aZ (o:=.tup [.int pz,.int cz,.int nz]) hWi.cn hT
   obtain⟨dxv,hob⟩:=hWi.ob
   have hob:=aZ (o:=.tup [.int pz,.int cz,.int nz]) hob hT
   refine⟨TT,_,rfl,SqT.of ae,rfl,_,_,rfl,_,_,rfl,_,_,rfl,rfl,?_⟩
   generalize upd H' TT (.tup [.int pz,.int cz,.int nz])=H1 at kept2 hlo hcn hob ⊢
   have a1:a≠q1:=fun z=>by rw [z,hlo] at hob;cases hob
   have a2:a≠q2:=fun z=>by rw [z,hcn] at hob;cases hob
   refine⟨_,rfl,_,rfl,_,_,rfl,rfl,?_⟩
   have hat:atI (vi (Wi i).lows) ((right:Int)-4-1-pz)=some (V.int (Fs.g (Wi i).lows sp)):=bq esp (by omega)
   refine⟨_,rfl,_,rfl,_,rfl,q1,_,_,_,rfl,rfl,SqL.of hlo,hat,_,_,rfl,rfl,_,rfl,?_⟩
   refine ite2 (fun c=>?_) (fun c=>?_)
   ·have c:cz<Fs.g (Wi i).lows sp:=of_decide_eq_true c
    rw [if_pos c] at hWs
    refine⟨_,rfl,_,rfl,_,rfl,q1,_,_,sp,rfl,rfl,hlo,nY esp (by rw [az];omega),?_⟩
    rw [bU]
    refine⟨_,rfl,_,rfl,_,rfl,q2,_,_,sp,rfl,rfl,ai hcn (Ne.symm hWi.ne),nY esp (by rw [az];omega),?_⟩
    rw [bU]
    refine⟨_,_,_,_,rfl,?_,fun b o e hb=>?_⟩
    ·rw [hWs]
     exact⟨⟨dxv,ai (ai hob a1) a2⟩,ai ae hWi.ne,ae,hWi.ne⟩
    ·have hb':=hb
     simp only [List.mem_cons,List.not_mem_nil,or_false,not_or] at hb'
     exact ai (ai (kept2 b o e hb) hb'.1) hb'.2
   ·have c:¬cz<Fs.g (Wi i).lows sp:=fun z=>c (decide_eq_true z)
    rw [if_neg c] at hWs
    refine⟨_,rfl,_,rfl,_,rfl,q1,_,_,_,rfl,rfl,SqL.of hlo,hat,rfl,_,rfl,?_⟩
    refine ite2 (fun c=>?_) (fun c=>?_)
    ·have c:cz=Fs.g (Wi i).lows sp:=by
      have:=of_decide_eq_true c
      injection this
     rw [if_pos c] at hWs
     refine⟨_,rfl,_,rfl,q2,_,_,sp,_,rfl,rfl,SqL.of hcn,esp,vR (by omega),_,rfl,_,_,rfl,rfl,q2,_,_,sp,rfl,rfl,hcn,nY esp (by rw [az];omega),?_⟩
     rw [bU]
     refine⟨_,_,_,_,rfl,?_,fun b o e hb=>?_⟩
     ·rw [hWs]
      exact⟨⟨dxv,ai hob a2⟩,ai hlo hWi.ne,ae,hWi.ne⟩
     ·have hb':=hb
      simp only [List.mem_cons,List.not_mem_nil,or_false,not_or] at hb'
      exact ai (kept2 b o e hb) hb'.2
    ·have c:¬cz=Fs.g (Wi i).lows sp:=fun z=>c (decide_eq_true (by rw [z]))
     rw [if_neg c] at hWs
     refine⟨_,_,_,_,rfl,?_,kept2⟩
     rw [hWs]
     exact⟨⟨dxv,hob⟩,hlo,hcn,hWi.ne⟩
  ·rintro σ H' ⟨_,_,_,_,rfl,hWi,kept⟩
   refine k H' ?_ kept
   have:Wi (vi x.pl).length=W.widen x right:=by
    show (x.trip.take _).foldl _ W=_
    rw [List.take_of_length_le]
    ·rfl
    ·unfold Fs.Arcs.trip
     rw [List.length_zip,az]
     omega
   rw [<-this];exact hWi
end
end Pg
end
section
namespace Pg
open PySem PySem.Spec PyProof.Rows L2 L3
theorem ja{l:List Int}{a b:Nat}(h1:a<=b)(h2:b<=l.length):cutV (vi l) (some (a:Int)) (some (b:Int))=vi ((l.drop a).take (b-a)):=by
 have e:∀(k d:Nat),k<=l.length->HT.sIx (vi l).length d (some (k:Int))=k:=fun k d hk=>by
  rw [az]
  unfold HT.sIx
  simp only
  split <;> omega
 unfold cutV
 rw [e a 0 (by omega),e b _ h2]
 simp [vi,List.map_take,List.map_drop]
theorem Grown.lst{p q C dx:Addr}{H H':Hp}{fs:List (Str × V)}{xs:List V}(g:Grown p H H')(hp:H p=some (.ins C dx fs))(hq:H q=some (.lst xs)):H' q=some (.lst xs):=g _ _ hq fun e=>by rw [e,hp] at hq;cases hq
theorem Grown.trans{p:Addr}{H H1 H2:Hp}(a:Grown p H H1)(b:Grown p H1 H2):Grown p H H2:=fun c o e h=>b c o (a c o e h) h
theorem Grown.of_same{p:Addr}{H H1:Hp}(a:Same H H1):Grown p H H1:=fun c o e _=>a c o e
theorem Grown.upd{p:Addr}{H:Hp}{o:HO}:Grown p H (upd H p o):=fun c u e h=>ai e h
section
variable {P:Program}{w:World}{K:PySem.W.Frag}{mg:Str->Option Value}{base:Heap}{aS aL aG:Addr}
abbrev tabF(q1 q2 q3 q4:Addr)(x y z:Int):List (Str × V):=[("stacks",.ref q1),("ends",.ref q2),("sides",.ref q3),("both_sides",.ref q4),("many_once",.int x),("many_pair",.int y),("many_letter",.int z)]
abbrev tabN:List Str:=["stacks","ends","sides","both_sides","many_once","many_pair","many_letter"]
structure TabAt(C:Addr)(H:Hp)(a:Addr)(t:Fs.Tab):Prop where
 ex:∃dx q1 q2 q3 q4,H a=some (.ins C dx (tabF q1 q2 q3 q4 t.once t.pair t.letter))/\H q1=some (.lst (vi t.stacks))/\H q2=some (.lst (vi t.ends))/\H q3=some (.lst (vi t.sides))/\H q4=some (.lst (vi t.both))
theorem TabAt.same{C a:Addr}{H H':Hp}{t:Fs.Tab}(h:TabAt C H a t)(s:Same H H'):TabAt C H' a t:=by
 obtain⟨dx,q1,q2,q3,q4,h0,h1,h2,h3,h4⟩:=h.ex
 exact⟨dx,q1,q2,q3,q4,s _ _ h0,s _ _ h1,s _ _ h2,s _ _ h3,s _ _ h4⟩
abbrev sTabI:Stmt:=inClass (top 20) 0
inductive mB(K:PySem.W.Frag)(C:Addr)(vs:List V)(H:Hp)(Q:VK):Prop
 |mk:∀(p dx a:Addr) (ns:List Int) (sc:Int),(vs=[.ref p,.ref a,.int sc])->(H p=some (.ins C dx []))->(SqL K H a (vi ns))->(ns.length=132)->((∀x∈ns,-10000<=x/\x<=10000))->(∀H':Hp,TabAt C H' p (Fs.tables ns sc)->Grown p H H'->Q .non H')->mB K C vs H Q
def spTabI(K:PySem.W.Frag)(C:Addr):Sp:=fun vs H Q _=>mB K C vs H Q
theorem scTabI:aB ["self","numbers","scale","scaled","number"] ["self","numbers","scale"] (ax sTabI):=⟨rfl,rfl,rfl,by decide+kernel,rfl,by decide+kernel,by decide+kernel⟩
theorem eT{p a:Addr}{H H':Hp}{C dx:Addr}{fs:List (Str × V)}{xs:List V}(g:Grown p H H')(hp:H p=some (.ins C dx fs))(h:SqL K H a xs):SqL K H' a xs:=by
 rcases h with (h |⟨o,h⟩)|h
 ·exact .inl (.inl (g.lst hp h))
 ·exact .inl (.inr ⟨o,g _ _ h fun e=>by rw [e,hp] at h;cases h⟩)
 ·exact .inr h
theorem tZ{f C:Addr}{fd:FuncData}(F:Fun K "__init__" "Tables.__init__" sTabI f fd)(T:Txt K mg aS aL aG)(CA:ClsF K C tabN)(FS:Fn P w K mg base 1 "stretched" ["numbers"] spStretched):FnOk P w K mg base CX0 2 f fd ["self","numbers","scale"] (spTabI K C):=by
 refine F.ok scTabI (fun vs H Q E h=>?_) (fun cdv A outer s H vs Q E hr h=>?_)
 ·obtain⟨_,_,_,_,_,rfl,_⟩:=h
  rfl
 ·obtain⟨p,dx,a,ns,sc,rfl,hp,hS,hlen,hbd,k⟩:=h
  have nd:=scTabI.nd
  refine⟨_,ab (bW (i:=3) (own:=[("number",4)]) rfl nd rfl rfl (cu rfl rfl rfl rfl) (cX (pv 1)) (bf (by kernel_rfl)) (fun _ _ _ _ _=>by exact bb (i:=4) nd rfl (Or.inl rfl)) (fun _ _ _ _ _=>by exact bG) (fun _ _ _ _ _=>by exact ao c9 (pv 4) (pv 2)))
   (ab (aT (pv 0) (dq eO (pv 3) (bM af) (bM af)) rfl)
   (ab (aT (pv 0) (aW FS hr (aa (dq eO (pv 3) (bM af) (bM af)) ag)) rfl)
   (ab (aT (pv 0) (aW FS hr (aa (dq eO (pv 3) (bM af) (bM af)) ag)) rfl)
   (ab (aT (pv 0) (aW FS hr (aa (dq eO (pv 3) (bM af) (bM af)) ag)) rfl)
   (ab (aT (pv 0) (aq au (pv 3) af (fun _ _=>rfl)) rfl)
   (ab (aT (pv 0) (aq au (pv 3) af (fun _ _=>rfl)) rfl)
   (ak (aT (pv 0) (aq au (pv 3) af (fun _ _=>rfl)) rfl)))))))),?_⟩
  refine⟨_,rfl,a,rfl,⟨_,hS⟩,fun D hD=>?_⟩
  refine fY (K:=K) (a:=a) (xs:=vi ns) (LcP H D fun i=>vi ((ns.take i).map (· *sc))) (LcP.zero hD rfl) (fun i H' _ z=>z.1.seq hS) ?_ ?_
  ·rintro i x H' hx ⟨sm,hx'⟩
   obtain⟨x,hx2,rfl⟩:=cg hx
   have hb:=hbd x (List.mem_of_getElem? hx2)
   refine⟨rfl,?_⟩
   refine⟨_,rfl,_,rfl,_,_,rfl,rfl,.inl (by omega),LcP.put hD sm hx' ?_ ?_⟩
   ·refine small1000 ?_
    rw [az,List.length_map,List.length_take];omega
   ·show vi _=_
    rw [take_snoc hx2,List.map_append,bu];rfl
  ·rintro H1 ⟨sm,hx'⟩
   dsimp only at hx'
   rw [az,List.take_length] at hx'
   have g0:Grown p H H1:=Grown.of_same sm
   have e0:=sm _ _ hp
   have hsl:(ns.map (· *sc)).length=132:=by rw [List.length_map];exact hlen
   unfold Fs.tables at k
   simp only at k
   generalize hsc:ns.map (· *sc)=scd at hx' hsl k
   refine⟨_,rfl,_,rfl,_,rfl,D,_,rfl,SqL.of hx',fun q1 hq1=>⟨_,rfl,p,C,dx,_,rfl,aZ e0 hq1,CA.cl,CA.no 0 _ rfl,(by show 0<1000;decide),?_⟩⟩
   rw [show cutV (List.map V.int scd) (some 0) (some 36)=vi (scd.take 36) from ja (a:=0) (b:=36) (by decide) (by omega)]
   have g1:Grown p H1 (upd (upd H1 q1 (.lst (vi (scd.take 36)))) p (.ins C dx [("stacks",.ref q1)])):=(Grown.of_same (aj hq1)).trans Grown.upd
   have e1:(upd (upd H1 q1 (.lst (vi (scd.take 36)))) p (.ins C dx [("stacks",.ref q1)])) p=some (.ins C dx [("stacks",.ref q1)]):=ae
   have d1:(upd (upd H1 q1 (.lst (vi (scd.take 36)))) p (.ins C dx [("stacks",.ref q1)])) q1=some (.lst (vi (scd.take 36))):=(Grown.upd).lst (aZ e0 hq1) ae
   show tSeq _ _ _ _ (upd (upd H1 q1 (.lst (vi (scd.take 36)))) p (.ins C dx [("stacks",.ref q1)]))
   generalize upd (upd H1 q1 (.lst (vi (scd.take 36)))) p (.ins C dx [("stacks",.ref q1)])=H2 at g1 e1 d1 ⊢
   have hx2:=g1.lst e0 hx'
   refine⟨_,rfl,_,rfl,_,rfl,D,_,rfl,SqL.of hx2,fun r2 hr2=>⟨r2,_,rfl,by
    rw [show cutV (List.map V.int scd) (some 36) (some 67)=vi ((scd.drop 36).take 31) from ja (a:=36) (b:=67) (by decide) (by omega)];exact ae,by rw [List.length_take,List.length_drop];omega,fun H3 q2 s3 d2=>⟨_,rfl,p,C,dx,_,rfl,s3 _ _ (aZ e1 hr2),CA.cl,CA.no 1 _ rfl,(by show 1<1000;decide),?_⟩⟩⟩
   have g2:Grown p H2 (upd H3 p (.ins C dx [("stacks",.ref q1),("ends",.ref q2)])):=((Grown.of_same (aj hr2)).trans (Grown.of_same s3)).trans Grown.upd
   have e2:(upd H3 p (.ins C dx [("stacks",.ref q1),("ends",.ref q2)])) p=some (.ins C dx [("stacks",.ref q1),("ends",.ref q2)]):=ae
   have d2:(upd H3 p (.ins C dx [("stacks",.ref q1),("ends",.ref q2)])) q2=some (.lst (vi (Fs.stretched ((scd.drop 36).take 31)))):=(Grown.upd).lst (s3 _ _ (aZ e1 hr2)) d2
   show tSeq _ _ _ _ (upd H3 p (.ins C dx [("stacks",.ref q1),("ends",.ref q2)]))
   generalize upd H3 p (.ins C dx [("stacks",.ref q1),("ends",.ref q2)])=H4 at g2 e2 d2 ⊢
   have hx3:=g2.lst e1 hx2
   refine⟨_,rfl,_,rfl,_,rfl,D,_,rfl,SqL.of hx3,fun r3 hr3=>⟨r3,_,rfl,by
    rw [show cutV (List.map V.int scd) (some 67) (some 98)=vi ((scd.drop 67).take 31) from ja (a:=67) (b:=98) (by decide) (by omega)];exact ae,by rw [List.length_take,List.length_drop];omega,fun H5 q3 s5 d3=>⟨_,rfl,p,C,dx,_,rfl,s5 _ _ (aZ e2 hr3),CA.cl,CA.no 2 _ rfl,(by show 2<1000;decide),?_⟩⟩⟩
   have g3:Grown p H4 (upd H5 p (.ins C dx [("stacks",.ref q1),("ends",.ref q2),("sides",.ref q3)])):=((Grown.of_same (aj hr3)).trans (Grown.of_same s5)).trans Grown.upd
   have e3:(upd H5 p (.ins C dx [("stacks",.ref q1),("ends",.ref q2),("sides",.ref q3)])) p=some (.ins C dx [("stacks",.ref q1),("ends",.ref q2),("sides",.ref q3)]):=ae
   have d3:(upd H5 p (.ins C dx [("stacks",.ref q1),("ends",.ref q2),("sides",.ref q3)])) q3=some (.lst (vi (Fs.stretched ((scd.drop 67).take 31)))):=(Grown.upd).lst (s5 _ _ (aZ e2 hr3)) d3
   show tSeq _ _ _ _ (upd H5 p (.ins C dx [("stacks",.ref q1),("ends",.ref q2),("sides",.ref q3)]))
   generalize upd H5 p (.ins C dx [("stacks",.ref q1),("ends",.ref q2),("sides",.ref q3)])=H6 at g3 e3 d3 ⊢
   have hx4:=g3.lst e2 hx3
   refine⟨_,rfl,_,rfl,_,rfl,D,_,rfl,SqL.of hx4,fun r4 hr4=>⟨r4,_,rfl,by
    rw [show cutV (List.map V.int scd) (some 98) (some 129)=vi ((scd.drop 98).take 31) from ja (a:=98) (b:=129) (by decide) (by omega)];exact ae,by rw [List.length_take,List.length_drop];omega,fun H7 q4 s7 d4=>⟨_,rfl,p,C,dx,_,rfl,s7 _ _ (aZ e3 hr4),CA.cl,CA.no 3 _ rfl,(by show 3<1000;decide),?_⟩⟩⟩
   have g4:Grown p H6 (upd H7 p (.ins C dx [("stacks",.ref q1),("ends",.ref q2),("sides",.ref q3),("both_sides",.ref q4)])):=((Grown.of_same (aj hr4)).trans (Grown.of_same s7)).trans Grown.upd
   have e4:(upd H7 p (.ins C dx [("stacks",.ref q1),("ends",.ref q2),("sides",.ref q3),("both_sides",.ref q4)])) p=some (.ins C dx [("stacks",.ref q1),("ends",.ref q2),("sides",.ref q3),("both_sides",.ref q4)]):=ae
   have d4:(upd H7 p (.ins C dx [("stacks",.ref q1),("ends",.ref q2),("sides",.ref q3),("both_sides",.ref q4)])) q4=some (.lst (vi (Fs.stretched ((scd.drop 98).take 31)))):=(Grown.upd).lst (s7 _ _ (aZ e3 hr4)) d4
   show tSeq _ _ _ _ (upd H7 p (.ins C dx [("stacks",.ref q1),("ends",.ref q2),("sides",.ref q3),("both_sides",.ref q4)]))
   generalize upd H7 p (.ins C dx [("stacks",.ref q1),("ends",.ref q2),("sides",.ref q3),("both_sides",.ref q4)])=H8 at g4 e4 d4 ⊢
   have hx5:=g4.lst e3 hx4
   refine⟨_,rfl,D,_,_,_,rfl,rfl,SqL.of hx5,bC (i:=129) (by omega),_,rfl,p,C,dx,_,rfl,e4,CA.cl,CA.no 4 _ rfl,(by show 4<1000;decide),?_⟩
   refine⟨_,rfl,D,_,_,_,rfl,rfl,SqL.of ((Grown.upd).lst e4 hx5),bC (i:=130) (by omega),_,rfl,p,C,dx,_,rfl,ae,CA.cl,CA.no 5 _ rfl,(by show 5<1000;decide),?_⟩
   refine⟨_,rfl,D,_,_,_,rfl,rfl,SqL.of ((Grown.upd).lst ae ((Grown.upd).lst e4 hx5)),bC (i:=131) (by omega),_,rfl,p,C,dx,_,rfl,ae,CA.cl,CA.no 6 _ rfl,(by show 6<1000;decide),?_⟩
   have gz:Grown p H8 (upd (upd (upd H8 p (.ins C dx (putF "many_once" (.int (Fs.g scd 129)) [("stacks",.ref q1),("ends",.ref q2),("sides",.ref q3),("both_sides",.ref q4)]))) p (.ins C dx (putF "many_pair" (.int (Fs.g scd 130)) (putF "many_once" (.int (Fs.g scd 129)) [("stacks",.ref q1),("ends",.ref q2),("sides",.ref q3),("both_sides",.ref q4)])))) p
    (.ins C dx (putF "many_letter" (.int (Fs.g scd 131)) (putF "many_pair" (.int (Fs.g scd 130)) (putF "many_once" (.int (Fs.g scd 129)) [("stacks",.ref q1),("ends",.ref q2),("sides",.ref q3),("both_sides",.ref q4)]))))):=(Grown.upd.trans Grown.upd).trans Grown.upd
   refine k _ ⟨dx,q1,q2,q3,q4,?_,?_,?_,?_,?_⟩ ((((((g0.trans g1).trans g2).trans g3).trans g4)).trans gz)
   ·rw [ae];rfl
   ·exact gz.lst e4 (g4.lst e3 (g3.lst e2 (g2.lst e1 d1)))
   ·exact gz.lst e4 (g4.lst e3 (g3.lst e2 d2))
   ·exact gz.lst e4 (g4.lst e3 d3)
   ·exact gz.lst e4 d4
abbrev prcF(ta:Addr)(far:Int)(o c:Addr)(m:V)(wt:Int)(bd:Addr):List (Str × V):=[("tables",.ref ta),("far",.int far),("opening",.ref o),("closing",.ref c),("mark",m),("weight",.int wt),("both_down",.ref bd)]
abbrev prcN:List Str:=["tables","far","opening","closing","mark","weight","both_down"]
abbrev sPrcI:Stmt:=inClass (top 9) 0
inductive lB(C CT:Addr)(vs:List V)(H:Hp)(Q:VK):Prop
 |mk:∀(p dx ta o c:Addr) (m:V) (z:Fs.Prc),(vs=[.ref p,.ref ta,.int z.far,.ref o,.ref c,m,.int z.weight])->(H p=some (.ins C dx []))->(TabAt CT H ta z.tab)->(z.tab.both.length=100)->(∀(H':Hp) (bd:Addr),H' p=some (.ins C dx (prcF ta z.far o c m z.weight bd))->H' bd=some (.lst (vi z.down))->Grown p H H'->Q .non H')->lB C CT vs H Q
def spPrcI(C CT:Addr):Sp:=fun vs H Q _=>lB C CT vs H Q
theorem scPrcI:aB ["self","tables","far","opening","closing","mark","weight"] ["self","tables","far","opening","closing","mark","weight"] (ax sPrcI):=⟨rfl,rfl,rfl,by decide+kernel,rfl,by decide+kernel,by decide+kernel⟩
theorem tM{f C CT:Addr}{fd:FuncData}(F:Fun K "__init__" "Prices.__init__" sPrcI f fd)(T:Txt K mg aS aL aG)(CA:ClsF K C prcN)(CB:ClsF K CT tabN):FnOk P w K mg base CX0 1 f fd ["self","tables","far","opening","closing","mark","weight"] (spPrcI C CT):=by
 refine F.ok scPrcI (fun vs H Q E h=>?_) (fun cdv A outer s H vs Q E hr h=>?_)
 ·obtain⟨_,_,_,_,_,_,_,rfl,_⟩:=h
  rfl
 ·obtain⟨p,dx,ta,o,c,m,z,rfl,hp,ht,hb,k⟩:=h
  obtain⟨dxt,t1,t2,t3,t4,h0,h1,h2,h3,h4⟩:=ht.ex
  refine⟨_,ab (aT (pv 0) (pv 1) rfl) (ab (aT (pv 0) (pv 2) rfl) (ab (aT (pv 0) (pv 3) rfl) (ab (aT (pv 0) (pv 4) rfl) (ab (aT (pv 0) (pv 5) rfl) (ab (aT (pv 0) (pv 6) rfl)
   (ak (aT (pv 0) (pU (ah (pv 1) rfl) (bM (ao aN (bh T.longest) af)) (bM af) (bM (cf bK af))) rfl))))))),?_⟩
  refine⟨_,rfl,_,rfl,p,C,dx,_,rfl,hp,CA.cl,CA.no 0 _ rfl,(by show 0<1000;decide),?_⟩
  refine⟨_,rfl,_,rfl,p,C,dx,_,rfl,ae,CA.cl,CA.no 1 _ rfl,(by show 1<1000;decide),?_⟩
  refine⟨_,rfl,_,rfl,p,C,dx,_,rfl,ae,CA.cl,CA.no 2 _ rfl,(by show 2<1000;decide),?_⟩
  refine⟨_,rfl,_,rfl,p,C,dx,_,rfl,ae,CA.cl,CA.no 3 _ rfl,(by show 3<1000;decide),?_⟩
  refine⟨_,rfl,_,rfl,p,C,dx,_,rfl,ae,CA.cl,CA.no 4 _ rfl,(by show 4<1000;decide),?_⟩
  refine⟨_,rfl,_,rfl,p,C,dx,_,rfl,ae,CA.cl,CA.no 5 _ rfl,(by show 5<1000;decide),?_⟩
  have gz:=(((((Grown.upd (p:=p) (H:=H) (o:=.ins C dx (putF "tables" (.ref ta) []))).trans (Grown.upd (o:=.ins C dx (putF "far" (.int z.far) (putF "tables" (.ref ta) []))))).trans
   (Grown.upd (o:=.ins C dx (putF "opening" (.ref o) (putF "far" (.int z.far) (putF "tables" (.ref ta) [])))))).trans (Grown.upd (o:=.ins C dx (putF "closing" (.ref c) (putF "opening" (.ref o) (putF "far" (.int z.far) (putF "tables" (.ref ta) []))))))).trans
   (Grown.upd (o:=.ins C dx (putF "mark" m (putF "closing" (.ref c) (putF "opening" (.ref o) (putF "far" (.int z.far) (putF "tables" (.ref ta) [])))))))).trans
   (Grown.upd (o:=.ins C dx (putF "weight" (.int z.weight) (putF "mark" m (putF "closing" (.ref c) (putF "opening" (.ref o) (putF "far" (.int z.far) (putF "tables" (.ref ta) []))))))))
  dsimp only
  generalize hH:upd (upd (upd (upd (upd (upd H p (.ins C dx (putF "tables" (.ref ta) []))) p (.ins C dx (putF "far" (.int z.far) (putF "tables" (.ref ta) [])))) p (.ins C dx (putF "opening" (.ref o) (putF "far" (.int z.far) (putF "tables" (.ref ta) []))))) p
   (.ins C dx (putF "closing" (.ref c) (putF "opening" (.ref o) (putF "far" (.int z.far) (putF "tables" (.ref ta) [])))))) p (.ins C dx (putF "mark" m (putF "closing" (.ref c) (putF "opening" (.ref o) (putF "far" (.int z.far) (putF "tables" (.ref ta) []))))))) p
   (.ins C dx (putF "weight" (.int z.weight) (putF "mark" m (putF "closing" (.ref c) (putF "opening" (.ref o) (putF "far" (.int z.far) (putF "tables" (.ref ta) [])))))))=H1 at gz
  have e1:H1 p=some (.ins C dx [("tables",.ref ta),("far",.int z.far),("opening",.ref o),("closing",.ref c),("mark",m),("weight",.int z.weight)]):=by rw [<-hH,ae];rfl
  have tp:ta≠p:=fun e=>by rw [e,hp] at h0;cases h0
  refine⟨_,rfl,ta,CT,dxt,_,_,rfl,gz _ _ h0 tp,CB.cl,CB.no 3 _ rfl,rfl,_,_,rfl,rfl,_,rfl,_,rfl,_,rfl,_,rfl,t4,_,rfl,SqL.of (gz.lst hp h4),(by decide),fun bd hbd=>⟨_,rfl,p,C,dx,_,rfl,aZ e1 hbd,CA.cl,CA.no 6 _ rfl,(by show 6<1000;decide),?_⟩⟩
  refine k _ bd (by rw [ae];rfl) ?_ ((gz.trans (Grown.of_same (aj hbd))).trans Grown.upd)
  have:=nc (vi z.tab.both) (by rw [az];exact hb)
  have e2:pickV (vi z.tab.both) (some (100-1)) (some 1) (some (-1))=vi z.down:=by
   rw [show (some ((100:Int)-1))=some 99 from rfl,this]
   unfold Fs.Prc.down
   simp [vi,List.map_take,List.map_drop,List.map_reverse]
  refine (Grown.upd).lst (aZ e1 hbd) ?_
  rw [ae]
  exact congrArg (fun q=>some (HO.lst q)) e2
end
end Pg
end
section
namespace Pg
open PySem PySem.Spec PyProof.Rows L2 L3
inductive Tg where
 |self |rows |arcs |rc |rw
 |row (l:Nat)|pc (l:Nat)|pw (l:Nat)|oc (l:Nat)|ow (l:Nat)|tc (l:Nat)|tw (l:Nat)
 |arc (r:Nat)|pl (r:Nat)|cs (r:Nat)|ws (r:Nat)
 deriving DecidableEq
def Tg.ok(n:Nat):Tg->Prop
 |.row l=>l<n+2
 |.pc l=>l<n+2
 |.pw l=>l<n+2
 |.oc l=>l<n+2
 |.ow l=>l<n+2
 |.tc l=>l<n+2
 |.tw l=>l<n+2
 |.arc r=>r<n
 |.pl r=>r<n
 |.cs r=>r<n
 |.ws r=>r<n
 |_=>True
structure Lay where
 ad:Tg->Addr
 dx:Tg->Addr
 n:Nat
 sA:Addr
 pA:Addr
 CS:Addr
 CR:Addr
 CA:Addr
abbrev srF(sA:Addr)(n:Int)(pA r a c w:Addr):List (Str × V):=[("strand",.ref sA),("size",.int n),("prices",.ref pA),("rows",.ref r),("arcs",.ref a),("rest_costs",.ref c),("rest_ways",.ref w)]
abbrev srN:List Str:=["strand","size","prices","rows","arcs","rest_costs","rest_ways"]
def Lay.cont(L:Lay)(S:Fs.Sr):Tg->HO
 |.self=>.ins L.CS (L.dx .self) (srF L.sA L.n L.pA (L.ad .rows) (L.ad .arcs) (L.ad .rc) (L.ad .rw))
 |.rows=>.lst ((List.range (L.n+2)).map fun l=>.ref (L.ad (.row l)))
 |.arcs=>.lst ((List.range L.n).map fun r=>.ref (L.ad (.arc r)))
 |.rc=>.lst (vi S.rc)
 |.rw=>.lst (vi S.rw)
 |.row l=>.ins L.CR (L.dx (.row l)) (rowF l (L.ad (.pc l)) (L.ad (.pw l)) (L.ad (.oc l)) (L.ad (.ow l)) (L.ad (.tc l)) (L.ad (.tw l)))
 |.pc l=>.lst (vi (S.row l).pc)
 |.pw l=>.lst (vi (S.row l).pw)
 |.oc l=>.lst (vi (S.row l).oc)
 |.ow l=>.lst (vi (S.row l).ow)
 |.tc l=>.lst (vi (S.row l).tc)
 |.tw l=>.lst (vi (S.row l).tw)
 |.arc r=>.ins L.CA (L.dx (.arc r)) (arcF (L.ad (.pl r)) (L.ad (.cs r)) (L.ad (.ws r)))
 |.pl r=>.lst (vi (S.arc r).pl)
 |.cs r=>.lst (vi (S.arc r).cs)
 |.ws r=>.lst (vi (S.arc r).ws)
structure SrAt(H0 H:Hp)(L:Lay)(S:Fs.Sr):Prop where
 inj:∀t u,t.ok L.n->u.ok L.n->L.ad t=L.ad u->t=u
 at_:∀t,t.ok L.n->H (L.ad t)=some (L.cont S t)
 new:∀t,t.ok L.n->H0 (L.ad t)=none
 old:Same H0 H
def Kept(L:Lay)(H H':Hp):Prop:=∀b o,H b=some o->(∀t,t.ok L.n->b≠L.ad t)->H' b=some o
theorem Kept.refl(L:Lay)(H:Hp):Kept L H H:=fun _ _ e _=>e
theorem Kept.trans{L:Lay}{H H1 H2:Hp}(a:Kept L H H1)(b:Kept L H1 H2):Kept L H H2:=fun c o e h=>b c o (a c o e h) h
theorem Kept.of_same{L:Lay}{H H1:Hp}(a:Same H H1):Kept L H H1:=fun c o e _=>a c o e
theorem Kept.upd{L:Lay}{H:Hp}{t:Tg}{o:HO}(h:t.ok L.n):Kept L H (upd H (L.ad t) o):=fun c u e hc=>ai e (hc t h)
theorem SrAt.same{H0 H H':Hp}{L:Lay}{S:Fs.Sr}(h:SrAt H0 H L S)(s:Same H H'):SrAt H0 H' L S:=⟨h.inj,fun t ht=>s _ _ (h.at_ t ht),h.new,h.old.trans s⟩
theorem SrAt.upd{H0 H:Hp}{L:Lay}{S S':Fs.Sr}{t0:Tg}{o:HO}(h:SrAt H0 H L S)(h0:t0.ok L.n)(hc:∀t,t.ok L.n->t≠t0->L.cont S' t=L.cont S t)(ho:L.cont S' t0=o):SrAt H0 (upd H (L.ad t0) o) L S':=by
 refine⟨h.inj,fun t ht=>?_,h.new,fun b u e=>ai (h.old b u e) fun z=>?_⟩
 ·by_cases e:t=t0
  ·subst e
   rw [ae,ho]
  ·rw [ai (h.at_ t ht) (fun z=>e (h.inj t t0 ht h0 z)),hc t ht e]
 ·have:=h.new t0 h0
  rw [<-z,e] at this
  cases this
def Rw(S:Fs.Sr)(l:Nat)(R:Fs.Row):Fs.Sr:={S with rows:=S.rows.set l R}
theorem Rw.row{S:Fs.Sr}{l k:Nat}{R:Fs.Row}(h:l<S.rows.length):(Rw S l R).row k=if l=k then R else S.row k:=Fs.ig h
theorem Rw.arc(S:Fs.Sr)(l r:Nat)(R:Fs.Row):(Rw S l R).arc r=S.arc r:=rfl
theorem Rw.self{S:Fs.Sr}{l:Nat}(h:l<S.rows.length):Rw S l (S.row l)=S:=by
 unfold Rw Fs.Sr.row
 have:S.rows.set l (S.rows.getD l default)=S.rows:=by
  rw [List.getD_eq_getElem?_getD,List.getElem?_eq_getElem h,Option.getD_some,List.set_getElem_self]
 rw [this]
section
variable {H0 H:Hp}{L:Lay}{S:Fs.Sr}{l:Nat}{R:Fs.Row}{x:List Int}
theorem SrAt.row_pc(h:SrAt H0 H L (Rw S l R))(hl:l<S.rows.length)(hn:l<L.n+2):SrAt H0 (L2.upd H (L.ad (.pc l)) (.lst (vi x))) L (Rw S l {R with pc:=x}):=by
 refine h.upd hn (fun t hok ht=>?_) (by show HO.lst (vi ((Rw S l _).row l).pc)=_;rw [Rw.row hl,if_pos rfl])
 cases t <;> first |rfl |skip
 all_goals (rename_i k;simp only [Lay.cont,Rw.row hl];by_cases e:l=k;(first |(subst e;exact absurd rfl ht)|(rw [if_pos e,if_pos e]));rw [if_neg e,if_neg e])
theorem SrAt.row_pw(h:SrAt H0 H L (Rw S l R))(hl:l<S.rows.length)(hn:l<L.n+2):SrAt H0 (L2.upd H (L.ad (.pw l)) (.lst (vi x))) L (Rw S l {R with pw:=x}):=by
 refine h.upd hn (fun t hok ht=>?_) (by show HO.lst (vi ((Rw S l _).row l).pw)=_;rw [Rw.row hl,if_pos rfl])
 cases t <;> first |rfl |skip
 all_goals (rename_i k;simp only [Lay.cont,Rw.row hl];by_cases e:l=k;(first |(subst e;exact absurd rfl ht)|(rw [if_pos e,if_pos e]));rw [if_neg e,if_neg e])
theorem SrAt.row_oc(h:SrAt H0 H L (Rw S l R))(hl:l<S.rows.length)(hn:l<L.n+2):SrAt H0 (L2.upd H (L.ad (.oc l)) (.lst (vi x))) L (Rw S l {R with oc:=x}):=by
 refine h.upd hn (fun t hok ht=>?_) (by show HO.lst (vi ((Rw S l _).row l).oc)=_;rw [Rw.row hl,if_pos rfl])
 cases t <;> first |rfl |skip
 all_goals (rename_i k;simp only [Lay.cont,Rw.row hl];by_cases e:l=k;(first |(subst e;exact absurd rfl ht)|(rw [if_pos e,if_pos e]));rw [if_neg e,if_neg e])
theorem SrAt.row_ow(h:SrAt H0 H L (Rw S l R))(hl:l<S.rows.length)(hn:l<L.n+2):SrAt H0 (L2.upd H (L.ad (.ow l)) (.lst (vi x))) L (Rw S l {R with ow:=x}):=by
 refine h.upd hn (fun t hok ht=>?_) (by show HO.lst (vi ((Rw S l _).row l).ow)=_;rw [Rw.row hl,if_pos rfl])
 cases t <;> first |rfl |skip
 all_goals (rename_i k;simp only [Lay.cont,Rw.row hl];by_cases e:l=k;(first |(subst e;exact absurd rfl ht)|(rw [if_pos e,if_pos e]));rw [if_neg e,if_neg e])
theorem SrAt.row_tc(h:SrAt H0 H L (Rw S l R))(hl:l<S.rows.length)(hn:l<L.n+2):SrAt H0 (L2.upd H (L.ad (.tc l)) (.lst (vi x))) L (Rw S l {R with tc:=x}):=by
 refine h.upd hn (fun t hok ht=>?_) (by show HO.lst (vi ((Rw S l _).row l).tc)=_;rw [Rw.row hl,if_pos rfl])
 cases t <;> first |rfl |skip
 all_goals (rename_i k;simp only [Lay.cont,Rw.row hl];by_cases e:l=k;(first |(subst e;exact absurd rfl ht)|(rw [if_pos e,if_pos e]));rw [if_neg e,if_neg e])
theorem SrAt.row_tw(h:SrAt H0 H L (Rw S l R))(hl:l<S.rows.length)(hn:l<L.n+2):SrAt H0 (L2.upd H (L.ad (.tw l)) (.lst (vi x))) L (Rw S l {R with tw:=x}):=by
 refine h.upd hn (fun t hok ht=>?_) (by show HO.lst (vi ((Rw S l _).row l).tw)=_;rw [Rw.row hl,if_pos rfl])
 cases t <;> first |rfl |skip
 all_goals (rename_i k;simp only [Lay.cont,Rw.row hl];by_cases e:l=k;(first |(subst e;exact absurd rfl ht)|(rw [if_pos e,if_pos e]));rw [if_neg e,if_neg e])
theorem SrAt.set_rc(h:SrAt H0 H L S):SrAt H0 (L2.upd H (L.ad .rc) (.lst (vi x))) L {S with rc:=x}:=by
 refine h.upd trivial (fun t hok ht=>?_) rfl
 cases t <;> first |rfl |exact absurd rfl ht
theorem SrAt.set_rw(h:SrAt H0 H L S):SrAt H0 (L2.upd H (L.ad .rw) (.lst (vi x))) L {S with rw:=x}:=by
 refine h.upd trivial (fun t hok ht=>?_) rfl
 cases t <;> first |rfl |exact absurd rfl ht
theorem SrAt.arcsAt(h:SrAt H0 H L S){r:Nat}(hr:r<L.n):ArcsAt L.CA H (L.ad (.arc r)) (L.ad (.pl r)) (L.ad (.cs r)) (L.ad (.ws r)) (S.arc r):=by
 refine⟨⟨_,h.at_ (.arc r) hr⟩,h.at_ (.pl r) hr,h.at_ (.cs r) hr,h.at_ (.ws r) hr,?_⟩
 simp only [List.nodup_cons,List.mem_cons,List.not_mem_nil,or_false,not_or,List.nodup_nil,and_true,not_false_eq_true]
 refine⟨⟨fun e=>?_,fun e=>?_⟩,fun e=>?_⟩
 ·cases h.inj (.pl r) (.cs r) hr hr e
 ·cases h.inj (.pl r) (.ws r) hr hr e
 ·cases h.inj (.cs r) (.ws r) hr hr e
theorem SrAt.arc_put{H':Hp}{r:Nat}{y:Fs.Arcs}{A:List Fs.Arcs}(h:SrAt H0 H L {S with arcs:=A})(hr:r<L.n)(hA:r<A.length)(ha:ArcsAt L.CA H' (L.ad (.arc r)) (L.ad (.pl r)) (L.ad (.cs r)) (L.ad (.ws r)) y)
  (kp:∀b o,H b=some o->b∉[L.ad (.pl r),L.ad (.cs r),L.ad (.ws r)]->H' b=some o):SrAt H0 H' L {S with arcs:=A.set r y}/\Kept L H H':=by
 have garc:∀k,Fs.Sr.arc {S with arcs:=A.set r y} k=if r=k then y else Fs.Sr.arc {S with arcs:=A} k:=fun k=>Fs.di _ _ _ _ _ hA
 refine⟨⟨h.inj,fun t ht=>?_,h.new,fun b o e=>kp b o (h.old b o e) ?_⟩,fun b o e hb=>kp b o e ?_⟩
 ·by_cases e1:t=.pl r
  ·subst e1;rw [ha.pl];show _=some (HO.lst (vi (Fs.Sr.arc {S with arcs:=A.set r y} r).pl));rw [garc,if_pos rfl]
  ·by_cases e2:t=.cs r
   ·subst e2;rw [ha.cs];show _=some (HO.lst (vi (Fs.Sr.arc {S with arcs:=A.set r y} r).cs));rw [garc,if_pos rfl]
   ·by_cases e3:t=.ws r
    ·subst e3;rw [ha.ws];show _=some (HO.lst (vi (Fs.Sr.arc {S with arcs:=A.set r y} r).ws));rw [garc,if_pos rfl]
    ·rw [kp _ _ (h.at_ t ht) (by
      simp only [List.mem_cons,List.not_mem_nil,or_false,not_or]
      exact⟨fun z=>e1 (h.inj _ _ ht hr z),fun z=>e2 (h.inj _ _ ht hr z),fun z=>e3 (h.inj _ _ ht hr z)⟩)]
     cases t <;> first |rfl |skip
     all_goals (rename_i k;simp only [Lay.cont,garc];by_cases e:r=k;(subst e;first |exact absurd rfl e1 |exact absurd rfl e2 |exact absurd rfl e3);rw [if_neg e])
 ·simp only [List.mem_cons,List.not_mem_nil,or_false,not_or]
  exact⟨fun z=>(by rw [z,h.new (.pl r) hr] at e;cases e),fun z=>(by rw [z,h.new (.cs r) hr] at e;cases e),fun z=>(by rw [z,h.new (.ws r) hr] at e;cases e)⟩
 ·simp only [List.mem_cons,List.not_mem_nil,or_false,not_or]
  exact⟨hb _ (show (Tg.pl r).ok L.n from hr),hb _ (show (Tg.cs r).ok L.n from hr),hb _ (show (Tg.ws r).ok L.n from hr)⟩
theorem SrAt.rows_at(h:SrAt H0 H L S){l:Nat}{z:Int}(e:z=(l:Int))(hl:l<L.n+2):atI ((List.range (L.n+2)).map fun l=>V.ref (L.ad (.row l))) z=some (V.ref (L.ad (.row l))):=by
 rw [e];refine h8 ?_
 rw [List.getElem?_map,List.getElem?_range hl];rfl
theorem SrAt.arcs_at(h:SrAt H0 H L S){r:Nat}{z:Int}(e:z=(r:Int))(hr:r<L.n):atI ((List.range L.n).map fun r=>V.ref (L.ad (.arc r))) z=some (V.ref (L.ad (.arc r))):=by
 rw [e];refine h8 ?_
 rw [List.getElem?_map,List.getElem?_range hr];rfl
end
structure Dom(n l:Nat)(S:Fs.Sr):Prop where
 nrows:S.rows.length=n+2
 narcs:S.arcs.length=n
 nrc:S.rc.length=n+1
 nrw:S.rw.length=n+1
 len:∀k,k<n+2->Fs.RowLen n (S.row k)
 ac1:∀r,r<n->(S.arc r).cs.length=(S.arc r).pl.length
 ac2:∀r,r<n->(S.arc r).ws.length=(S.arc r).pl.length
 ac3:∀r,r<n->(S.arc r).pl.length<=n+2
 ac4:∀r,r<n->∀x∈(S.arc r).pl,(l:Int)+1<=x/\x+5<=r
section
variable {P:Program}{w:World}{K:PySem.W.Frag}{mg:Str->Option Value}{base:Heap}{aS aL aG:Addr}
abbrev sRelease:Stmt:=inClass (top 15) 2
inductive gO(CS CR CA:Addr)(vs:List V)(H:Hp)(Q:VK):Prop
 |mk:∀(H0:Hp) (L:Lay) (S:Fs.Sr) (s:List Int) (l:Nat),(vs=[.ref (L.ad .self),.ref (L.ad (.row l))])->(L.CS=CS)->(L.CR=CR)->(L.CA=CA)->(SrAt H0 H L S)->(L.n=s.length)->(s.length<=100)->(l<L.n+2)->(S.rows.length=L.n+2)->(S.arcs.length=L.n)->(Fs.RowLen L.n (S.row l))->((∀r,r<L.n->(S.arc r).pl.length<1000/\(S.arc r).cs.length<1000/\(S.arc r).ws.length<1000))->(∀H':Hp,SrAt H0 H' L (Fs.release s l S)->Kept L H H'->Q .non H')->gO CS CR CA vs H Q
def spRelease(CS CR CA:Addr):Sp:=fun vs H Q _=>gO CS CR CA vs H Q
theorem scRelease:aB ["self","row","right"] ["self","row"] (ax sRelease):=⟨rfl,rfl,rfl,by decide+kernel,rfl,by decide+kernel,by decide+kernel⟩
theorem mW{f CS CR CA:Addr}{fd:FuncData}(F:Fun K "release" "Search.release" sRelease f fd)(T:Txt K mg aS aL aG)(FS:ClsF K CS srN)(FR:ClsF K CR rowN)(FP:Mt P w K mg base 1 CA "put" ["self","place","cost","ways"] (spArcsP CA)):
  FnOk P w K mg base CX0 2 f fd ["self","row"] (spRelease CS CR CA):=by
 refine F.ok scRelease (fun vs H Q E h=>?_) (fun cdv A outer s H vs Q E hr h=>?_)
 ·obtain⟨_,_,_,_,_,rfl,_⟩:=h
  rfl
 ·obtain⟨H0,L,S,s,l,rfl,rfl,rfl,rfl,hS,hn,h100,hl,nrows,narcs,rl,hlen,k⟩:=h
  have nd:=scRelease.nd
  refine⟨_,ak (de PassesOwn.never rfl (dt rfl T.range (aa (ao aF (ah (pv 1) rfl) (bh T.nearest)) (aa (ah (pv 0) rfl) ag))) (bb (i:=2) nd rfl (Or.inl rfl))
   (ak (br (aK oz (aq au (ah (pv 1) rfl) (pv 2) (fun _ _=>rfl)) af (aX _))
    (ak (bx (eh FP hr (aq au (ah (pv 0) rfl) (pv 2) (fun _ _=>rfl)) (aa (ao aN (ah (pv 1) rfl) af) (aa (aq au (ah (pv 1) rfl) (pv 2) (fun _ _=>rfl)) (aa (aq au (ah (pv 1) rfl) (pv 2) (fun _ _=>rfl)) ag)))))) aQ))),?_⟩
  refine⟨_,rfl,_,L.CR,_,_,_,rfl,hS.at_ (.row l) hl,FR.cl,FR.no 0 _ rfl,rfl,_,_,rfl,rfl,_,rfl,_,L.CS,_,_,_,rfl,hS.at_ .self trivial,FS.cl,FS.no 1 _ rfl,rfl,_,_,rfl,by omega,?_⟩
  rw [show ((L.n:Int)-((l:Int)+4)).toNat=s.length-(l+4) by omega]
  refine dh (lo:=(l:Int)+4) (n:=s.length-(l+4)) (fun i σ H'=>∃v:Option V,σ=[some (.ref (L.ad .self)),some (.ref (L.ad (.row l))),v]/\SrAt H0 H' L {S with arcs:=Fs.iter (Fs.bz (S.row l) l) (l+4) i S.arcs}/\Kept L H H') ⟨none,rfl,hS,Kept.refl L H⟩ ?_ ?_
  ·rintro i σ H' hi ⟨v,rfl,hS',kp⟩
   have er:(l:Int)+4+(i:Int)=((l+4+i:Nat):Int):=by omega
   have hrn:l+4+i<L.n:=by omega
   have hro:=hS'.at_ (.row l) hl
   have hpw:H' (L.ad (.pw l))=some (.lst (vi (S.row l).pw)):=hS'.at_ (.pw l) hl
   have hpc:H' (L.ad (.pc l))=some (.lst (vi (S.row l).pc)):=hS'.at_ (.pc l) hl
   have hX:=Fs.cT (R:=S.row l) (l:=l) (X:=S.arcs) i (by omega)
   have hget:=hX.2 (l+4+i) (by omega)
   rw [if_neg (by omega)] at hget
   have hwl:=hlen (l+4+i) hrn
   have step:Fs.iter (Fs.bz (S.row l) l) (l+4) (i+1) S.arcs=Fs.bz (S.row l) l (l+4+i) (Fs.iter (Fs.bz (S.row l) l) (l+4) i S.arcs):=rfl
   generalize Fs.iter (Fs.bz (S.row l) l) (l+4) i S.arcs=Ai at hS' hX hget step
   refine⟨_,rfl,_,L.CR,_,_,_,rfl,hro,FR.cl,FR.no 2 _ rfl,rfl,_,rfl,_,_,_,_,rfl,rfl,SqL.of hpw,bq er (by rw [rl.pw];exact hrn),_,_,rfl,rfl,_,rfl,?_⟩
   refine ite2 (fun c=>?_) (fun c=>?_)
   ·have c:Fs.g (S.row l).pw (l+4+i) > 0:=of_decide_eq_true c
    have hself:=hS'.at_ .self trivial
    have harcs:H' (L.ad .arcs)=some (.lst ((List.range L.n).map fun r=>.ref (L.ad (.arc r)))):=hS'.at_ .arcs trivial
    have hAt:=hS'.arcsAt hrn
    have hArc:Fs.Sr.arc {S with arcs:=Ai} (l+4+i)=S.arc (l+4+i):=hget
    rw [hArc] at hAt
    refine⟨_,rfl,_,L.CS,_,_,_,rfl,hself,FS.cl,FS.no 4 _ rfl,rfl,_,rfl,_,_,_,_,rfl,rfl,SqL.of harcs,hS'.arcs_at er hrn,_,_,_,rfl,hS'.at_ (.arc (l+4+i)) hrn,rfl,?_⟩
    refine⟨_,rfl,_,L.CR,_,_,_,rfl,hro,FR.cl,FR.no 0 _ rfl,rfl,_,_,rfl,rfl,?_⟩
    refine⟨_,rfl,_,L.CR,_,_,_,rfl,hro,FR.cl,FR.no 1 _ rfl,rfl,_,rfl,_,_,_,_,rfl,rfl,SqL.of hpc,bq er (by rw [rl.pc];exact hrn),?_⟩
    refine⟨_,rfl,_,L.CR,_,_,_,rfl,hro,FR.cl,FR.no 2 _ rfl,rfl,_,rfl,_,_,_,_,rfl,rfl,SqL.of hpw,bq er (by rw [rl.pw];exact hrn),?_⟩
    refine⟨_,_,_,_,S.arc (l+4+i),_,_,_,rfl,hAt,hwl.1,hwl.2.1,hwl.2.2,fun H2 hA2 kp2=>?_⟩
    obtain⟨hS2,kp3⟩:=hS'.arc_put hrn (by omega) hA2 kp2
    refine⟨_,rfl,?_,kp.trans kp3⟩
    rw [step]
    unfold Fs.bz
    rw [if_pos c,show Ai.getD (l+4+i) default=S.arc (l+4+i) from hget]
    exact hS2
   ·have c:¬Fs.g (S.row l).pw (l+4+i) > 0:=fun z=>c (decide_eq_true z)
    refine⟨_,rfl,?_,kp⟩
    rw [step]
    unfold Fs.bz
    rw [if_neg c]
    exact hS'
  ·rintro σ H' ⟨v,rfl,hS',kp⟩
   exact k H' hS' kp
end
end Pg
end
section
namespace Pg
open PySem PySem.Spec PyProof.Rows L2 L3
def MarkAt(H:Hp)(m:V):Option (Int × Int)->Prop
 |none=>m=.non
 |some x=>∃b,m=.ref b/\H b=some (.tup [.int x.1,.int x.2])
structure PrcAt(CP CT:Addr)(H:Hp)(a:Addr)(z:Fs.Prc):Prop where
 ex:∃dx ta o c m bd,H a=some (.ins CP dx (prcF ta z.far o c m z.weight bd))/\TabAt CT H ta z.tab/\H o=some (.lst (vi z.opening))/\H c=some (.lst (vi z.closing))/\MarkAt H m z.mark/\H bd=some (.lst (vi z.down))
theorem MarkAt.same{H H':Hp}{m:V}{x:Option (Int × Int)}(h:MarkAt H m x)(s:Same H H'):MarkAt H' m x:=by
 cases x with
 |none=>exact h
 |some x=>obtain⟨b,e,q⟩:=h;exact⟨b,e,s _ _ q⟩
theorem PrcAt.same{CP CT a:Addr}{H H':Hp}{z:Fs.Prc}(h:PrcAt CP CT H a z)(s:Same H H'):PrcAt CP CT H' a z:=by
 obtain⟨dx,ta,o,c,m,bd,h0,h1,h2,h3,h4,h5⟩:=h.ex
 exact⟨dx,ta,o,c,m,bd,s _ _ h0,h1.same s,s _ _ h2,s _ _ h3,h4.same s,s _ _ h5⟩
structure Ctx(K:PySem.W.Frag)(CP CT:Addr)(H0:Hp)(L:Lay)(s:List Int)(p:Fs.Prc):Prop where
 strand:SqL K H0 L.sA (vi s)
 prices:PrcAt CP CT H0 L.pA p
 n:L.n=s.length
 n100:s.length<=100
 ends:p.tab.ends.length=100
 sides:p.tab.sides.length=100
 both:p.tab.both.length=100
 stacks:p.tab.stacks.length=36
 op:p.opening.length=s.length
 clo:p.closing.length=s.length
theorem lx(a b:Int):Fs.sortsGet a b<=5:=by
 unfold Fs.sortsGet
 repeat' split
 all_goals omega
theorem eS(s:List Int)(l r:Nat):Fs.aE s l r<=5:=by
 unfold Fs.aE
 split
 ·omega
 ·exact lx _ _
structure SrC(K:PySem.W.Frag)(CS CR CA CP CT:Addr):Prop where
 S:ClsF K CS srN
 R:ClsF K CR rowN
 A:ClsF K CA arcN
 P:ClsF K CP prcN
 T:ClsF K CT tabN
section
variable {P:Program}{w:World}{K:PySem.W.Frag}{mg:Str->Option Value}{base:Heap}{aS aL aG CS CR CA CP CT:Addr}
abbrev sNear:Stmt:=inClass (top 15) 4
inductive lF(K:PySem.W.Frag)(CS CR CA CP CT:Addr)(vs:List V)(H:Hp)(Q:VK):Prop
 |mk:∀(H0:Hp) (L:Lay) (S:Fs.Sr) (s:List Int) (p:Fs.Prc) (l r:Nat) (outer:Int),(vs=[.ref (L.ad .self),.int l,.int r,.int outer])->(L.CS=CS)->(L.CR=CR)->(L.CA=CA)->(Ctx K CP CT H0 L s p)->(SrAt H0 H L S)->(l+4<=r)->(r<L.n)->(Fs.RowLen L.n (S.row (l+1)))->(0<=outer)->(outer<=5)->(∀(H':Hp) (q:Addr),Same H H'->Tup2 H' q (Fs.bS s p S l r outer)->Q (.ref q) H')->lF K CS CR CA CP CT vs H Q
def spNear(K:PySem.W.Frag)(CS CR CA CP CT:Addr):Sp:=fun vs H Q _=>lF K CS CR CA CP CT vs H Q
theorem scNear:aB ["self","left","right","outer","tables","within","closing","found","inner"] ["self","left","right","outer"] (ax sNear):=⟨rfl,rfl,rfl,by decide+kernel,rfl,by decide+kernel,by decide+kernel⟩
theorem uh{f:Addr}{fd:FuncData}(F:Fun K "offer_near" "Search.offer_near" sNear f fd)(T:Txt K mg aS aL aG)(FC:SrC K CS CR CA CP CT)(FM:Fn P w K mg base 1 "merged" ["cost","ways","other_cost","other_ways"] spMerged)(FO:Fn P w K mg base 1 "sort_of" ["strand","left","right"] (spSortOf K)):
  FnOk P w K mg base CX0 2 f fd ["self","left","right","outer"] (spNear K CS CR CA CP CT):=by
 refine F.ok scNear (fun vs H Q E h=>?_) (fun cdv A outer s H vs Q E hr h=>?_)
 ·obtain⟨_,_,_,_,_,_,_,_,rfl,_⟩:=h
  rfl
 ·obtain⟨H0,L,S,s,p,l,r,outer,rfl,rfl,rfl,rfl,hC,hS,hlr,hrn,rl,ho1,ho2,k⟩:=h
  have nd:=scNear.nd
  refine⟨_,ab (aw (i:=4) nd rfl (Or.inl rfl) (ah (ah (pv 0) rfl) rfl))
   (ab (aw (i:=5) nd rfl (Or.inl rfl) (aq au (ah (pv 0) rfl) (ao aF (pv 1) af) (fun _ _=>rfl)))
   (ab (aw (i:=6) nd rfl (Or.inl rfl) (ao aF (ah (pv 4) rfl) (ah (pv 4) rfl)))
   (ab (aw (i:=7) nd rfl (Or.inl rfl) (aW FM hr (aa (aq au (ah (pv 4) rfl) (ao aN (ao aN (pv 2) (pv 1)) af) (fun _ _=>rfl)) (aa af
    (aa (ao aF (aq au (ah (pv 5) rfl) (ao aN (pv 2) af) (fun _ _=>rfl)) (pv 6)) (aa (aq au (ah (pv 5) rfl) (ao aN (pv 2) af) (fun _ _=>rfl)) ag))))))
   (ab (aw (i:=8) nd rfl (Or.inl rfl) (aW FO hr (aa (ah (pv 0) rfl) (aa (ao aF (pv 1) af) (aa (ao aN (pv 2) af) ag)))))
   (ab (br (aK dS (pv 8) af (aX _)) (ak (aC (pv 7))) aQ)
   (ak (aC (aW FM hr (aa (aq aJ (pv 7) af (fun _ _=>rfl)) (aa (aq aJ (pv 7) af (fun _ _=>rfl))
    (aa (ao aF (aq au (ah (pv 5) rfl) (ao aN (pv 2) af) (fun _ _=>rfl)) (aq au (ah (pv 4) rfl) (ao aF (ao c9 af (pv 3)) (pv 8)) (fun _ _=>rfl)))
    (aa (aq au (ah (pv 5) rfl) (ao aN (pv 2) af) (fun _ _=>rfl)) ag)))))))))))),?_⟩
  obtain⟨dxp,ta,po,pc,pm,bd,hp0,hT,hp2,hp3,hp4,hp5⟩:=(hC.prices.same hS.old).ex
  obtain⟨dxt,t1,t2,t3,t4,ht0,ht1,ht2,ht3,ht4⟩:=hT.ex
  have hn:=hC.n
  have h100:=hC.n100
  have hself:=hS.at_ .self trivial
  have hrows:H (L.ad .rows)=some (.lst ((List.range (L.n+2)).map fun l=>.ref (L.ad (.row l)))):=hS.at_ .rows trivial
  have hl1:l+1<L.n+2:=by omega
  have hrow:=hS.at_ (.row (l+1)) hl1
  refine⟨_,rfl,_,L.CS,_,_,_,rfl,hself,FC.S.cl,FC.S.no 2 _ rfl,rfl,_,CP,_,_,_,rfl,hp0,FC.P.cl,FC.P.no 0 _ rfl,rfl,?_⟩
  refine⟨_,rfl,_,L.CS,_,_,_,rfl,hself,FC.S.cl,FC.S.no 3 _ rfl,rfl,_,rfl,_,_,rfl,rfl,_,_,_,_,rfl,rfl,SqL.of hrows,hS.rows_at (l:=l+1) (by omega) hl1,?_⟩
  refine⟨_,rfl,_,CT,_,_,_,rfl,ht0,FC.T.cl,FC.T.no 4 _ rfl,rfl,_,rfl,_,CT,_,_,_,rfl,ht0,FC.T.cl,FC.T.no 5 _ rfl,rfl,_,_,rfl,rfl,?_⟩
  have er1:(r:Int)-1=((r-1:Nat):Int):=by omega
  have htc:H (L.ad (.tc (l+1)))=some (.lst (vi (S.row (l+1)).tc)):=hS.at_ (.tc (l+1)) hl1
  have htw:H (L.ad (.tw (l+1)))=some (.lst (vi (S.row (l+1)).tw)):=hS.at_ (.tw (l+1)) hl1
  have hpc:H (L.ad (.pc (l+1)))=some (.lst (vi (S.row (l+1)).pc)):=hS.at_ (.pc (l+1)) hl1
  have hpw:H (L.ad (.pw (l+1)))=some (.lst (vi (S.row (l+1)).pw)):=hS.at_ (.pw (l+1)) hl1
  refine⟨_,rfl,_,CT,_,_,_,rfl,ht0,FC.T.cl,FC.T.no 1 _ rfl,rfl,_,rfl,_,rfl,_,_,rfl,rfl,_,_,rfl,rfl,_,_,_,_,rfl,rfl,SqL.of ht2,bq (i:=r-l-1) (by omega) (by rw [hC.ends];omega),?_⟩
  refine⟨_,rfl,_,L.CR,_,_,_,rfl,hrow,FC.R.cl,FC.R.no 5 _ rfl,rfl,_,rfl,_,_,rfl,rfl,_,_,_,_,rfl,rfl,SqL.of htc,bq er1 (by rw [rl.tc];omega),_,rfl,_,_,rfl,rfl,?_⟩
  refine⟨_,rfl,_,L.CR,_,_,_,rfl,hrow,FC.R.cl,FC.R.no 6 _ rfl,rfl,_,rfl,_,_,rfl,rfl,_,_,_,_,rfl,rfl,SqL.of htw,bq er1 (by rw [rl.tw];omega),?_⟩
  refine⟨(Fs.g p.tab.ends (r-l-1),1),(Fs.g (S.row (l+1)).tc (r-1)+(p.tab.once+p.tab.pair),Fs.g (S.row (l+1)).tw (r-1)),rfl,fun H1 q1 s1 d1=>?_⟩
  have hself1:=s1 _ _ hself
  refine⟨_,rfl,_,L.CS,_,_,_,rfl,hself1,FC.S.cl,FC.S.no 0 _ rfl,rfl,_,rfl,_,_,rfl,rfl,_,rfl,_,_,rfl,rfl,?_⟩
  refine⟨L.sA,s,l+1,r-1,(by show [V.ref L.sA,V.int ((l:Int)+1),V.int ((r:Int)-1)]=_;rw [er1];rfl),(hS.old.trans s1).seq hC.strand,by omega,by omega,fun H2 s2=>?_⟩
  have s12:=s1.trans s2
  have d2:Tup2 H2 q1 _:=s2 _ _ d1
  unfold Fs.bS at k
  simp only at k
  refine⟨_,rfl,_,_,rfl,rfl,_,rfl,?_⟩
  refine ite2 (fun c=>?_) (fun c=>?_)
  ·have c:Fs.aE s (l+1) (r-1)<0:=of_decide_eq_true c
   rw [if_pos c] at k
   exact⟨_,rfl,k H2 q1 s12 d2⟩
  ·have c:¬Fs.aE s (l+1) (r-1)<0:=fun z=>c (decide_eq_true z)
   rw [if_neg c] at k
   have hi:=eS s (l+1) (r-1)
   refine⟨_,rfl,_,_,_,_,rfl,rfl,d2.sq,rfl,_,rfl,_,_,_,_,rfl,rfl,d2.sq,rfl,?_⟩
   refine⟨_,rfl,_,L.CR,_,_,_,rfl,s12 _ _ hrow,FC.R.cl,FC.R.no 1 _ rfl,rfl,_,rfl,_,_,rfl,rfl,_,_,_,_,rfl,rfl,SqL.of (s12 _ _ hpc),bq er1 (by rw [rl.pc];omega),?_⟩
   refine⟨_,rfl,_,CT,_,_,_,rfl,s12 _ _ ht0,FC.T.cl,FC.T.no 0 _ rfl,rfl,_,rfl,_,_,rfl,rfl,.inl (by omega),_,rfl,_,_,rfl,rfl,_,_,_,_,rfl,rfl,SqL.of (s12 _ _ ht1),bq (i:=(6*outer+Fs.aE s (l+1) (r-1)).toNat) (by omega) (by rw [hC.stacks];omega),_,_,rfl,rfl,?_⟩
   refine⟨_,rfl,_,L.CR,_,_,_,rfl,s12 _ _ hrow,FC.R.cl,FC.R.no 2 _ rfl,rfl,_,rfl,_,_,rfl,rfl,_,_,_,_,rfl,rfl,SqL.of (s12 _ _ hpw),bq er1 (by rw [rl.pw];omega),?_⟩
   refine⟨Fs.mg (Fs.g p.tab.ends (r-l-1),1) (Fs.g (S.row (l+1)).tc (r-1)+(p.tab.once+p.tab.pair),Fs.g (S.row (l+1)).tw (r-1)),(Fs.g (S.row (l+1)).pc (r-1)+Fs.g p.tab.stacks (6*outer+Fs.aE s (l+1) (r-1)).toNat,Fs.g (S.row (l+1)).pw (r-1)),rfl,fun H3 q3 s3 d3=>k H3 q3 (s12.trans s3) d3⟩
abbrev sKeep:Stmt:=inClass (top 15) 6
inductive lX(K:PySem.W.Frag)(CS CR CA CP CT:Addr)(vs:List V)(H:Hp)(Q:VK):Prop
 |mk:∀(H0:Hp) (L:Lay) (S:Fs.Sr) (s:List Int) (p:Fs.Prc) (l r:Nat) (fa:Addr) (f:Int × Int) (R:Fs.Row),(vs=[.ref (L.ad .self),.ref (L.ad (.row l)),.int r,.ref fa])->(L.CS=CS)->(L.CR=CR)->(L.CA=CA)->(Ctx K CP CT H0 L s p)->(SrAt H0 H L (Rw S l R))->(S.rows.length=L.n+2)->(l<L.n)->(r<L.n)->(Fs.RowLen L.n R)->(Tup2 H fa f)->(IntMulOk f.2 p.weight)->(∀H':Hp,SrAt H0 H' L (Rw S l (Fs.keepPair p R l r f))->Kept L H H'->Q .non H')->lX K CS CR CA CP CT vs H Q
def spKeep(K:PySem.W.Frag)(CS CR CA CP CT:Addr):Sp:=fun vs H Q _=>lX K CS CR CA CP CT vs H Q
theorem scKeep:aB ["self","row","right","found","prices"] ["self","row","right","found"] (ax sKeep):=⟨rfl,rfl,rfl,by decide+kernel,rfl,by decide+kernel,by decide+kernel⟩
theorem lG(a b c d:Int):PyData.eqv (.tuple [.int a,.int b]) (.tuple [.int c,.int d])=decide ((a,b)=(c,d)):=by
 have:PyData.eqv (.tuple [.int a,.int b]) (.tuple [.int c,.int d])=((a==c) && ((b==d) && true)):=rfl
 rw [this,Bool.eq_iff_iff]
 simp
theorem uv{f:Addr}{fd:FuncData}(F:Fun K "keep_pair" "Search.keep_pair" sKeep f fd)(FC:SrC K CS CR CA CP CT):FnOk P w K mg base CX0 1 f fd ["self","row","right","found"] (spKeep K CS CR CA CP CT):=by
 refine F.ok scKeep (fun vs H Q E h=>?_) (fun cdv A outer s H vs Q E hr h=>?_)
 ·obtain⟨_,_,_,_,_,_,_,_,_,_,rfl,_⟩:=h
  rfl
 ·obtain⟨H0,L,S,s,p,l,r,fa,f0,R,rfl,rfl,rfl,rfl,hC,hS,nrows,hln,hrn,rl,hf,hmul,k⟩:=h
  have nd:=scKeep.nd
  refine⟨_,ab (aw (i:=4) nd rfl (Or.inl rfl) (ah (pv 0) rfl))
   (ab (bY (ao aF (ao aF (aq aJ (pv 3) af (fun _ _=>rfl)) (aq au (ah (pv 4) rfl) (ah (pv 1) rfl) (fun _ _=>rfl))) (aq au (ah (pv 4) rfl) (pv 2) (fun _ _=>rfl))) (bZ (ah (pv 1) rfl) (pv 2) set_list))
   (ak (bY (iH (aK (sE hr.units) (ah (pv 4) rfl) (b0 (aa (ah (pv 1) rfl) (aa (pv 2) ag))) (aX _)) (ao fT (aq aJ (pv 3) af (fun _ _=>rfl)) (ah (pv 4) rfl)) (aq aJ (pv 3) af (fun _ _=>rfl))) (bZ (ah (pv 1) rfl) (pv 2) set_list)))),?_⟩
  obtain⟨dxp,ta,po,pc,pm,bd,hp0,hT,hp2,hp3,hp4,hp5⟩:=(hC.prices.same hS.old).ex
  have hn:=hC.n
  have hself:=hS.at_ .self trivial
  have hl2:l<L.n+2:=by omega
  have hl3:l<S.rows.length:=by omega
  have hrow:=hS.at_ (.row l) hl2
  have hpc:H (L.ad (.pc l))=some (.lst (vi R.pc)):=by
   have:=hS.at_ (.pc l) hl2
   rw [this];show some (HO.lst (vi ((Rw S l R).row l).pc))=_;rw [Rw.row hl3,if_pos rfl]
  refine⟨_,rfl,_,L.CS,_,_,_,rfl,hself,FC.S.cl,FC.S.no 2 _ rfl,rfl,?_⟩
  refine⟨_,rfl,_,_,_,_,rfl,rfl,hf.sq,rfl,_,rfl,_,CP,_,_,_,rfl,hp0,FC.P.cl,FC.P.no 2 _ rfl,rfl,_,rfl,_,L.CR,_,_,_,rfl,hrow,FC.R.cl,FC.R.no 0 _ rfl,rfl,_,_,_,_,rfl,rfl,SqL.of hp2,bC (i:=l) (by rw [hC.op];omega),_,_,rfl,rfl,?_⟩
  refine⟨_,rfl,_,CP,_,_,_,rfl,hp0,FC.P.cl,FC.P.no 3 _ rfl,rfl,_,rfl,_,_,_,_,rfl,rfl,SqL.of hp3,bC (i:=r) (by rw [hC.clo];omega),_,_,rfl,rfl,?_⟩
  refine⟨_,rfl,_,L.CR,_,_,_,rfl,hrow,FC.R.cl,FC.R.no 1 _ rfl,rfl,_,rfl,_,_,_,r,rfl,rfl,hpc,bR (by rw [az,rl.pc];exact hrn),?_⟩
  rw [bU]
  have hS1:=hS.row_pc (x:=R.pc.set r (f0.1+Fs.g p.opening l+Fs.g p.closing r)) hl3 hl2
  have kp1:Kept L H (upd H (L.ad (.pc l)) (.lst (vi (R.pc.set r (f0.1+Fs.g p.opening l+Fs.g p.closing r))))):=Kept.upd (t:=.pc l) hl2
  have hf1:Tup2 (upd H (L.ad (.pc l)) (.lst (vi (R.pc.set r (f0.1+Fs.g p.opening l+Fs.g p.closing r))))) fa f0:=ai hf (fun e=>by have hf':H fa=some (.tup _):=hf;rw [e,hpc] at hf';cases hf')
  dsimp only
  generalize upd H (L.ad (.pc l)) (.lst (vi (R.pc.set r (f0.1+Fs.g p.opening l+Fs.g p.closing r))))=H1 at hS1 kp1 hf1 ⊢
  obtain⟨dxp,ta,po,pc,pm,bd,hp0,hT,hp2,hp3,hp4,hp5⟩:=(hC.prices.same hS1.old).ex
  have hself:=hS1.at_ .self trivial
  have hrow:=hS1.at_ (.row l) hl2
  have hpA:H1 L.pA=some (.ins CP dxp (prcF ta p.far po pc pm p.weight bd)):=hp0
  have fin:∀(z:Int) (H2:Hp),Same H1 H2->z=(if p.mark=some ((l:Int),(r:Int)) then f0.2*p.weight else f0.2)->gSub (tFld K (tVar 1) "pair_ways") (tVar 2) rSetL (.int z) [some (.ref (L.ad .self)),some (.ref (L.ad (.row l))),some (.int r),some (.ref fa),some (.ref L.pA)] H2 fun _ H'=>Q .non H':=fun z H2 s2 ez=>by
   have hS2:=hS1.same s2
   have hpw:H2 (L.ad (.pw l))=some (.lst (vi R.pw)):=by
    have:=hS2.at_ (.pw l) hl2
    rw [this];show some (HO.lst (vi ((Rw S l _).row l).pw))=_;rw [Rw.row hl3,if_pos rfl]
   refine⟨_,rfl,_,L.CR,_,_,_,rfl,hS2.at_ (.row l) hl2,FC.R.cl,FC.R.no 2 _ rfl,rfl,_,rfl,_,_,_,r,rfl,rfl,hpw,bR (by rw [az,rl.pw];exact hrn),?_⟩
   rw [bU]
   refine k _ ?_ ((kp1.trans (Kept.of_same s2)).trans (Kept.upd (t:=.pw l) hl2))
   have:=hS2.row_pw (x:=R.pw.set r z) hl3 hl2
   unfold Fs.keepPair
   rw [<-ez]
   exact this
  refine⟨_,rfl,_,CP,_,_,_,rfl,hpA,FC.P.cl,FC.P.no 4 _ rfl,rfl,_,rfl,_,L.CR,_,_,_,rfl,hrow,FC.R.cl,FC.R.no 0 _ rfl,rfl,_,rfl,(by show 2<=sizeLine;decide),fun b hb=>?_⟩
  have s2:=aj (o:=.tup [.int (l:Int),.int (r:Int)]) hb
  have hb2:(upd H1 b (.tup [.int (l:Int),.int (r:Int)])) b=some (.tup [.int (l:Int),.int (r:Int)]):=ae
  generalize upd H1 b (.tup [.int (l:Int),.int (r:Int)])=H2 at s2 hb2 ⊢
  have dB:Dp K H2 (.ref b) (.tuple [.int l,.int r]):=.tup (SqT.of hb2) (.cons (.int _) (.cons (.int _) .nil))
  have hf2:Tup2 H2 fa f0:=s2 _ _ hf1
  cases hmk:p.mark with
  |none=>
   rw [hmk] at hp4 fin
   have hp4:pm=.non:=hp4
   subst hp4
   refine⟨_,_,.non,dB,rfl,rfl,_,rfl,?_⟩
   exact⟨_,rfl,_,_,_,_,rfl,rfl,hf2.sq,rfl,fin _ H2 s2 (by rw [if_neg (by simp)])⟩
  |some x=>
   rw [hmk] at hp4 fin
   obtain⟨mb,rfl,hmb⟩:=hp4
   refine⟨_,_,.tup (SqT.of (s2 _ _ hmb)) (.cons (.int _) (.cons (.int _) .nil)),dB,rfl,rfl,_,rfl,?_⟩
   rw [lG]
   refine ite2 (fun c=>?_) (fun c=>?_)
   ·have c:(x.1,x.2)=((l:Int),(r:Int)):=of_decide_eq_true c
    refine⟨_,rfl,_,_,_,_,rfl,rfl,hf2.sq,rfl,_,rfl,_,CP,_,_,_,rfl,s2 _ _ hpA,FC.P.cl,FC.P.no 5 _ rfl,rfl,_,_,rfl,rfl,hmul,fin _ H2 s2 ?_⟩
    rw [if_pos (by rw [<-c])]
   ·have c:¬(x.1,x.2)=((l:Int),(r:Int)):=fun z=>c (decide_eq_true z)
    refine⟨_,rfl,_,_,_,_,rfl,rfl,hf2.sq,rfl,fin _ H2 s2 ?_⟩
    rw [if_neg (fun z=>c (by injection z))]
end
end Pg
end
section
namespace Pg
open PySem PySem.Spec PyProof.Rows L2 L3
theorem sO{l:List Int}{v:Int}(h:0<=v):cutV (vi l) (some v) none=vi (l.drop v.toNat):=by
 unfold cutV HT.sIx
 simp only
 rw [if_neg (by omega),az]
 have e:l.drop (min v.toNat l.length)=l.drop v.toNat:=by
  by_cases q:v.toNat<=l.length
  ·rw [Nat.min_eq_left q]
  ·rw [Nat.min_eq_right (by omega),List.drop_length,List.drop_eq_nil_of_le (by omega)]
 rw [<-e]
 rw [List.take_of_length_le (by rw [List.length_drop,az];omega)]
 simp [vi,List.map_drop]
theorem eZ{K:PySem.W.Frag}{a b:Addr}{xs ys:List Int}{i j:Nat}{te:TE}{vs:List Nat}{σ:L2.St}{H:Hp}{D:Addr}{Qd:Hp->Prop}(F:Int->Int->Int)(hD:H D=none)(ha:SqL K H a (vi xs))(hb:SqL K H b (vi ys))(hl:xs.length<=1000)
  (hw:∀u v,wipe (((wipe σ vs).set i (some u)).set j (some v)) vs=wipe σ vs)
  (he:∀(k:Nat) (x y:Int) (H':Hp) (Q':VK),xs[k]?=some x->ys[k]?=some y->Same H H'->Q' (.int (F x y)) H'->te (((wipe σ vs).set i (some (.int x))).set j (some (.int y))) H' Q')
  (k:∀H',Same H H'->H' D=some (.lst (vi ((xs.zip ys).map fun z=>F z.1 z.2)))->Qd H'):
  ∃W:Nat->Nat->Hp->Prop,(∃m,W 0 m (upd H D (.lst [])))/\∀i' m H,W i' m H->
   ((Itz K a b).stop i' H/\Qd H)\/((Itz K a b).go i' H/\∃Nx:Hp->Prop,(∀H',Nx H'->∃m',m'<m/\W (i'+1) m' H')/\∀x H',(Itz K a b).yld i' H x H'->gTup K 2 (gCons (gName i) (gCons (gName j) gNil)) x (wipe σ vs) H' fun σ2 H2=>wipe σ2 vs=wipe σ vs/\tYes σ2 H2 fun b H3=>
    if b=true then te σ2 H3 fun y H4=>∃acc,H4 D=some (.lst acc)/\acc.length<sizeLine/\Nx (upd H4 D (.lst (acc++[y]))) else Nx H3):=by
 refine sM (K:=K) (a:=a) (b:=b) (xs:=vi xs) (ys:=vi ys) (LcP H D fun i=>vi (((xs.zip ys).take i).map fun z=>F z.1 z.2)) (LcP.zero hD rfl) (fun i H' _ _ z=>⟨z.1.seq ha,z.1.seq hb⟩) ?_ ?_
 ·rintro k' x y TT H' hx hy ⟨sm,hx'⟩ hT
  obtain⟨x,hx2,rfl⟩:=cg hx
  obtain⟨y,hy2,rfl⟩:=cg hy
  dsimp only at hx'
  have sm2:Same H (upd H' TT (.tup [.int x,.int y])):=sm.trans (aj hT)
  have hD2:=aZ (o:=.tup [.int x,.int y]) hx' hT
  have hz:=qW hx2 hy2
  refine⟨TT,_,rfl,SqT.of ae,rfl,_,_,rfl,_,_,rfl,rfl,hw _ _,?_⟩
  show te _ _ _
  refine he k' x y _ _ hx2 hy2 sm2 (LcP.put hD sm2 hD2 ?_ ?_)
  ·refine small1000 ?_
   rw [az,List.length_map,List.length_take,List.length_zip];omega
  ·show vi _=_
   rw [take_snoc hz,List.map_append,bu];rfl
 ·rintro H' ⟨sm,hx'⟩
  refine k H' sm ?_
  dsimp only at hx'
  rw [List.take_of_length_le (by rw [List.length_zip,az,az];exact Nat.le_refl _)] at hx'
  exact hx'
theorem ArcsAt.same{C a p1 p2 p3:Addr}{H H':Hp}{x:Fs.Arcs}(h:ArcsAt C H a p1 p2 p3 x)(s:Same H H'):ArcsAt C H' a p1 p2 p3 x:=by
 obtain⟨dx,e⟩:=h.ob
 exact⟨⟨dx,s _ _ e⟩,s _ _ h.pl,s _ _ h.cs,s _ _ h.ws,h.nd⟩
theorem WinAt.same{C a q1 q2:Addr}{H H':Hp}{W:Fs.Win}(h:WinAt C H a q1 q2 W)(s:Same H H'):WinAt C H' a q1 q2 W:=by
 obtain⟨dx,e⟩:=h.ob
 exact⟨⟨dx,s _ _ e⟩,s _ _ h.lo,s _ _ h.cn,h.ne⟩
section
variable {P:Program}{w:World}{K:PySem.W.Frag}{mg:Str->Option Value}{base:Heap}{aS aL aG CS CR CA CP CT CW:Addr}
abbrev sSingle:Stmt:=inClass (top 15) 5
inductive ji(K:PySem.W.Frag)(CS CR CA CP CT CW:Addr)(vs:List V)(H:Hp)(Q:VK):Prop
 |mk:∀(H0:Hp) (L:Lay) (S:Fs.Sr) (s:List Int) (p:Fs.Prc) (l r:Nat) (fa:Addr) (f:Int × Int) (sa p1 p2 p3:Addr) (sh:Fs.Arcs) (wa q1 q2:Addr) (W:Fs.Win),(vs=[.ref (L.ad .self),.ref fa,.int l,.int r,.ref sa,.ref wa])->(L.CS=CS)->(L.CR=CR)->(L.CA=CA)->(Ctx K CP CT H0 L s p)->(SrAt H0 H L S)->(l+4<=r)->(r<L.n)->(Tup2 H fa f)->(ArcsAt CA H sa p1 p2 p3 sh)->(WinAt CW H wa q1 q2 W)->(sh.cs.length=sh.pl.length)->(sh.ws.length=sh.pl.length)->(sh.pl.length<=1000)->((∀z∈sh.pl,0<=(r:Int)-1-z/\(r:Int)-1-z<100))->((S.arc (r-1)).cs.length=(S.arc (r-1)).pl.length)->((S.arc (r-1)).ws.length=(S.arc (r-1)).pl.length)->((S.arc (r-1)).pl.length<=1000)->((∀z∈(S.arc (r-1)).pl,0<=z-(l:Int)/\z-(l:Int)<100))->(W.lows.length=L.n)->(W.cnts.length=L.n)->(∀(H':Hp) (q:Addr),Same H H'->Tup2 H' q (Fs.offerSingle p S f l r sh W)->Q (.ref q) H')->ji K CS CR CA CP CT CW vs H Q
def spSingle(K:PySem.W.Frag)(CS CR CA CP CT CW:Addr):Sp:=fun vs H Q _=>ji K CS CR CA CP CT CW vs H Q
theorem scSingle:aB ["self","found","left","right","shorter","window","sides","costs","arcs","room","end","cost","before","both"] ["self","found","left","right","shorter","window"] (ax sSingle):=⟨rfl,rfl,rfl,by decide+kernel,rfl,by decide+kernel,by decide+kernel⟩
theorem pd{f:Addr}{fd:FuncData}(F:Fun K "offer_single" "Search.offer_single" sSingle f fd)(T:Txt K mg aS aL aG)(FC:SrC K CS CR CA CP CT)(FW:ClsF K CW winN)(FO:Fn P w K mg base 2 "offered" ["found","costs","ways"] (spOffered K)):
  FnOk P w K mg base CX0 3 f fd ["self","found","left","right","shorter","window"] (spSingle K CS CR CA CP CT CW):=by
 refine F.ok scSingle (fun vs H Q E h=>?_) (fun cdv A outer s H vs Q E hr h=>?_)
 ·obtain⟨_,_,_,_,_,_,_,_,_,_,_,_,_,_,_,_,_,_,rfl,_⟩:=h
  rfl
 ·obtain⟨H0,L,S,s,p,l,r,fa,f0,sa,p1,p2,p3,sh,wa,q1,q2,W,rfl,rfl,rfl,rfl,hC,hS,hlr,hrn,hf,hsh,hW,l1,l2,l3,hin1,l4,l5,l6,hin2,l7,l8,k⟩:=h
  have nd:=scSingle.nd
  refine⟨_,ab (aw (i:=6) nd rfl (Or.inr rfl) (ah (ah (ah (pv 0) rfl) rfl) rfl))
   (ab (bW (i:=7) (own:=[("end",10),("cost",11)]) rfl nd rfl rfl (cu rfl rfl rfl rfl) (jf rfl T.zip (aa (ah (pv 4) rfl) (aa (ah (pv 4) rfl) ag))) (bf (by kernel_rfl))
    (fun _ _ _ _ _=>by exact dz (i:=10) (j:=11) K rfl rfl nd rfl rfl (Or.inl rfl) (Or.inl rfl) (.inr rfl) (.inr rfl)) (fun _ _ _ _ _=>by exact bG) (fun _ _ _ _ _=>by exact ao aF (pv 11) (aq (cE K rfl) (pv 6) (ao aN (ao aN (pv 3) af) (pv 10)) (fun _ _=>rfl))))
   (ab (aw (i:=1) nd rfl (Or.inl rfl) (aW FO hr (aa (pv 1) (aa (pv 7) (aa (ah (pv 4) rfl) ag)))))
   (ab (aw (i:=8) nd rfl (Or.inl rfl) (aq au (ah (pv 0) rfl) (ao aN (pv 3) af) (fun _ _=>rfl)))
   (ab (bW (i:=7) (own:=[("before",12),("cost",11)]) rfl nd rfl rfl (cu rfl rfl rfl rfl) (jf rfl T.zip (aa (ah (pv 8) rfl) (aa (ah (pv 8) rfl) ag))) (bf (by kernel_rfl))
    (fun _ _ _ _ _=>by exact dz (i:=12) (j:=11) K rfl rfl nd rfl rfl (Or.inl rfl) (Or.inl rfl) (.inr rfl) (.inr rfl)) (fun _ _ _ _ _=>by exact bG) (fun _ _ _ _ _=>by exact ao aF (pv 11) (aq (cE K rfl) (pv 6) (ao aN (pv 12) (pv 2)) (fun _ _=>rfl))))
   (ab (aw (i:=1) nd rfl (Or.inl rfl) (aW FO hr (aa (pv 1) (aa (pv 7) (aa (ah (pv 8) rfl) ag)))))
   (ab (aw (i:=9) nd rfl (Or.inl rfl) (ao aN (ao aN (ao aN (pv 3) (pv 2)) af) (bh T.nearest)))
   (ab (bW (i:=7) (own:=[("cost",11),("both",13)]) rfl nd rfl rfl (cu rfl rfl rfl rfl) (jf rfl T.zip (aa (ah (pv 5) rfl) (aa (dq eO (ah (ah (pv 0) rfl) rfl) (bM (ao aN (ao aN (bh T.longest) af) (pv 9))) tN) ag))) (bf (by kernel_rfl))
    (fun _ _ _ _ _=>by exact dz (i:=11) (j:=13) K rfl rfl nd rfl rfl (Or.inl rfl) (Or.inl rfl) (.inr rfl) (.inr rfl)) (fun _ _ _ _ _=>by exact bG) (fun _ _ _ _ _=>by exact ao aF (pv 11) (pv 13)))
   (ak (aC (aW FO hr (aa (pv 1) (aa (pv 7) (aa (ah (pv 5) rfl) ag))))))))))))),?_⟩
  obtain⟨dxp,ta,po,pc,pm,bd,hp0,hT,hp2,hp3,hp4,hp5⟩:=(hC.prices.same hS.old).ex
  obtain⟨dxt,t1,t2,t3,t4,ht0,ht1,ht2,ht3,ht4⟩:=hT.ex
  obtain⟨dxs,hso⟩:=hsh.ob
  obtain⟨dxw,hwo⟩:=hW.ob
  have hn:=hC.n
  have h100:=hC.n100
  have hself:=hS.at_ .self trivial
  refine⟨_,rfl,_,L.CS,_,_,_,rfl,hself,FC.S.cl,FC.S.no 2 _ rfl,rfl,_,CP,_,_,_,rfl,hp0,FC.P.cl,FC.P.no 0 _ rfl,rfl,_,CT,_,_,_,rfl,ht0,FC.T.cl,FC.T.no 2 _ rfl,rfl,?_⟩
  refine⟨_,rfl,_,L.CA,_,_,_,rfl,hso,FC.A.cl,FC.A.no 0 _ rfl,rfl,_,rfl,_,L.CA,_,_,_,rfl,hso,FC.A.cl,FC.A.no 1 _ rfl,rfl,p1,p2,_,_,rfl,SqL.of hsh.pl,SqL.of hsh.cs,fun D1 hD1=>?_⟩
  refine eZ (fun x y=>y+Fs.g p.tab.sides ((r:Int)-1-x).toNat) hD1 (SqL.of hsh.pl) (SqL.of hsh.cs) l3 (fun _ _=>rfl) (fun i x y H' Q' hx hy sm q=>?_) (fun H1 s1 d1=>?_)
  ·have hz:=hin1 x (List.mem_of_getElem? hx)
   exact⟨_,rfl,_,rfl,_,rfl,_,_,rfl,rfl,_,rfl,_,_,rfl,rfl,t3,_,_,_,rfl,rfl,SqL.of (sm _ _ ht3),bq (i:=((r:Int)-1-x).toNat) (by omega) (by rw [hC.sides];omega),_,_,rfl,rfl,q⟩
  refine⟨_,rfl,_,rfl,_,rfl,_,L.CA,_,_,_,rfl,s1 _ _ hso,FC.A.cl,FC.A.no 2 _ rfl,rfl,?_⟩
  refine⟨fa,D1,p3,f0,_,_,rfl,s1 _ _ hf,SqL.of d1,SqL.of (s1 _ _ hsh.ws),?_,fun H2 r1 s2 d2=>?_⟩
  ·rw [List.length_map,List.length_zip];omega
  have s12:=s1.trans s2
  have harcs:H2 (L.ad .arcs)=some (.lst ((List.range L.n).map fun r=>.ref (L.ad (.arc r)))):=s12 _ _ (hS.at_ .arcs trivial)
  have hr1:r-1<L.n:=by omega
  have hAt:=(hS.same s12).arcsAt hr1
  obtain⟨dxa,hao⟩:=hAt.ob
  refine⟨_,rfl,_,L.CS,_,_,_,rfl,s12 _ _ hself,FC.S.cl,FC.S.no 4 _ rfl,rfl,_,rfl,_,_,rfl,rfl,_,_,_,_,rfl,rfl,SqL.of harcs,hS.arcs_at (r:=r-1) (by omega) hr1,?_⟩
  refine⟨_,rfl,_,L.CA,_,_,_,rfl,hao,FC.A.cl,FC.A.no 0 _ rfl,rfl,_,rfl,_,L.CA,_,_,_,rfl,hao,FC.A.cl,FC.A.no 1 _ rfl,rfl,_,_,_,_,rfl,SqL.of hAt.pl,SqL.of hAt.cs,fun D2 hD2=>?_⟩
  refine eZ (fun x y=>y+Fs.g p.tab.sides (x-(l:Int)).toNat) hD2 (SqL.of hAt.pl) (SqL.of hAt.cs) l6 (fun _ _=>rfl) (fun i x y H' Q' hx hy sm q=>?_) (fun H3 s3 d3=>?_)
  ·have hz:=hin2 x (List.mem_of_getElem? hx)
   exact⟨_,rfl,_,rfl,_,rfl,_,rfl,_,_,rfl,rfl,t3,_,_,_,rfl,rfl,SqL.of (sm _ _ (s12 _ _ ht3)),bq (i:=(x-(l:Int)).toNat) (by omega) (by rw [hC.sides];omega),_,_,rfl,rfl,q⟩
  refine⟨_,rfl,_,rfl,_,rfl,_,L.CA,_,_,_,rfl,s3 _ _ hao,FC.A.cl,FC.A.no 2 _ rfl,rfl,?_⟩
  refine⟨r1,D2,_,Fs.offered f0 _ _,_,_,rfl,s3 _ _ d2,SqL.of d3,SqL.of (s3 _ _ hAt.ws),?_,fun H4 r2 s4 d4=>?_⟩
  ·rw [List.length_map,List.length_zip];omega
  have s34:=(s12.trans s3).trans s4
  refine⟨_,rfl,_,rfl,_,_,rfl,rfl,_,_,rfl,rfl,_,_,rfl,rfl,?_⟩
  refine⟨_,rfl,_,CW,_,_,_,rfl,s34 _ _ hwo,FW.cl,FW.no 0 _ rfl,rfl,_,rfl,_,L.CS,_,_,_,rfl,s34 _ _ hself,FC.S.cl,FC.S.no 2 _ rfl,rfl,_,CP,_,_,_,rfl,s34 _ _ hp0,FC.P.cl,FC.P.no 6 _ rfl,rfl,_,_,rfl,rfl,_,rfl,_,_,rfl,rfl,_,rfl,bd,_,rfl,SqL.of (s34 _ _ hp5),fun b4 hb4=>?_⟩
  have s5:=aj (o:=.lst (cutV (vi p.down) (some (100-1-((r:Int)-l-2-4))) none)) hb4
  have hb5:(upd H4 b4 (.lst (cutV (vi p.down) (some (100-1-((r:Int)-l-2-4))) none))) b4=some (.lst (vi (p.down.drop ((100:Int)-1-((r:Int)-l-2-4)).toNat))):=by
   rw [ae,sO (by omega)]
  show nI _ _ _ _
  generalize upd H4 b4 (.lst (cutV (vi p.down) (some (100-1-((r:Int)-l-2-4))) none))=H5 at s5 hb5 ⊢
  have s45:=s34.trans s5
  refine⟨q1,b4,_,_,rfl,SqL.of (s45 _ _ hW.lo),SqL.of hb5,fun D3 hD3=>?_⟩
  refine eZ (fun x y=>x+y) hD3 (SqL.of (s45 _ _ hW.lo)) (SqL.of hb5) (by omega) (fun _ _=>rfl) (fun i x y H' Q' hx hy sm q=>?_) (fun H6 s6 d6=>?_)
  ·exact⟨_,rfl,_,rfl,_,_,rfl,rfl,q⟩
  refine⟨_,rfl,_,rfl,_,rfl,_,CW,_,_,_,rfl,s6 _ _ (s45 _ _ hwo),FW.cl,FW.no 1 _ rfl,rfl,?_⟩
  refine⟨r2,D3,q2,_,_,_,rfl,s6 _ _ (s5 _ _ d4),SqL.of d6,SqL.of (s6 _ _ (s45 _ _ hW.cn)),?_,fun H7 r3 s7 d7=>?_⟩
  ·rw [List.length_map,List.length_zip];omega
  refine k H7 r3 ((s45.trans s6).trans s7) ?_
  unfold Fs.offerSingle
  exact d7
end
end Pg
end
section
namespace Pg
open PySem PySem.Spec PyProof.Rows L2 L3
theorem gL(W:Fs.Win)(x:Fs.Arcs)(r:Nat):(W.widen x r).lows.length=W.lows.length/\(W.widen x r).cnts.length=W.cnts.length:=by
 unfold Fs.Win.widen
 generalize x.trip=tl
 induction tl generalizing W with
 |nil=>exact⟨rfl,rfl⟩
 |cons y tl ih=>
  rw [List.foldl_cons]
  have h1:=j8 ((r:Int)-4-1) W y
  have h2:=ih (W.take1 ((r:Int)-4-1) y)
  omega
structure PsI(n l r:Nat)(st:Fs.Pst):Prop where
 row:Fs.RowLen n st.row
 w1:st.W.lows.length=n
 w2:st.W.cnts.length=n
 s1:st.sh.cs.length=st.sh.pl.length
 s2:st.sh.ws.length=st.sh.pl.length
 s3:st.sh.pl.length+(l+4)<=r
 s4:∀z∈st.sh.pl,(l:Int)+2<=z/\z+3<=r
theorem qo{n:Nat}{p:Fs.Prc}{R:Fs.Row}{l r:Nat}{f:Int × Int}(h:Fs.RowLen n R):Fs.RowLen n (Fs.keepPair p R l r f):=by
 unfold Fs.keepPair
 exact⟨by simp [h.pc],by simp [h.pw],h.oc,h.ow,h.tc,h.tw⟩
theorem sQ{n l r:Nat}{s:List Int}{p:Fs.Prc}{S:Fs.Sr}{st:Fs.Pst}(hr:l+4<=r)(h:PsI n l r st):PsI n l (r+1) (Fs.bJ s p S l r st):=by
 have hw:=gL st.W (S.arc (r-2)) (r-2)
 unfold Fs.bJ
 simp only
 refine⟨?_,by rw [hw.1];exact h.w1,by rw [hw.2];exact h.w2,?_,?_,?_,?_⟩
 ·simp only
  split
  ·exact qo h.row
  ·exact h.row
 ·simp only
  split
  ·simp [Fs.Arcs.put,h.s1]
  ·exact h.s1
 ·simp only
  split
  ·simp [Fs.Arcs.put,h.s2]
  ·exact h.s2
 ·have:=h.s3
  simp only
  split
  ·simp [Fs.Arcs.put];omega
  ·omega
 ·simp only
  split
  ·intro z hz
   unfold Fs.Arcs.put at hz
   simp only [List.mem_append,List.mem_singleton] at hz
   rcases hz with hz |hz
   ·have:=h.s4 z hz;omega
   ·subst hz;omega
  ·intro z hz
   have:=h.s4 z hz;omega
theorem tJ{s:List Int}{p:Fs.Prc}{S:Fs.Sr}{l r:Nat}{R:Fs.Row}{o:Int}(h:l<S.rows.length):Fs.bS s p (Rw S l R) l r o=Fs.bS s p S l r o:=by
 unfold Fs.bS
 simp only [Rw.row h,if_neg (show ¬l=l+1 by omega)]
section
variable {P:Program}{w:World}{K:PySem.W.Frag}{mg:Str->Option Value}{base:Heap}{aS aL aG CS CR CA CP CT CW:Addr}
abbrev sFillP:Stmt:=inClass (top 15) 3
def PairMul(s:List Int)(p:Fs.Prc)(S:Fs.Sr)(l:Nat):Prop:=∀i,l+4+i<s.length->0<=Fs.aE s l (l+4+i)->
 let st:=Fs.iter (Fs.bJ s p S l) (l+4) i ⟨Fs.Win.new s.length p.far,⟨[],[],[]⟩,S.row l⟩
 let r:=l+4+i
 let W:=st.W.widen (S.arc (r-2)) (r-2)
 let sh:=if Fs.g (S.row (l+1)).pw (r-2) > 0 then st.sh.put ((r:Int)-2) (Fs.g (S.row (l+1)).pc (r-2)) (Fs.g (S.row (l+1)).pw (r-2)) else st.sh
 IntMulOk (Fs.offerSingle p S (Fs.bS s p S l r (Fs.aE s l r)) l r sh W).2 p.weight
inductive kh(K:PySem.W.Frag)(CS CR CA CP CT:Addr)(vs:List V)(H:Hp)(Q:VK):Prop
 |mk:∀(H0:Hp) (L:Lay) (S:Fs.Sr) (s:List Int) (p:Fs.Prc) (l:Nat),(vs=[.ref (L.ad .self),.ref (L.ad (.row l))])->(L.CS=CS)->(L.CR=CR)->(L.CA=CA)->(Ctx K CP CT H0 L s p)->(SrAt H0 H L S)->(Dom L.n l S)->(l<L.n)->(PairMul s p S l)->(∀H':Hp,SrAt H0 H' L (Fs.fillPairs s p l S)->Kept L H H'->Q .non H')->kh K CS CR CA CP CT vs H Q
def spFillP(K:PySem.W.Frag)(CS CR CA CP CT:Addr):Sp:=fun vs H Q _=>kh K CS CR CA CP CT vs H Q
theorem scFillP:aB ["self","row","within","window","shorter","right","outer","found"] ["self","row"] (ax sFillP):=⟨rfl,rfl,rfl,by decide+kernel,rfl,by decide+kernel,by decide+kernel⟩
theorem sU{f:Addr}{fd:FuncData}(F:Fun K "fill_pairs" "Search.fill_pairs" sFillP f fd)(T:Txt K mg aS aL aG)(FC:SrC K CS CR CA CP CT)
  (MW:Mc P w K mg base 1 "Window" CW ["self","size","far"] (spWinI CW)) (MA:Mc P w K mg base 1 "Arcs" CA ["self"] (spArcsI CA)) (FD:Mt P w K mg base 1 CW "widen" ["self","arcs","right"] (spWiden CW CA)) (FP:Mt P w K mg base 1 CA "put" ["self","place","cost","ways"] (spArcsP CA))
  (FO:Fn P w K mg base 1 "sort_of" ["strand","left","right"] (spSortOf K)) (FN:Mt P w K mg base 2 CS "offer_near" ["self","left","right","outer"] (spNear K CS CR CA CP CT)) (FK:Mt P w K mg base 1 CS "keep_pair" ["self","row","right","found"] (spKeep K CS CR CA CP CT))
  (FG:Mt P w K mg base 3 CS "offer_single" ["self","found","left","right","shorter","window"] (spSingle K CS CR CA CP CT CW)):
  FnOk P w K mg base CX0 4 f fd ["self","row"] (spFillP K CS CR CA CP CT):=by
 refine F.ok scFillP (fun vs H Q E h=>?_) (fun cdv A outer s H vs Q E hr h=>?_)
 ·obtain⟨_,_,_,_,_,_,rfl,_⟩:=h
  rfl
 ·obtain⟨H0,L,S,s,p,l,rfl,rfl,rfl,rfl,hC,hS,hD,hl,hM,k⟩:=h
  have nd:=scFillP.nd
  have hr1:Room 1 _:=hr.mono (by decide)
  have hr2:Room 2 _:=hr.mono (by decide)
  refine⟨_,ab (aw (i:=2) nd rfl (Or.inl rfl) (aq au (ah (pv 0) rfl) (ao aF (ah (pv 1) rfl) af) (fun _ _=>rfl)))
   (ab (aw (i:=3) nd rfl (Or.inl rfl) (fe MW hr2 (aa (ah (pv 0) rfl) (aa (ah (ah (pv 0) rfl) rfl) ag))))
   (ab (aw (i:=4) nd rfl (Or.inl rfl) (rf MA hr2))
   (ak (de PassesOwn.never rfl (dt rfl T.range (aa (ao aF (ah (pv 1) rfl) (bh T.nearest)) (aa (ah (pv 0) rfl) ag))) (bb (i:=5) nd rfl (Or.inl rfl))
    (ab (bx (eh FD hr1 (pv 3) (aa (aq au (ah (pv 0) rfl) (ao aN (pv 5) af) (fun _ _=>rfl)) (aa (ao aN (pv 5) af) ag))))
    (ab (br (aK oz (aq au (ah (pv 2) rfl) (ao aN (pv 5) af) (fun _ _=>rfl)) af (aX _))
     (ak (bx (eh FP hr1 (pv 4) (aa (ao aN (pv 5) af) (aa (aq au (ah (pv 2) rfl) (ao aN (pv 5) af) (fun _ _=>rfl)) (aa (aq au (ah (pv 2) rfl) (ao aN (pv 5) af) (fun _ _=>rfl)) ag)))))) aQ)
    (ab (aw (i:=6) nd rfl (Or.inl rfl) (aW FO hr1 (aa (ah (pv 0) rfl) (aa (ah (pv 1) rfl) (aa (pv 5) ag)))))
    (ak (br (aK sC (pv 6) af (aX _))
     (ab (aw (i:=7) nd rfl (Or.inl rfl) (eh FN hr2 (pv 0) (aa (ah (pv 1) rfl) (aa (pv 5) (aa (pv 6) ag)))))
     (ak (bx (eh FK hr1 (pv 0) (aa (pv 1) (aa (pv 5) (aa (eh FG hr (pv 0) (aa (pv 7) (aa (ah (pv 1) rfl) (aa (pv 5) (aa (pv 4) (aa (pv 3) ag)))))) ag)))))))
     aQ))))))))),?_⟩
  obtain⟨dxp,ta,po,pc,pm,bd,hp0,hT,hp2,hp3,hp4,hp5⟩:=(hC.prices.same hS.old).ex
  have hn:=hC.n
  have h100:=hC.n100
  have hself:=hS.at_ .self trivial
  have hrows:H (L.ad .rows)=some (.lst ((List.range (L.n+2)).map fun l=>.ref (L.ad (.row l)))):=hS.at_ .rows trivial
  have hl2:l<L.n+2:=by omega
  have hl1:l+1<L.n+2:=by omega
  have hl3:l<S.rows.length:=by rw [hD.nrows];omega
  have hrow:=hS.at_ (.row l) hl2
  have rl1:=hD.len (l+1) hl1
  refine⟨_,rfl,_,L.CS,_,_,_,rfl,hself,FC.S.cl,FC.S.no 3 _ rfl,rfl,_,rfl,_,L.CR,_,_,_,rfl,hrow,FC.R.cl,FC.R.no 0 _ rfl,rfl,_,_,rfl,rfl,_,_,_,_,rfl,rfl,SqL.of hrows,hS.rows_at (l:=l+1) (by omega) hl1,?_⟩
  refine⟨_,rfl,_,L.CS,_,_,_,rfl,hself,FC.S.cl,FC.S.no 1 _ rfl,rfl,_,rfl,_,L.CS,_,_,_,rfl,hself,FC.S.cl,FC.S.no 2 _ rfl,rfl,_,CP,_,_,_,rfl,hp0,FC.P.cl,FC.P.no 1 _ rfl,rfl,?_⟩
  intro wa dxw nw ndw new
  refine⟨wa,dxw,L.n,p.far,rfl,ae,by omega,fun H1 q1 q2 hw1 ac1=>⟨rfl,?_⟩⟩
  have sW:Same H H1:=Same.made nw ndw ac1.gr
  have a1:=ac1.at_ (q1,_) (.head _)
  have a2:=ac1.at_ (q2,_) (.tail _ (.head _))
  have nq:q1≠q2:=by
   have:=ac1.nd
   simp only [List.map_cons,List.map_nil,List.nodup_cons,List.mem_cons,List.not_mem_nil,or_false,not_false_eq_true,List.nodup_nil,and_true] at this
   exact this
  have fresh1:∀{q:Addr},(upd (upd H dxw (.own wa)) wa (.ins CW dxw [])) q=none->H q=none:=fun {q} hq=>by
   cases e:H q with
   |none=>rfl
   |some o=>
    rw [ai (ai e (aD e ndw)) (aD e nw)] at hq
    cases hq
  intro sa dxs ns nds nes
  refine⟨sa,dxs,rfl,ae,fun H2 p1 p2 p3 hs2 ac2=>⟨rfl,?_⟩⟩
  have sA:Same H1 H2:=Same.made ns nds ac2.gr
  have b1:=ac2.at_ (p1,[]) (.head _)
  have b2:=ac2.at_ (p2,[]) (.tail _ (.head _))
  have b3:=ac2.at_ (p3,[]) (.tail _ (.tail _ (.head _)))
  have fresh2:∀{q:Addr},(upd (upd H1 dxs (.own sa)) sa (.ins L.CA dxs [])) q=none->H1 q=none:=fun {q} hq=>by
   cases e:H1 q with
   |none=>rfl
   |some o=>
    rw [ai (ai e (aD e nds)) (aD e ns)] at hq
    cases hq
  have s02:Same H H2:=sW.trans sA
  have hW0:WinAt CW H2 wa q1 q2 (Fs.Win.new s.length p.far):=by
   refine⟨⟨dxw,sA _ _ hw1⟩,?_,?_,nq⟩
   ·rw [sA _ _ a1.2.1,<-hn];rfl
   ·rw [sA _ _ a2.2.1,<-hn];rfl
  have hA0:ArcsAt L.CA H2 sa p1 p2 p3 ⟨[],[],[]⟩:=⟨⟨dxs,hs2⟩,b1.2.1,b2.2.1,b3.2.1,ac2.nd⟩
  have lay:∀t:Tg,t.ok L.n->∃o,H (L.ad t)=some o:=fun t ht=>⟨_,hS.at_ t ht⟩
  have frq:∀{q:Addr},H q=none->∀t:Tg,t.ok L.n->q≠L.ad t:=fun {q} hq t ht e=>by
   obtain⟨o,ho⟩:=lay t ht
   rw [<-e,hq] at ho;cases ho
  have fwa:=frq nw
  have fq1:=frq (fresh1 a1.1)
  have fq2:=frq (fresh1 a2.1)
  have fsa:=frq (sW.free ns)
  have fp1:=frq (sW.free (fresh2 b1.1))
  have fp2:=frq (sW.free (fresh2 b2.1))
  have fp3:=frq (sW.free (fresh2 b3.1))
  have nqp:∀{q x:Addr} {xs:List V},H1 q=some (.lst xs)->H1 x=none->q≠x:=fun h1 h2 e=>by rw [e,h2] at h1;cases h1
  have d1:q1∉[p1,p2,p3]:=by
   simp only [List.mem_cons,List.not_mem_nil,or_false,not_or]
   exact⟨nqp a1.2.1 (fresh2 b1.1),nqp a1.2.1 (fresh2 b2.1),nqp a1.2.1 (fresh2 b3.1)⟩
  have d2:q2∉[p1,p2,p3]:=by
   simp only [List.mem_cons,List.not_mem_nil,or_false,not_or]
   exact⟨nqp a2.2.1 (fresh2 b1.1),nqp a2.2.1 (fresh2 b2.1),nqp a2.2.1 (fresh2 b3.1)⟩
  have hS2:=hS.same s02
  have kp02:Kept L H H2:=Kept.of_same s02
  have hself2:=hS2.at_ .self trivial
  have hrow2:=hS2.at_ (.row l) hl2
  refine⟨_,rfl,_,L.CR,_,_,_,rfl,hrow2,FC.R.cl,FC.R.no 0 _ rfl,rfl,_,_,rfl,rfl,_,rfl,_,L.CS,_,_,_,rfl,hself2,FC.S.cl,FC.S.no 1 _ rfl,rfl,_,_,rfl,by omega,?_⟩
  rw [show ((L.n:Int)-((l:Int)+4)).toNat=s.length-(l+4) by omega]
  let St:Nat->Fs.Pst:=fun i=>Fs.iter (Fs.bJ s p S l) (l+4) i ⟨Fs.Win.new s.length p.far,⟨[],[],[]⟩,S.row l⟩
  have hI:∀i,PsI L.n l (l+4+i) (St i):=fun i=>by
   induction i with
   |zero=>
    refine⟨hD.len l hl2,?_,?_,rfl,rfl,?_,?_⟩
    ·show (List.replicate s.length p.far).length=_;simp [hn]
    ·show (List.replicate s.length (0:Int)).length=_;simp [hn]
    ·show 0+(l+4)<=_;omega
    ·intro z hz;exact absurd hz (by show ¬z∈[];simp)
   |succ i ih=>exact sQ (r:=l+4+i) (by omega) ih
  refine dh (lo:=(l:Int)+4) (n:=s.length-(l+4)) (fun i σ H'=>∃v5 v6 v7:Option V,σ=[some (.ref (L.ad .self)),some (.ref (L.ad (.row l))),some (.ref (L.ad (.row (l+1)))),some (.ref wa),some (.ref sa),v5,v6,v7]/\
   SrAt H0 H' L (Rw S l (St i).row)/\WinAt CW H' wa q1 q2 (St i).W/\ArcsAt L.CA H' sa p1 p2 p3 (St i).sh/\Kept L H H') ⟨none,none,none,rfl,?_,hW0,hA0,kp02⟩ ?_ ?_
  ·rw [show (St 0).row=S.row l from rfl,Rw.self hl3];exact hS2
  ·rintro i σ H' hi ⟨v5,v6,v7,rfl,hS',hW',hA',kp⟩
   have er:(l:Int)+4+(i:Int)=((l+4+i:Nat):Int):=by omega
   have hMi:=hM i (by omega)
   have hIi:=hI i
   have hst:St (i+1)=Fs.bJ s p S l (l+4+i) (St i):=rfl
   rw [show Fs.iter (Fs.bJ s p S l) (l+4) i ⟨Fs.Win.new s.length p.far,⟨[],[],[]⟩,S.row l⟩=St i from rfl] at hMi
   generalize hri:l+4+i=r at er hMi hIi hst
   generalize St i=st at hS' hW' hA' hMi hIi hst
   have hrn:r<L.n:=by omega
   have hlr:l+4<=r:=by omega
   have er2:(r:Int)-2=((r-2:Nat):Int):=by omega
   have hr2n:r-2<L.n:=by omega
   rw [er]
   unfold Fs.bJ at hst
   simp only at hst hMi
   have harcs:H' (L.ad .arcs)=some (.lst ((List.range L.n).map fun r=>.ref (L.ad (.arc r)))):=hS'.at_ .arcs trivial
   have hAr:=hS'.arcsAt hr2n
   rw [Rw.arc] at hAr
   obtain⟨dxv,hwo⟩:=hW'.ob
   refine⟨_,rfl,wa,_,_,rfl,hwo,rfl,_,rfl,_,L.CS,_,_,_,rfl,hS'.at_ .self trivial,FC.S.cl,FC.S.no 4 _ rfl,rfl,_,rfl,_,_,rfl,rfl,_,_,_,_,rfl,rfl,SqL.of harcs,hS'.arcs_at er2 hr2n,_,rfl,_,_,rfl,rfl,?_⟩
   refine⟨wa,q1,q2,_,_,_,_,st.W,S.arc (r-2),r-2,(by show [V.ref wa,V.ref (L.ad (.arc (r-2))),V.int ((r:Int)-2)]=_;rw [er2]),hW',hAr,?_,?_,hD.ac1 _ hr2n,hD.ac2 _ hr2n,by rw [hIi.w1,hIi.w2],?_,fun H3 hW3 kp3=>?_⟩
   ·simp only [List.mem_cons,List.not_mem_nil,or_false,not_or]
    exact⟨fq1 (.pl _) hr2n,fq1 (.cs _) hr2n,fq1 (.ws _) hr2n⟩
   ·simp only [List.mem_cons,List.not_mem_nil,or_false,not_or]
    exact⟨fq2 (.pl _) hr2n,fq2 (.cs _) hr2n,fq2 (.ws _) hr2n⟩
   ·intro z hz
    have:=hD.ac4 _ hr2n z hz
    rw [hIi.w1]
    omega
   have kq:∀{b:Addr} {o:HO},H' b=some o->b≠q1->b≠q2->H3 b=some o:=fun e e1 e2=>kp3 _ _ e (by
    simp only [List.mem_cons,List.not_mem_nil,or_false,not_or];exact⟨e1,e2⟩)
   have hS3:SrAt H0 H3 L (Rw S l st.row):=⟨hS'.inj,fun t ht=>kq (hS'.at_ t ht) (Ne.symm (fq1 t ht)) (Ne.symm (fq2 t ht)),hS'.new,fun b o e=>kq (hS'.old b o e)
    (fun z=>by rw [z] at e;have:=hS.old _ _ e;rw [fresh1 a1.1] at this;cases this) (fun z=>by rw [z] at e;have:=hS.old _ _ e;rw [fresh1 a2.1] at this;cases this)⟩
   simp only [List.mem_cons,List.not_mem_nil,or_false,not_or] at d1 d2
   have hA3:ArcsAt L.CA H3 sa p1 p2 p3 st.sh:=by
    obtain⟨dxz,hso⟩:=hA'.ob
    exact⟨⟨dxz,kq hso (fun z=>by rw [z,hW'.lo] at hso;cases hso) (fun z=>by rw [z,hW'.cn] at hso;cases hso)⟩,kq hA'.pl (Ne.symm d1.1) (Ne.symm d2.1),kq hA'.cs (Ne.symm d1.2.1) (Ne.symm d2.2.1),kq hA'.ws (Ne.symm d1.2.2) (Ne.symm d2.2.2),hA'.nd⟩
   have hKq1:H q1=none:=fresh1 a1.1
   have hKq2:H q2=none:=fresh1 a2.1
   have kp3':Kept L H H3:=fun b o e hb=>kq (kp b o e hb) (fun z=>by rw [z,hKq1] at e;cases e) (fun z=>by rw [z,hKq2] at e;cases e)
   have hrowS:=hS3.at_ (.row (l+1)) hl1
   have hpwS:H3 (L.ad (.pw (l+1)))=some (.lst (vi (S.row (l+1)).pw)):=by
    rw [hS3.at_ (.pw (l+1)) hl1];show some (HO.lst (vi ((Rw S l st.row).row (l+1)).pw))=_;rw [Rw.row hl3,if_neg (by omega)]
   have hpcS:H3 (L.ad (.pc (l+1)))=some (.lst (vi (S.row (l+1)).pc)):=by
    rw [hS3.at_ (.pc (l+1)) hl1];show some (HO.lst (vi ((Rw S l st.row).row (l+1)).pc))=_;rw [Rw.row hl3,if_neg (by omega)]
   have rest:∀(H4:Hp) (sh:Fs.Arcs),sh=(if Fs.g (S.row (l+1)).pw (r-2) > 0 then st.sh.put ((r:Int)-2) (Fs.g (S.row (l+1)).pc (r-2)) (Fs.g (S.row (l+1)).pw (r-2)) else st.sh)->SrAt H0 H4 L (Rw S l st.row)->WinAt CW H4 wa q1 q2 (st.W.widen (S.arc (r-2)) (r-2))->
     ArcsAt L.CA H4 sa p1 p2 p3 sh->Kept L H H4->sh.cs.length=sh.pl.length->sh.ws.length=sh.pl.length->sh.pl.length<=1000->(∀z∈sh.pl,0<=(r:Int)-1-z/\(r:Int)-1-z<100)->
     tSeq (tAsg (tCall (spSortOf K) [] E0 (tCons (tFld K (tVar 0) "strand") (tCons (tFld K (tVar 1) "left") (tCons (tVar 5) tNil)))) (gName 6))
      (tIfS (tTest (tOp (rI0 fun i j=>.bl (decide (j<=i))) (tVar 6) (tC (.int 0)))) (tSeq (tAsg (tMeth L.CS "offer_near" (spNear K L.CS L.CR L.CA CP CT) [] E0 (tVar 0) (tCons (tFld K (tVar 1) "left") (tCons (tVar 5) (tCons (tVar 6) tNil)))) (gName 7))
       (tDrop (tMeth L.CS "keep_pair" (spKeep K L.CS L.CR L.CA CP CT) [] E0 (tVar 0) (tCons (tVar 1) (tCons (tVar 5) (tCons (tMeth L.CS "offer_single" (spSingle K L.CS L.CR L.CA CP CT CW) [] E0 (tVar 0) (tCons (tVar 7) (tCons (tFld K (tVar 1) "left") (tCons (tVar 5) (tCons (tVar 4) (tCons (tVar 3) tNil)))))) tNil)))))) tNext)
      {nx:=fun σ H'=>∃v5 v6 v7:Option V,σ=[some (.ref (L.ad .self)),some (.ref (L.ad (.row l))),some (.ref (L.ad (.row (l+1)))),some (.ref wa),some (.ref sa),v5,v6,v7]/\
        SrAt H0 H' L (Rw S l (St (i+1)).row)/\WinAt CW H' wa q1 q2 (St (i+1)).W/\ArcsAt L.CA H' sa p1 p2 p3 (St (i+1)).sh/\Kept L H H',rt:=Q,
       ct:=fun σ H'=>∃v5 v6 v7:Option V,σ=[some (.ref (L.ad .self)),some (.ref (L.ad (.row l))),some (.ref (L.ad (.row (l+1)))),some (.ref wa),some (.ref sa),v5,v6,v7]/\
        SrAt H0 H' L (Rw S l (St (i+1)).row)/\WinAt CW H' wa q1 q2 (St (i+1)).W/\ArcsAt L.CA H' sa p1 p2 p3 (St (i+1)).sh/\Kept L H H',bk:=fun _ H'=>Q .non H'}
      [some (.ref (L.ad .self)),some (.ref (L.ad (.row l))),some (.ref (L.ad (.row (l+1)))),some (.ref wa),some (.ref sa),some (.int r),v6,v7] H4:=by
    intro H4 sh esh hS4 hW4 hA4 kp4 z1 z2 z3 z4
    rw [<-esh] at hst hMi
    have hself4:=hS4.at_ .self trivial
    have hrow4:=hS4.at_ (.row l) hl2
    refine⟨_,rfl,_,L.CS,_,_,_,rfl,hself4,FC.S.cl,FC.S.no 0 _ rfl,rfl,_,rfl,_,L.CR,_,_,_,rfl,hrow4,FC.R.cl,FC.R.no 0 _ rfl,rfl,_,rfl,?_⟩
    refine⟨L.sA,s,l,r,rfl,hS4.old.seq hC.strand,by omega,by omega,fun H5 s5=>?_⟩
    have hS5:=hS4.same s5
    refine⟨_,rfl,_,_,rfl,rfl,_,rfl,?_⟩
    refine ite2 (fun c=>?_) (fun c=>?_)
    ·have c:0<=Fs.aE s l r:=of_decide_eq_true c
     rw [if_pos c] at hst
     refine⟨_,rfl,_,_,_,rfl,hS5.at_ .self trivial,rfl,_,rfl,_,L.CR,_,_,_,rfl,hS5.at_ (.row l) hl2,FC.R.cl,FC.R.no 0 _ rfl,rfl,_,rfl,_,rfl,?_⟩
     refine⟨H0,L,Rw S l st.row,s,p,l,r,Fs.aE s l r,rfl,rfl,rfl,rfl,hC,hS5,hlr,hrn,(by rw [Rw.row hl3,if_neg (by omega)];exact rl1),c,eS s l r,fun H6 f1 s6 d6=>?_⟩
     rw [tJ hl3] at d6
     have hS6:=hS5.same s6
     refine⟨_,rfl,_,_,_,rfl,hS6.at_ .self trivial,rfl,_,rfl,_,rfl,_,rfl,_,_,_,rfl,hS6.at_ .self trivial,rfl,_,rfl,_,rfl,_,L.CR,_,_,_,rfl,hS6.at_ (.row l) hl2,FC.R.cl,FC.R.no 0 _ rfl,rfl,_,rfl,_,rfl,_,rfl,?_⟩
     have s56:=s5.trans s6
     refine⟨H0,L,Rw S l st.row,s,p,l,r,f1,_,sa,p1,p2,p3,sh,wa,q1,q2,_,rfl,rfl,rfl,rfl,hC,hS6,hlr,hrn,d6,hA4.same s56,hW4.same s56,z1,z2,z3,z4,?_,?_,?_,?_,?_,?_,fun H7 f2 s7 d7=>?_⟩
     ·rw [Rw.arc];exact hD.ac1 _ (by omega)
     ·rw [Rw.arc];exact hD.ac2 _ (by omega)
     ·rw [Rw.arc];have:=hD.ac3 (r-1) (by omega);omega
     ·rw [Rw.arc];intro z hz;have:=hD.ac4 (r-1) (by omega) z hz;omega
     ·rw [(gL _ _ _).1];exact hIi.w1
     ·rw [(gL _ _ _).2];exact hIi.w2
     have hS7:=hS6.same s7
     refine⟨H0,L,S,s,p,l,r,f2,_,st.row,rfl,rfl,rfl,rfl,hC,hS7,hD.nrows,hl,hrn,hIi.row,d7,hMi c,fun H8 hS8 kp8=>?_⟩
     have s57:=s56.trans s7
     have kW:∀{b:Addr} {o:HO},H7 b=some o->(∀t:Tg,t.ok L.n->b≠L.ad t)->H8 b=some o:=fun e h=>kp8 _ _ e h
     refine⟨_,_,_,rfl,?_,?_,?_,((kp4.trans (Kept.of_same s57)).trans kp8)⟩
     ·rw [hst];exact hS8
     ·rw [hst]
      obtain⟨dxz,hwz⟩:=hW4.ob
      exact⟨⟨dxz,kW (s57 _ _ hwz) fwa⟩,kW (s57 _ _ hW4.lo) fq1,kW (s57 _ _ hW4.cn) fq2,hW4.ne⟩
     ·rw [hst]
      obtain⟨dxz,hsz⟩:=hA4.ob
      exact⟨⟨dxz,kW (s57 _ _ hsz) fsa⟩,kW (s57 _ _ hA4.pl) fp1,kW (s57 _ _ hA4.cs) fp2,kW (s57 _ _ hA4.ws) fp3,hA4.nd⟩
    ·have c:¬0<=Fs.aE s l r:=fun z=>c (decide_eq_true z)
     rw [if_neg c] at hst
     refine⟨_,_,_,rfl,?_,?_,?_,kp4.trans (Kept.of_same s5)⟩
     ·rw [hst];exact hS5
     ·rw [hst];exact hW4.same s5
     ·rw [hst];exact hA4.same s5
   have hat:atI (vi (S.row (l+1)).pw) ((r:Int)-2)=some (V.int (Fs.g (S.row (l+1)).pw (r-2))):=bq er2 (by rw [rl1.pw];omega)
   refine⟨_,rfl,_,L.CR,_,_,_,rfl,hrowS,FC.R.cl,FC.R.no 2 _ rfl,rfl,_,rfl,_,_,rfl,rfl,_,_,_,_,rfl,rfl,SqL.of hpwS,hat,_,_,rfl,rfl,_,rfl,?_⟩
   refine ite2 (fun c=>?_) (fun c=>?_)
   ·have c:Fs.g (S.row (l+1)).pw (r-2) > 0:=of_decide_eq_true c
    obtain⟨dxz,hso⟩:=hA3.ob
    refine⟨_,rfl,sa,_,_,rfl,hso,rfl,_,rfl,_,_,rfl,rfl,_,rfl,_,L.CR,_,_,_,rfl,hrowS,FC.R.cl,FC.R.no 1 _ rfl,rfl,_,rfl,_,_,rfl,rfl,_,_,_,_,rfl,rfl,SqL.of hpcS,bq er2 (by rw [rl1.pc];omega),
     _,rfl,_,L.CR,_,_,_,rfl,hrowS,FC.R.cl,FC.R.no 2 _ rfl,rfl,_,rfl,_,_,rfl,rfl,_,_,_,_,rfl,rfl,SqL.of hpwS,hat,?_⟩
    have hs3:=hIi.s3
    have hs1:=hIi.s1
    have hs2:=hIi.s2
    refine⟨sa,p1,p2,p3,st.sh,_,_,_,rfl,hA3,by omega,by omega,by omega,fun H4 hA4 kp4=>?_⟩
    have kz:∀{b:Addr} {o:HO},H3 b=some o->b≠p1->b≠p2->b≠p3->H4 b=some o:=fun e e1 e2 e3=>kp4 _ _ e (by
     simp only [List.mem_cons,List.not_mem_nil,or_false,not_or];exact⟨e1,e2,e3⟩)
    have g1:H p1=none:=sW.free (fresh2 b1.1)
    have g2:H p2=none:=sW.free (fresh2 b2.1)
    have g3:H p3=none:=sW.free (fresh2 b3.1)
    have nz:∀{b:Addr} {o:HO},H b=some o->b≠p1/\b≠p2/\b≠p3:=fun e=>⟨fun z=>(by rw [z,g1] at e;cases e),fun z=>(by rw [z,g2] at e;cases e),fun z=>(by rw [z,g3] at e;cases e)⟩
    refine rest H4 _ (by rw [if_pos c]) ⟨hS3.inj,fun t ht=>kz (hS3.at_ t ht) (Ne.symm (fp1 t ht)) (Ne.symm (fp2 t ht)) (Ne.symm (fp3 t ht)),hS3.new,fun b o e=>?_⟩ ?_ hA4 (fun b o e hb=>?_) ?_ ?_ ?_ ?_
    ·have:=nz (hS.old b o e);exact kz (hS3.old b o e) this.1 this.2.1 this.2.2
    ·obtain⟨dxy,hwy⟩:=hW3.ob
     refine⟨⟨dxy,kz hwy (fun z=>by rw [z,hA3.pl] at hwy;cases hwy) (fun z=>by rw [z,hA3.cs] at hwy;cases hwy) (fun z=>by rw [z,hA3.ws] at hwy;cases hwy)⟩,kz hW3.lo d1.1 d1.2.1 d1.2.2,kz hW3.cn d2.1 d2.2.1 d2.2.2,hW3.ne⟩
    ·have:=nz e;exact kz (kp3' b o e hb) this.1 this.2.1 this.2.2
    ·simp [Fs.Arcs.put];exact hs1
    ·simp [Fs.Arcs.put];exact hs2
    ·simp [Fs.Arcs.put];omega
    ·intro z hz
     unfold Fs.Arcs.put at hz
     simp only [List.mem_append,List.mem_singleton] at hz
     rcases hz with hz |hz
     ·have:=hIi.s4 z hz;omega
     ·subst hz
      show 0<=(r:Int)-1-((r:Int)-2)/\_
      omega
   ·have c:¬Fs.g (S.row (l+1)).pw (r-2) > 0:=fun z=>c (decide_eq_true z)
    have hs3:=hIi.s3
    exact rest H3 _ (by rw [if_neg c]) hS3 hW3 hA3 kp3' hIi.s1 hIi.s2 (by omega) (fun z hz=>by have:=hIi.s4 z hz;omega)
  ·rintro σ H' ⟨v5,v6,v7,rfl,hS',hW',hA',kp⟩
   exact k H' hS' kp
end
end Pg
end
section
namespace Pg
open PySem PySem.Spec PyProof.Rows L2 L3
section
variable {P:Program}{w:World}{K:PySem.W.Frag}{mg:Str->Option Value}{base:Heap}{aS aL aG CS CR CA CP CT CW:Addr}
abbrev sLast:Stmt:=inClass (top 15) 8
inductive mq(K:PySem.W.Frag)(CS CR CA CP CT:Addr)(vs:List V)(H:Hp)(Q:VK):Prop
 |mk:∀(H0:Hp) (L:Lay) (S:Fs.Sr) (s:List Int) (p:Fs.Prc) (r:Nat) (sca swa:Addr) (sc sw:List Int),(vs=[.ref (L.ad .self),.int r,.ref sca,.ref swa])->(L.CS=CS)->(L.CR=CR)->(L.CA=CA)->(Ctx K CP CT H0 L s p)->(SrAt H0 H L S)->(r<L.n)->(SqL K H sca (vi sc))->(SqL K H swa (vi sw))->(sc.length=L.n)->(sw.length=L.n)->((S.arc r).cs.length=(S.arc r).pl.length)->((S.arc r).ws.length=(S.arc r).pl.length)->((S.arc r).pl.length<=1000)->((∀z∈(S.arc r).pl,0<=z/\z<L.n))->((∀(i:Nat) (z:Int),(S.arc r).pl[i]?=some z->IntMulOk (Fs.g sw z.toNat) (Fs.g (S.arc r).ws i)))->(∀(H':Hp) (q:Addr),Same H H'->Tup2 H' q (Fs.bj p S r sc sw)->Q (.ref q) H')->mq K CS CR CA CP CT vs H Q
def spLast(K:PySem.W.Frag)(CS CR CA CP CT:Addr):Sp:=fun vs H Q _=>mq K CS CR CA CP CT vs H Q
theorem scLast:aB ["self","right","some_costs","some_ways","arcs","totals","low","ways","before","cost","at","total"] ["self","right","some_costs","some_ways"] (ax sLast):=⟨rfl,rfl,rfl,by decide+kernel,rfl,by decide+kernel,by decide+kernel⟩
theorem uf{f:Addr}{fd:FuncData}(F:Fun K "last_of_two" "Search.last_of_two" sLast f fd)(T:Txt K mg aS aL aG)(FC:SrC K CS CR CA CP CT):FnOk P w K mg base CX0 1 f fd ["self","right","some_costs","some_ways"] (spLast K CS CR CA CP CT):=by
 refine F.ok scLast (fun vs H Q E h=>?_) (fun cdv A outer s H vs Q E hr h=>?_)
 ·obtain⟨_,_,_,_,_,_,_,_,_,_,rfl,_⟩:=h
  rfl
 ·obtain⟨H0,L,S,s,p,r,sca,swa,sc,sw,rfl,rfl,rfl,rfl,hC,hS,hrn,hsc,hsw,ln1,ln2,l1,l2,l3,hin,hmul,k⟩:=h
  have nd:=scLast.nd
  refine⟨_,ab (aw (i:=4) nd rfl (Or.inr rfl) (aq au (ah (pv 0) rfl) (pv 1) (fun _ _=>rfl)))
   (ab (bW (i:=5) (own:=[("before",8),("cost",9)]) rfl nd rfl rfl (cu rfl rfl rfl rfl) (jf rfl T.zip (aa (ah (pv 4) rfl) (aa (ah (pv 4) rfl) ag))) (bf (by kernel_rfl))
    (fun _ _ _ _ _=>by exact dz (i:=8) (j:=9) K rfl rfl nd rfl rfl (Or.inl rfl) (Or.inl rfl) (.inr rfl) (.inr rfl)) (fun _ _ _ _ _=>by exact bG) (fun _ _ _ _ _=>by exact ao aF (aq (cE K rfl) (pv 2) (pv 8) (fun _ _=>rfl)) (pv 9)))
   (ab (aw (i:=6) nd rfl (Or.inr rfl) (oR rfl rfl T.min (pv 5) (ah (ah (pv 0) rfl) rfl)))
   (ab (bW (i:=7) (own:=[("at",10),("total",11)]) rfl nd rfl rfl (cu rfl rfl rfl rfl) (kQ rfl T.enum (aa (pv 5) ag)) (bf (by kernel_rfl))
    (fun _ _ _ _ _=>by exact dz (i:=10) (j:=11) K rfl rfl nd rfl rfl (Or.inl rfl) (Or.inl rfl) (.inr rfl) (.inr rfl)) (fun _ _ _ _ _=>by exact oP (aK dv (pv 11) (pv 6) (aX _)))
    (fun _ _ _ _ _=>by exact ao fT (aq (cE K rfl) (pv 3) (aq (cE K rfl) (kT K rfl (pv 4) rfl) (pv 10) (fun _ _=>rfl)) (fun _ _=>rfl)) (aq (cE K rfl) (kT K rfl (pv 4) rfl) (pv 10) (fun _ _=>rfl))))
   (ak (aC (b0 (aa (pv 6) (aa (bc (kZ rfl) rfl T.sum boot_sum (aa (pv 7) ag)) ag)))))))),?_⟩
  obtain⟨dxp,ta,po,pc,pm,bd,hp0,hT,hp2,hp3,hp4,hp5⟩:=(hC.prices.same hS.old).ex
  have hself:=hS.at_ .self trivial
  have harcs:H (L.ad .arcs)=some (.lst ((List.range L.n).map fun r=>.ref (L.ad (.arc r)))):=hS.at_ .arcs trivial
  have hAt:=hS.arcsAt hrn
  obtain⟨dxa,hao⟩:=hAt.ob
  refine⟨_,rfl,_,L.CS,_,_,_,rfl,hself,FC.S.cl,FC.S.no 4 _ rfl,rfl,_,rfl,_,_,_,_,rfl,rfl,SqL.of harcs,hS.arcs_at rfl hrn,?_⟩
  refine⟨_,rfl,_,L.CA,_,_,_,rfl,hao,FC.A.cl,FC.A.no 0 _ rfl,rfl,_,rfl,_,L.CA,_,_,_,rfl,hao,FC.A.cl,FC.A.no 1 _ rfl,rfl,_,_,_,_,rfl,SqL.of hAt.pl,SqL.of hAt.cs,fun D1 hD1=>?_⟩
  refine eZ (fun x y=>Fs.g sc x.toNat+y) hD1 (SqL.of hAt.pl) (SqL.of hAt.cs) l3 (fun _ _=>rfl) (fun i x y H' Q' hx hy sm q=>?_) (fun H1 s1 d1=>?_)
  ·have hz:=hin x (List.mem_of_getElem? hx)
   exact⟨_,rfl,_,rfl,sca,_,_,_,rfl,rfl,sm.seq hsc,bq (i:=x.toNat) (by omega) (by omega),_,rfl,_,_,rfl,rfl,q⟩
  refine⟨_,rfl,_,rfl,_,L.CS,_,_,_,rfl,s1 _ _ hself,FC.S.cl,FC.S.no 2 _ rfl,rfl,_,CP,_,_,_,rfl,s1 _ _ hp0,FC.P.cl,FC.P.no 1 _ rfl,rfl,D1,_,p.far,rfl,rfl,SqL.of d1,?_⟩
  rw [ke]
  unfold Fs.bj at k
  simp only at k
  have htl:((S.arc r).pl.zip (S.arc r).cs |>.map fun x=>Fs.g sc x.1.toNat+x.2).length=(S.arc r).pl.length:=by rw [List.length_map,List.length_zip];omega
  generalize (((S.arc r).pl.zip (S.arc r).cs).map fun x=>Fs.g sc x.1.toNat+x.2)=tot at d1 k htl ⊢
  generalize Fs.minD p.far tot=low at k ⊢
  have hao1:=s1 _ _ hao
  refine⟨_,rfl,D1,_,rfl,SqL.of d1,fun D2 hD2=>?_⟩
  refine uw (K:=K) (a:=D1) (xs:=vi tot) (LcP H1 D2 fun i=>vi ((((tot.zip ((S.arc r).pl.zip (S.arc r).ws)).take i).filter fun x=>decide (x.1=low)).map fun x=>Fs.g sw x.2.1.toNat*x.2.2)) (LcP.zero hD2 rfl) (fun i H' _ z=>SqL.of (z.1 _ _ d1)) ?_ ?_
  ·rintro i x TT H' hx ⟨sm,hx'⟩ hTT
   obtain⟨x,hx2,rfl⟩:=cg hx
   dsimp only at hx'
   have sm2:Same H1 (upd H' TT (.tup [.int (i:Nat),.int x])):=sm.trans (aj hTT)
   have hD3:=aZ (o:=.tup [.int (i:Nat),.int x]) hx' hTT
   have hil:i<tot.length:=(List.getElem?_eq_some_iff.mp hx2).1
   have hi1:i<(S.arc r).pl.length:=by omega
   have hz1:(S.arc r).pl[i]?=some (Fs.g (S.arc r).pl i):=by
    rw [List.getElem?_eq_getElem hi1];simp [Fs.g,List.getD_eq_getElem?_getD,List.getElem?_eq_getElem hi1]
   have hi2:i<(S.arc r).ws.length:=by omega
   have hz2:(S.arc r).ws[i]?=some (Fs.g (S.arc r).ws i):=by
    rw [List.getElem?_eq_getElem hi2];simp [Fs.g,List.getD_eq_getElem?_getD,List.getElem?_eq_getElem hi2]
   have hz:(tot.zip ((S.arc r).pl.zip (S.arc r).ws))[i]?=some (x,Fs.g (S.arc r).pl i,Fs.g (S.arc r).ws i):=by
    rw [List.getElem?_zip_eq_some]
    exact⟨hx2,by rw [List.getElem?_zip_eq_some];exact⟨hz1,hz2⟩⟩
   refine⟨TT,_,rfl,SqT.of ae,rfl,_,_,rfl,_,_,rfl,rfl,rfl,_,rfl,_,rfl,rfl,_,rfl,?_⟩
   refine ite2 (fun c=>?_) (fun c=>?_)
   ·have c:x=low:=by
     have:=of_decide_eq_true c
     injection this
    have hb:=hin _ (List.mem_of_getElem? hz1)
    refine⟨_,rfl,_,rfl,_,L.CA,_,_,_,rfl,sm2 _ _ hao1,FC.A.cl,FC.A.no 0 _ rfl,rfl,_,rfl,_,_,_,_,rfl,rfl,SqL.of (sm2 _ _ (s1 _ _ hAt.pl)),bC hi1,swa,_,_,_,rfl,rfl,(s1.trans sm2).seq hsw,bq (i:=(Fs.g (S.arc r).pl i).toNat) (by omega) (by omega),
     _,rfl,_,L.CA,_,_,_,rfl,sm2 _ _ hao1,FC.A.cl,FC.A.no 2 _ rfl,rfl,_,rfl,_,_,_,_,rfl,rfl,SqL.of (sm2 _ _ (s1 _ _ hAt.ws)),bC hi2,_,_,rfl,rfl,hmul i _ hz1,LcP.put hD2 sm2 hD3 ?_ ?_⟩
    ·refine small1000 ?_
     rw [az,List.length_map]
     refine Nat.le_trans (List.length_filter_le _ _) ?_
     rw [List.length_take,List.length_zip];omega
    ·show vi _=_
     rw [take_snoc hz,List.filter_append,List.map_append,bu,List.filter_cons,if_pos (by simpa using c)]
     rfl
   ·have c:¬x=low:=fun z=>c (decide_eq_true (by rw [z]))
    refine LcP.skip sm2 hD3 ?_
    show vi _=_
    rw [take_snoc hz,List.filter_append,List.map_append,bu,List.filter_cons,if_neg (by simpa using c)]
    simp
  ·rintro H2 ⟨s2,d2⟩
   dsimp only at d2
   rw [List.take_of_length_le (by rw [List.length_zip,az];omega)] at d2
   refine⟨_,rfl,_,rfl,D2,_,rfl,SqL.of d2,(by show 2<=sizeLine;decide),fun q hq=>?_⟩
   exact k _ q ((s1.trans s2).trans (aj hq)) ae
abbrev sFillM:Stmt:=inClass (top 15) 7
def manySt(s:List Int)(p:Fs.Prc)(S:Fs.Sr)(l i:Nat):Fs.Mst:=Fs.iter (Fs.manyTurn p S l) (l+4) i ⟨(p.far,0),(p.far,0),List.replicate s.length p.far,List.replicate s.length 0,S.row l⟩
def ManyMul(s:List Int)(p:Fs.Prc)(S:Fs.Sr)(l:Nat):Prop:=∀i,l+4+i<s.length->∀(j:Nat) (z:Int),(S.arc (l+4+i)).pl[j]?=some z->IntMulOk (Fs.g (manySt s p S l i).sw z.toNat) (Fs.g (S.arc (l+4+i)).ws j)
inductive jU(K:PySem.W.Frag)(CS CR CA CP CT:Addr)(vs:List V)(H:Hp)(Q:VK):Prop
 |mk:∀(H0:Hp) (L:Lay) (S:Fs.Sr) (s:List Int) (p:Fs.Prc) (l:Nat),(vs=[.ref (L.ad .self),.ref (L.ad (.row l))])->(L.CS=CS)->(L.CR=CR)->(L.CA=CA)->(Ctx K CP CT H0 L s p)->(SrAt H0 H L S)->(Dom L.n l S)->(l<L.n)->(ManyMul s p S l)->(∀H':Hp,SrAt H0 H' L (Fs.fillMany s p l S)->Kept L H H'->Q .non H')->jU K CS CR CA CP CT vs H Q
def spFillM(K:PySem.W.Frag)(CS CR CA CP CT:Addr):Sp:=fun vs H Q _=>jU K CS CR CA CP CT vs H Q
theorem scFillM:aB ["self","row","far","letter","pair","after","some_costs","some_ways","begun","two","right","last","one","some"] ["self","row"] (ax sFillM):=⟨rfl,rfl,rfl,by decide+kernel,rfl,by decide+kernel,by decide+kernel⟩
structure MsI(n:Nat)(st:Fs.Mst):Prop where
 row:Fs.RowLen n st.row
 c:st.sc.length=n
 w:st.sw.length=n
theorem qi{n l r:Nat}{p:Fs.Prc}{S:Fs.Sr}{st:Fs.Mst}(h:MsI n st):MsI n (Fs.manyTurn p S l r st):=by
 unfold Fs.manyTurn
 simp only
 exact⟨⟨h.row.pc,h.row.pw,by simp [h.row.oc],by simp [h.row.ow],by simp [h.row.tc],by simp [h.row.tw]⟩,by simp [h.c],by simp [h.w]⟩
theorem qx{f:Addr}{fd:FuncData}(F:Fun K "fill_many" "Search.fill_many" sFillM f fd)(T:Txt K mg aS aL aG)(FC:SrC K CS CR CA CP CT)(FM:Fn P w K mg base 1 "merged" ["cost","ways","other_cost","other_ways"] spMerged)
  (FL:Mt P w K mg base 1 CS "last_of_two" ["self","right","some_costs","some_ways"] (spLast K CS CR CA CP CT)):FnOk P w K mg base CX0 2 f fd ["self","row"] (spFillM K CS CR CA CP CT):=by
 refine F.ok scFillM (fun vs H Q E h=>?_) (fun cdv A outer s H vs Q E hr h=>?_)
 ·obtain⟨_,_,_,_,_,_,rfl,_⟩:=h
  rfl
 ·obtain⟨H0,L,S,s,p,l,rfl,rfl,rfl,rfl,hC,hS,hD,hl,hM,k⟩:=h
  have nd:=scFillM.nd
  refine⟨_,ab (aw (i:=2) nd rfl (Or.inl rfl) (ah (ah (pv 0) rfl) rfl)) (ab (aw (i:=3) nd rfl (Or.inl rfl) (ah (ah (ah (pv 0) rfl) rfl) rfl)) (ab (aw (i:=4) nd rfl (Or.inl rfl) (ah (ah (ah (pv 0) rfl) rfl) rfl))
   (ab (aw (i:=5) nd rfl (Or.inl rfl) (aq au (ah (pv 0) rfl) (ao aF (ah (pv 1) rfl) af) (fun _ _=>rfl)))
   (ab (aw (i:=6) nd rfl (Or.inl rfl) (ao bT (aP (aa (pv 2) ag)) (ah (pv 0) rfl))) (ab (aw (i:=7) nd rfl (Or.inl rfl) (ao bT (aP (aa af ag)) (ah (pv 0) rfl)))
   (ab (aw (i:=8) nd rfl (Or.inl rfl) (b0 (aa (pv 2) (aa af ag)))) (ab (aw (i:=9) nd rfl (Or.inl rfl) (b0 (aa (pv 2) (aa af ag))))
   (ak (de PassesOwn.never rfl (dt rfl T.range (aa (ao aF (ah (pv 1) rfl) (bh T.nearest)) (aa (ah (pv 0) rfl) ag))) (bb (i:=10) nd rfl (Or.inl rfl))
    (ab (aw (i:=11) nd rfl (Or.inl rfl) (eh FL hr (pv 0) (aa (pv 10) (aa (pv 6) (aa (pv 7) ag)))))
    (ab (aw (i:=9) nd rfl (Or.inl rfl) (aW FM hr (aa (ao aF (aq aJ (pv 9) af (fun _ _=>rfl)) (pv 3)) (aa (aq aJ (pv 9) af (fun _ _=>rfl)) (aa (ao aF (aq aJ (pv 11) af (fun _ _=>rfl)) (pv 4)) (aa (aq aJ (pv 11) af (fun _ _=>rfl)) ag))))))
    (ab (aw (i:=8) nd rfl (Or.inl rfl) (aW FM hr (aa (ao aF (aq aJ (pv 8) af (fun _ _=>rfl)) (pv 3)) (aa (aq aJ (pv 8) af (fun _ _=>rfl)) (aa (ao aF (aq au (ah (pv 1) rfl) (pv 10) (fun _ _=>rfl)) (pv 4)) (aa (aq au (ah (pv 1) rfl) (pv 10) (fun _ _=>rfl)) ag))))))
    (ab (aw (i:=12) nd rfl (Or.inl rfl) (aW FM hr (aa (aq aJ (pv 8) af (fun _ _=>rfl)) (aa (aq aJ (pv 8) af (fun _ _=>rfl)) (aa (ao aF (aq au (ah (pv 5) rfl) (pv 10) (fun _ _=>rfl)) (pv 3)) (aa (aq au (ah (pv 5) rfl) (pv 10) (fun _ _=>rfl)) ag))))))
    (ab (aw (i:=13) nd rfl (Or.inl rfl) (aW FM hr (aa (aq aJ (pv 12) af (fun _ _=>rfl)) (aa (aq aJ (pv 12) af (fun _ _=>rfl)) (aa (aq aJ (pv 9) af (fun _ _=>rfl)) (aa (aq aJ (pv 9) af (fun _ _=>rfl)) ag))))))
    (ab (bY (aq aJ (pv 9) af (fun _ _=>rfl)) (bZ (ah (pv 1) rfl) (pv 10) set_list)) (ab (bY (aq aJ (pv 9) af (fun _ _=>rfl)) (bZ (ah (pv 1) rfl) (pv 10) set_list))
    (ab (bY (aq aJ (pv 12) af (fun _ _=>rfl)) (bZ (ah (pv 1) rfl) (pv 10) set_list)) (ab (bY (aq aJ (pv 12) af (fun _ _=>rfl)) (bZ (ah (pv 1) rfl) (pv 10) set_list))
    (ab (bY (aq aJ (pv 13) af (fun _ _=>rfl)) (bZ (pv 6) (pv 10) set_list)) (ak (bY (aq aJ (pv 13) af (fun _ _=>rfl)) (bZ (pv 7) (pv 10) set_list)))))))))))))))))))))),?_⟩
  obtain⟨dxp,ta,po,pc,pm,bd,hp0,hT,hp2,hp3,hp4,hp5⟩:=(hC.prices.same hS.old).ex
  obtain⟨dxt,t1,t2,t3,t4,ht0,ht1,ht2,ht3,ht4⟩:=hT.ex
  have hn:=hC.n
  have h100:=hC.n100
  have hself:=hS.at_ .self trivial
  have hrows:H (L.ad .rows)=some (.lst ((List.range (L.n+2)).map fun l=>.ref (L.ad (.row l)))):=hS.at_ .rows trivial
  have hl2:l<L.n+2:=by omega
  have hl1:l+1<L.n+2:=by omega
  have hl3:l<S.rows.length:=by rw [hD.nrows];omega
  have hrow:=hS.at_ (.row l) hl2
  have rl1:=hD.len (l+1) hl1
  refine⟨_,rfl,_,L.CS,_,_,_,rfl,hself,FC.S.cl,FC.S.no 2 _ rfl,rfl,_,CP,_,_,_,rfl,hp0,FC.P.cl,FC.P.no 1 _ rfl,rfl,?_⟩
  refine⟨_,rfl,_,L.CS,_,_,_,rfl,hself,FC.S.cl,FC.S.no 2 _ rfl,rfl,_,CP,_,_,_,rfl,hp0,FC.P.cl,FC.P.no 0 _ rfl,rfl,_,CT,_,_,_,rfl,ht0,FC.T.cl,FC.T.no 6 _ rfl,rfl,?_⟩
  refine⟨_,rfl,_,L.CS,_,_,_,rfl,hself,FC.S.cl,FC.S.no 2 _ rfl,rfl,_,CP,_,_,_,rfl,hp0,FC.P.cl,FC.P.no 0 _ rfl,rfl,_,CT,_,_,_,rfl,ht0,FC.T.cl,FC.T.no 5 _ rfl,rfl,?_⟩
  refine⟨_,rfl,_,L.CS,_,_,_,rfl,hself,FC.S.cl,FC.S.no 3 _ rfl,rfl,_,rfl,_,L.CR,_,_,_,rfl,hrow,FC.R.cl,FC.R.no 0 _ rfl,rfl,_,_,rfl,rfl,_,_,_,_,rfl,rfl,SqL.of hrows,hS.rows_at (l:=l+1) (by omega) hl1,?_⟩
  dsimp only
  refine dC (ir (x:=p.far) (n:=L.n) (fun Q' q=>⟨_,rfl,q⟩) (fun H' Q' sm q=>⟨_,rfl,_,L.CS,_,_,_,rfl,sm _ _ hself,FC.S.cl,FC.S.no 1 _ rfl,rfl,q⟩) (by omega) (fun H1 sca s1 fsc dsc=>?_))
  dsimp only [gName]
  refine dC (ir (x:=0) (n:=L.n) (fun Q' q=>q) (fun H' Q' sm q=>⟨_,rfl,_,L.CS,_,_,_,rfl,sm _ _ (s1 _ _ hself),FC.S.cl,FC.S.no 1 _ rfl,rfl,q⟩) (by omega) (fun H2 swa s2 fsw dsw=>?_))
  have nsw:sca≠swa:=fun e=>by rw [e,fsw] at dsc;cases dsc
  have dsc2:=s2 _ _ dsc
  refine⟨_,rfl,(by show 2<=sizeLine;decide),fun ba hba=>?_⟩
  refine⟨_,rfl,(by show 2<=sizeLine;decide),fun tw htw=>?_⟩
  have s3:=aj (o:=.tup [.int p.far,.int 0]) hba
  have s4:=aj (o:=.tup [.int p.far,.int 0]) htw
  have dba:(upd (upd H2 ba (.tup [.int p.far,.int 0])) tw (.tup [.int p.far,.int 0])) ba=some (.tup [.int p.far,.int 0]):=aZ ae htw
  have dtw:(upd (upd H2 ba (.tup [.int p.far,.int 0])) tw (.tup [.int p.far,.int 0])) tw=some (.tup [.int p.far,.int 0]):=ae
  have s24:=s3.trans s4
  dsimp only [gName]
  generalize upd (upd H2 ba (.tup [.int p.far,.int 0])) tw (.tup [.int p.far,.int 0])=H3 at s24 dba dtw ⊢
  have s03:Same H H3:=(s1.trans s2).trans s24
  have hS3:=hS.same s03
  have frq:∀{q:Addr},H q=none->∀t:Tg,t.ok L.n->q≠L.ad t:=fun {q} hq t ht e=>by
   have:=hS.at_ t ht
   rw [<-e,hq] at this;cases this
  have fc:=frq fsc
  have fw:=frq (s1.free fsw)
  have gsw:H swa=none:=s1.free fsw
  refine⟨_,rfl,_,L.CR,_,_,_,rfl,hS3.at_ (.row l) hl2,FC.R.cl,FC.R.no 0 _ rfl,rfl,_,_,rfl,rfl,_,rfl,_,L.CS,_,_,_,rfl,hS3.at_ .self trivial,FC.S.cl,FC.S.no 1 _ rfl,rfl,_,_,rfl,by omega,?_⟩
  rw [show ((L.n:Int)-((l:Int)+4)).toNat=s.length-(l+4) by omega]
  have hI:∀i,MsI L.n (manySt s p S l i):=fun i=>by
   induction i with
   |zero=>
    refine⟨hD.len l hl2,?_,?_⟩
    ·show (List.replicate s.length p.far).length=_;simp [hn]
    ·show (List.replicate s.length (0:Int)).length=_;simp [hn]
   |succ i ih=>exact qi ih
  have hPc:∀i,(manySt s p S l i).row.pc=(S.row l).pc/\(manySt s p S l i).row.pw=(S.row l).pw:=fun i=>by
   induction i with
   |zero=>exact⟨rfl,rfl⟩
   |succ i ih=>exact ih
  refine dh (lo:=(l:Int)+4) (n:=s.length-(l+4)) (fun i σ H'=>∃(ba tw:Addr) (v10 v11 v12 v13:Option V),σ=[some (.ref (L.ad .self)),some (.ref (L.ad (.row l))),some (.int p.far),some (.int p.tab.letter),some (.int p.tab.pair),some (.ref (L.ad (.row (l+1)))),some (.ref sca),some (.ref swa),some (.ref ba),some (.ref tw),v10,v11,v12,v13]/\
   SrAt H0 H' L (Rw S l (manySt s p S l i).row)/\H' sca=some (.lst (vi (manySt s p S l i).sc))/\H' swa=some (.lst (vi (manySt s p S l i).sw))/\Tup2 H' ba (manySt s p S l i).begun/\Tup2 H' tw (manySt s p S l i).two/\Kept L H H')
   ⟨ba,tw,none,none,none,none,rfl,?_,?_,?_,dba,dtw,Kept.of_same s03⟩ ?_ ?_
  ·rw [show (manySt s p S l 0).row=S.row l from rfl,Rw.self hl3];exact hS3
  ·rw [s24 _ _ dsc2,hn];rfl
  ·rw [s24 _ _ dsw,hn];rfl
  ·rintro i σ H' hi ⟨ba,tw,v10,v11,v12,v13,rfl,hS',hsc,hsw,hba,htw,kp⟩
   have er:(l:Int)+4+(i:Int)=((l+4+i:Nat):Int):=by omega
   have hMi:=hM i (by omega)
   have hIi:=hI i
   have hPi:=hPc i
   have hst:manySt s p S l (i+1)=Fs.manyTurn p S l (l+4+i) (manySt s p S l i):=rfl
   generalize hri:l+4+i=r at er hMi hst
   generalize manySt s p S l i=st at hS' hsc hsw hba htw hMi hIi hPi hst
   have hrn:r<L.n:=by omega
   rw [er]
   unfold Fs.manyTurn at hst
   simp only at hst
   refine⟨_,rfl,_,_,_,rfl,hS'.at_ .self trivial,rfl,_,rfl,_,rfl,_,rfl,?_⟩
   refine⟨H0,L,Rw S l st.row,s,p,r,sca,swa,st.sc,st.sw,rfl,rfl,rfl,rfl,hC,hS',hrn,SqL.of hsc,SqL.of hsw,hIi.c,hIi.w,hD.ac1 _ hrn,hD.ac2 _ hrn,?_,?_,fun j z hz=>hMi j z hz,fun H4 la s4 d4=>?_⟩
   ·rw [Rw.arc];have:=hD.ac3 r hrn;omega
   ·rw [Rw.arc];intro z hz;have:=hD.ac4 r hrn z hz;omega
   have d4:Tup2 H4 la (Fs.bj p S r st.sc st.sw):=d4
   refine⟨_,rfl,_,_,_,_,rfl,rfl,(Tup2.sq (s4 _ _ htw:Tup2 H4 tw st.two)),rfl,_,rfl,_,_,rfl,rfl,_,rfl,_,_,_,_,rfl,rfl,(Tup2.sq (s4 _ _ htw:Tup2 H4 tw st.two)),rfl,_,rfl,_,_,_,_,rfl,rfl,d4.sq,rfl,_,rfl,_,_,rfl,rfl,_,rfl,_,_,_,_,rfl,rfl,d4.sq,rfl,?_⟩
   refine⟨(st.two.1+p.tab.letter,st.two.2),((Fs.bj p S r st.sc st.sw).1+p.tab.pair,(Fs.bj p S r st.sc st.sw).2),rfl,fun H5 tw2 s5 d5=>?_⟩
   generalize Fs.mg (st.two.1+p.tab.letter,st.two.2) ((Fs.bj p S r st.sc st.sw).1+p.tab.pair,(Fs.bj p S r st.sc st.sw).2)=two at d5 hst
   have s45:=s4.trans s5
   have hS5:=hS'.same s45
   have hrow5:=hS5.at_ (.row l) hl2
   have hpc5:H5 (L.ad (.pc l))=some (.lst (vi st.row.pc)):=by
    rw [hS5.at_ (.pc l) hl2];show some (HO.lst (vi ((Rw S l st.row).row l).pc))=_;rw [Rw.row hl3,if_pos rfl]
   have hpw5:H5 (L.ad (.pw l))=some (.lst (vi st.row.pw)):=by
    rw [hS5.at_ (.pw l) hl2];show some (HO.lst (vi ((Rw S l st.row).row l).pw))=_;rw [Rw.row hl3,if_pos rfl]
   have hb5:Tup2 H5 ba st.begun:=s45 _ _ hba
   refine⟨_,rfl,_,_,_,_,rfl,rfl,hb5.sq,rfl,_,rfl,_,_,rfl,rfl,_,rfl,_,_,_,_,rfl,rfl,hb5.sq,rfl,_,rfl,_,L.CR,_,_,_,rfl,hrow5,FC.R.cl,FC.R.no 1 _ rfl,rfl,_,rfl,_,_,_,_,rfl,rfl,SqL.of hpc5,bC (by rw [hIi.row.pc];exact hrn),_,rfl,_,_,rfl,rfl,
    _,rfl,_,L.CR,_,_,_,rfl,hrow5,FC.R.cl,FC.R.no 2 _ rfl,rfl,_,rfl,_,_,_,_,rfl,rfl,SqL.of hpw5,bC (by rw [hIi.row.pw];exact hrn),?_⟩
   refine⟨(st.begun.1+p.tab.letter,st.begun.2),(Fs.g st.row.pc r+p.tab.pair,Fs.g st.row.pw r),rfl,fun H6 ba2 s6 d6=>?_⟩
   generalize Fs.mg (st.begun.1+p.tab.letter,st.begun.2) (Fs.g st.row.pc r+p.tab.pair,Fs.g st.row.pw r)=begun at d6 hst
   have hS6:=hS5.same s6
   have hrow6:=hS6.at_ (.row (l+1)) hl1
   have hoc6:H6 (L.ad (.oc (l+1)))=some (.lst (vi (S.row (l+1)).oc)):=by
    rw [hS6.at_ (.oc (l+1)) hl1];show some (HO.lst (vi ((Rw S l st.row).row (l+1)).oc))=_;rw [Rw.row hl3,if_neg (by omega)]
   have how6:H6 (L.ad (.ow (l+1)))=some (.lst (vi (S.row (l+1)).ow)):=by
    rw [hS6.at_ (.ow (l+1)) hl1];show some (HO.lst (vi ((Rw S l st.row).row (l+1)).ow))=_;rw [Rw.row hl3,if_neg (by omega)]
   refine⟨_,rfl,_,_,_,_,rfl,rfl,d6.sq,rfl,_,rfl,_,_,_,_,rfl,rfl,d6.sq,rfl,_,rfl,_,L.CR,_,_,_,rfl,hrow6,FC.R.cl,FC.R.no 3 _ rfl,rfl,_,rfl,_,_,_,_,rfl,rfl,SqL.of hoc6,bC (by rw [rl1.oc];exact hrn),_,rfl,_,_,rfl,rfl,
    _,rfl,_,L.CR,_,_,_,rfl,hrow6,FC.R.cl,FC.R.no 4 _ rfl,rfl,_,rfl,_,_,_,_,rfl,rfl,SqL.of how6,bC (by rw [rl1.ow];exact hrn),?_⟩
   refine⟨begun,(Fs.g (S.row (l+1)).oc r+p.tab.letter,Fs.g (S.row (l+1)).ow r),rfl,fun H7 oa s7 d7=>?_⟩
   generalize Fs.mg begun (Fs.g (S.row (l+1)).oc r+p.tab.letter,Fs.g (S.row (l+1)).ow r)=one at d7 hst
   have d57:Tup2 H7 tw2 two:=s7 _ _ (s6 _ _ d5)
   refine⟨_,rfl,_,_,_,_,rfl,rfl,d7.sq,rfl,_,rfl,_,_,_,_,rfl,rfl,d7.sq,rfl,_,rfl,_,_,_,_,rfl,rfl,d57.sq,rfl,_,rfl,_,_,_,_,rfl,rfl,d57.sq,rfl,?_⟩
   refine⟨one,two,rfl,fun H8 ma s8 d8=>?_⟩
   generalize Fs.mg one two=some' at d8 hst
   have hS8:=(hS6.same s7).same s8
   have s48:Same H' H8:=((s45.trans s6).trans s7).trans s8
   have d58:Tup2 H8 tw2 two:=s8 _ _ d57
   have d78:Tup2 H8 oa one:=s8 _ _ d7
   have d68:Tup2 H8 ba2 begun:=s8 _ _ (s7 _ _ d6)
   have kp8:Kept L H H8:=kp.trans (Kept.of_same s48)
   have sc8:=s48 _ _ hsc
   have sw8:=s48 _ _ hsw
   have tl:∀{a q:Addr} {Hh:Hp} {v:Int × Int} {xs:List V},Tup2 Hh a v->Hh q=some (.lst xs)->a≠q:=fun h1 h2 e=>by
    have h1':_=some _:=h1
    rw [e,h2] at h1';cases h1'
   have get1:∀{Hh:Hp} {R:Fs.Row},SrAt H0 Hh L (Rw S l R)->Hh (L.ad (.tc l))=some (.lst (vi R.tc))/\Hh (L.ad (.tw l))=some (.lst (vi R.tw))/\Hh (L.ad (.oc l))=some (.lst (vi R.oc))/\Hh (L.ad (.ow l))=some (.lst (vi R.ow)):=fun {Hh R} h=>by
    refine⟨?_,?_,?_,?_⟩
    ·rw [h.at_ (.tc l) hl2];show some (HO.lst (vi ((Rw S l R).row l).tc))=_;rw [Rw.row hl3,if_pos rfl]
    ·rw [h.at_ (.tw l) hl2];show some (HO.lst (vi ((Rw S l R).row l).tw))=_;rw [Rw.row hl3,if_pos rfl]
    ·rw [h.at_ (.oc l) hl2];show some (HO.lst (vi ((Rw S l R).row l).oc))=_;rw [Rw.row hl3,if_pos rfl]
    ·rw [h.at_ (.ow l) hl2];show some (HO.lst (vi ((Rw S l R).row l).ow))=_;rw [Rw.row hl3,if_pos rfl]
   have upk:∀{Hh:Hp} {t:Tg} {o:HO} {xs:List V},t.ok L.n->Hh (L.ad t)=some (.lst xs)->∀{a:Addr} {v:Int × Int},Tup2 Hh a v->Tup2 (upd Hh (L.ad t) o) a v:=fun {Hh t o xs} _ h0 {a v} h1=>ai h1 (tl h1 h0)
   obtain⟨e1,_,_,_⟩:=get1 hS8
   refine⟨_,rfl,_,_,_,_,rfl,rfl,d58.sq,rfl,_,rfl,_,L.CR,_,_,_,rfl,hS8.at_ (.row l) hl2,FC.R.cl,FC.R.no 5 _ rfl,rfl,_,rfl,_,_,_,r,rfl,rfl,e1,bR (by rw [az,hIi.row.tc];exact hrn),?_⟩
   rw [bU]
   have hS9:=hS8.row_tc (x:=st.row.tc.set r two.1) hl3 hl2
   have kp9:=kp8.trans (Kept.upd (H:=H8) (t:=.tc l) (o:=.lst (vi (st.row.tc.set r two.1))) hl2)
   have sc9:=ai (o:=.lst (vi (st.row.tc.set r two.1))) sc8 (fc (.tc l) hl2)
   have sw9:=ai (o:=.lst (vi (st.row.tc.set r two.1))) sw8 (fw (.tc l) hl2)
   have d59:=upk (t:=.tc l) (o:=.lst (vi (st.row.tc.set r two.1))) hl2 e1 d58
   have d79:=upk (t:=.tc l) (o:=.lst (vi (st.row.tc.set r two.1))) hl2 e1 d78
   have d69:=upk (t:=.tc l) (o:=.lst (vi (st.row.tc.set r two.1))) hl2 e1 d68
   have d89:=upk (t:=.tc l) (o:=.lst (vi (st.row.tc.set r two.1))) hl2 e1 d8
   dsimp only
   generalize upd H8 (L.ad (.tc l)) (.lst (vi (st.row.tc.set r two.1)))=H9 at hS9 kp9 sc9 sw9 d59 d79 d69 d89 ⊢
   obtain⟨_,e2,_,_⟩:=get1 hS9
   refine⟨_,rfl,_,_,_,_,rfl,rfl,d59.sq,rfl,_,rfl,_,L.CR,_,_,_,rfl,hS9.at_ (.row l) hl2,FC.R.cl,FC.R.no 6 _ rfl,rfl,_,rfl,_,_,_,r,rfl,rfl,e2,bR (by rw [az,hIi.row.tw];exact hrn),?_⟩
   rw [bU]
   have hSa:=hS9.row_tw (x:=st.row.tw.set r two.2) hl3 hl2
   have kpa:=kp9.trans (Kept.upd (H:=H9) (t:=.tw l) (o:=.lst (vi (st.row.tw.set r two.2))) hl2)
   have sca':=ai (o:=.lst (vi (st.row.tw.set r two.2))) sc9 (fc (.tw l) hl2)
   have swa':=ai (o:=.lst (vi (st.row.tw.set r two.2))) sw9 (fw (.tw l) hl2)
   have d5a:=upk (t:=.tw l) (o:=.lst (vi (st.row.tw.set r two.2))) hl2 e2 d59
   have d7a:=upk (t:=.tw l) (o:=.lst (vi (st.row.tw.set r two.2))) hl2 e2 d79
   have d6a:=upk (t:=.tw l) (o:=.lst (vi (st.row.tw.set r two.2))) hl2 e2 d69
   have d8a:=upk (t:=.tw l) (o:=.lst (vi (st.row.tw.set r two.2))) hl2 e2 d89
   dsimp only
   generalize upd H9 (L.ad (.tw l)) (.lst (vi (st.row.tw.set r two.2)))=Ha at hSa kpa sca' swa' d5a d7a d6a d8a ⊢
   obtain⟨_,_,e3,_⟩:=get1 hSa
   refine⟨_,rfl,_,_,_,_,rfl,rfl,d7a.sq,rfl,_,rfl,_,L.CR,_,_,_,rfl,hSa.at_ (.row l) hl2,FC.R.cl,FC.R.no 3 _ rfl,rfl,_,rfl,_,_,_,r,rfl,rfl,e3,bR (by rw [az,hIi.row.oc];exact hrn),?_⟩
   rw [bU]
   have hSb:=hSa.row_oc (x:=st.row.oc.set r one.1) hl3 hl2
   have kpb:=kpa.trans (Kept.upd (H:=Ha) (t:=.oc l) (o:=.lst (vi (st.row.oc.set r one.1))) hl2)
   have scb:=ai (o:=.lst (vi (st.row.oc.set r one.1))) sca' (fc (.oc l) hl2)
   have swb:=ai (o:=.lst (vi (st.row.oc.set r one.1))) swa' (fw (.oc l) hl2)
   have d5b:=upk (t:=.oc l) (o:=.lst (vi (st.row.oc.set r one.1))) hl2 e3 d5a
   have d7b:=upk (t:=.oc l) (o:=.lst (vi (st.row.oc.set r one.1))) hl2 e3 d7a
   have d6b:=upk (t:=.oc l) (o:=.lst (vi (st.row.oc.set r one.1))) hl2 e3 d6a
   have d8b:=upk (t:=.oc l) (o:=.lst (vi (st.row.oc.set r one.1))) hl2 e3 d8a
   dsimp only
   generalize upd Ha (L.ad (.oc l)) (.lst (vi (st.row.oc.set r one.1)))=Hb at hSb kpb scb swb d5b d7b d6b d8b ⊢
   obtain⟨_,_,_,e4⟩:=get1 hSb
   refine⟨_,rfl,_,_,_,_,rfl,rfl,d7b.sq,rfl,_,rfl,_,L.CR,_,_,_,rfl,hSb.at_ (.row l) hl2,FC.R.cl,FC.R.no 4 _ rfl,rfl,_,rfl,_,_,_,r,rfl,rfl,e4,bR (by rw [az,hIi.row.ow];exact hrn),?_⟩
   rw [bU]
   have hSc:=hSb.row_ow (x:=st.row.ow.set r one.2) hl3 hl2
   have kpc:=kpb.trans (Kept.upd (H:=Hb) (t:=.ow l) (o:=.lst (vi (st.row.ow.set r one.2))) hl2)
   have scc:=ai (o:=.lst (vi (st.row.ow.set r one.2))) scb (fc (.ow l) hl2)
   have swc:=ai (o:=.lst (vi (st.row.ow.set r one.2))) swb (fw (.ow l) hl2)
   have d5c:=upk (t:=.ow l) (o:=.lst (vi (st.row.ow.set r one.2))) hl2 e4 d5b
   have d6c:=upk (t:=.ow l) (o:=.lst (vi (st.row.ow.set r one.2))) hl2 e4 d6b
   have d8c:=upk (t:=.ow l) (o:=.lst (vi (st.row.ow.set r one.2))) hl2 e4 d8b
   dsimp only
   generalize upd Hb (L.ad (.ow l)) (.lst (vi (st.row.ow.set r one.2)))=Hc at hSc kpc scc swc d5c d6c d8c ⊢
   refine⟨_,rfl,_,_,_,_,rfl,rfl,d8c.sq,rfl,_,rfl,_,rfl,_,_,_,r,rfl,rfl,scc,bR (by rw [az,hIi.c];exact hrn),?_⟩
   rw [bU]
   have d8d:Tup2 (upd Hc sca (.lst (vi (st.sc.set r some'.1)))) ma some':=ai d8c (tl d8c scc)
   refine⟨_,rfl,_,_,_,_,rfl,rfl,d8d.sq,rfl,_,rfl,_,rfl,_,_,_,r,rfl,rfl,ai swc (Ne.symm nsw),bR (by rw [az,hIi.w];exact hrn),?_⟩
   rw [bU]
   refine⟨ba2,tw2,_,_,_,_,rfl,?_,?_,?_,?_,?_,?_⟩
   ·rw [hst]
    refine⟨hSc.inj,fun t ht=>ai (ai (hSc.at_ t ht) (Ne.symm (fc t ht))) (Ne.symm (fw t ht)),hSc.new,fun b o e=>ai (ai (hSc.old b o e) (fun z=>?_)) (fun z=>?_)⟩
    ·have:=hS.old b o e;rw [z,fsc] at this;cases this
    ·have:=hS.old b o e;rw [z,gsw] at this;cases this
   ·rw [hst];exact ai ae nsw
   ·rw [hst];exact ae
   ·rw [hst];exact ai (ai d6c (tl d6c scc)) (tl d6c swc)
   ·rw [hst];exact ai (ai d5c (tl d5c scc)) (tl d5c swc)
   ·exact fun b o e hb=>ai (ai (kpc b o e hb) (fun z=>by rw [z,fsc] at e;cases e)) (fun z=>by rw [z,gsw] at e;cases e)
  ·rintro σ H' ⟨ba,tw,v10,v11,v12,v13,rfl,hS',hsc,hsw,hba,htw,kp⟩
   exact k H' hS' kp
end
end Pg
end
section
namespace Pg
open PySem PySem.Spec PyProof.Rows L2 L3
section
variable {P:Program}{w:World}{K:PySem.W.Frag}{mg:Str->Option Value}{base:Heap}{aS aL aG CS CR CA CP CT CW:Addr}
abbrev sFillR:Stmt:=inClass (top 15) 9
def RestMul(s:List Int)(S:Fs.Sr)(l:Nat):Prop:=∀i,l+4+i<s.length->IntMulOk (Fs.g (S.row l).pw (l+4+i)) (Fs.g S.rw (l+4+i+1))
inductive jO(CS CR CA:Addr)(vs:List V)(H:Hp)(Q:VK):Prop
 |mk:∀(H0:Hp) (L:Lay) (S:Fs.Sr) (s:List Int) (l:Nat),(vs=[.ref (L.ad .self),.ref (L.ad (.row l))])->(L.CS=CS)->(L.CR=CR)->(L.CA=CA)->(SrAt H0 H L S)->(L.n=s.length)->(s.length<=100)->(Dom L.n l S)->(l<L.n)->(RestMul s S l)->(∀H':Hp,SrAt H0 H' L (Fs.fillRest s l S)->Kept L H H'->Q .non H')->jO CS CR CA vs H Q
def spFillR(CS CR CA:Addr):Sp:=fun vs H Q _=>jO CS CR CA vs H Q
theorem scFillR:aB ["self","row","found","right"] ["self","row"] (ax sFillR):=⟨rfl,rfl,rfl,by decide+kernel,rfl,by decide+kernel,by decide+kernel⟩
theorem sP{f:Addr}{fd:FuncData}(F:Fun K "fill_rest" "Search.fill_rest" sFillR f fd)(T:Txt K mg aS aL aG)(FS:ClsF K CS srN)(FR:ClsF K CR rowN)(FM:Fn P w K mg base 1 "merged" ["cost","ways","other_cost","other_ways"] spMerged):
  FnOk P w K mg base CX0 2 f fd ["self","row"] (spFillR CS CR CA):=by
 refine F.ok scFillR (fun vs H Q E h=>?_) (fun cdv A outer s H vs Q E hr h=>?_)
 ·obtain⟨_,_,_,_,_,rfl,_⟩:=h
  rfl
 ·obtain⟨H0,L,S,s,l,rfl,rfl,rfl,rfl,hS,hn,h100,hD,hl,hM,k⟩:=h
  have nd:=scFillR.nd
  refine⟨_,ab (aw (i:=2) nd rfl (Or.inl rfl) (b0 (aa (aq au (ah (pv 0) rfl) (ao aF (ah (pv 1) rfl) af) (fun _ _=>rfl)) (aa (aq au (ah (pv 0) rfl) (ao aF (ah (pv 1) rfl) af) (fun _ _=>rfl)) ag))))
   (ab (de PassesOwn.never rfl (dt rfl T.range (aa (ao aF (ah (pv 1) rfl) (bh T.nearest)) (aa (ah (pv 0) rfl) ag))) (bb (i:=3) nd rfl (Or.inl rfl))
    (ak (aw (i:=2) nd rfl (Or.inl rfl) (aW FM hr (aa (aq aJ (pv 2) af (fun _ _=>rfl)) (aa (aq aJ (pv 2) af (fun _ _=>rfl))
     (aa (ao aF (aq au (ah (pv 1) rfl) (pv 3) (fun _ _=>rfl)) (aq au (ah (pv 0) rfl) (ao aF (pv 3) af) (fun _ _=>rfl)))
     (aa (ao fT (aq au (ah (pv 1) rfl) (pv 3) (fun _ _=>rfl)) (aq au (ah (pv 0) rfl) (ao aF (pv 3) af) (fun _ _=>rfl))) ag))))))))
   (ab (bY (aq aJ (pv 2) af (fun _ _=>rfl)) (bZ (ah (pv 0) rfl) (ah (pv 1) rfl) set_list))
   (ak (bY (aq aJ (pv 2) af (fun _ _=>rfl)) (bZ (ah (pv 0) rfl) (ah (pv 1) rfl) set_list))))),?_⟩
  have hself:=hS.at_ .self trivial
  have hl2:l<L.n+2:=by omega
  have hrow:=hS.at_ (.row l) hl2
  have rl:=hD.len l hl2
  have hrc:H (L.ad .rc)=some (.lst (vi S.rc)):=hS.at_ .rc trivial
  have hrw:H (L.ad .rw)=some (.lst (vi S.rw)):=hS.at_ .rw trivial
  have hpc:H (L.ad (.pc l))=some (.lst (vi (S.row l).pc)):=hS.at_ (.pc l) hl2
  have hpw:H (L.ad (.pw l))=some (.lst (vi (S.row l).pw)):=hS.at_ (.pw l) hl2
  have el:(l:Int)+1=((l+1:Nat):Int):=by omega
  refine⟨_,rfl,_,L.CS,_,_,_,rfl,hself,FS.cl,FS.no 5 _ rfl,rfl,_,rfl,_,L.CR,_,_,_,rfl,hrow,FR.cl,FR.no 0 _ rfl,rfl,_,_,rfl,rfl,_,_,_,_,rfl,rfl,SqL.of hrc,bq el (by rw [hD.nrc];omega),
   _,rfl,_,L.CS,_,_,_,rfl,hself,FS.cl,FS.no 6 _ rfl,rfl,_,rfl,_,L.CR,_,_,_,rfl,hrow,FR.cl,FR.no 0 _ rfl,rfl,_,_,rfl,rfl,_,_,_,_,rfl,rfl,SqL.of hrw,bq el (by rw [hD.nrw];omega),(by show 2<=sizeLine;decide),fun fa hfa=>?_⟩
  have s1:=aj (o:=.tup [.int (Fs.g S.rc (l+1)),.int (Fs.g S.rw (l+1))]) hfa
  have d1:Tup2 (upd H fa (.tup [.int (Fs.g S.rc (l+1)),.int (Fs.g S.rw (l+1))])) fa (Fs.g S.rc (l+1),Fs.g S.rw (l+1)):=ae
  dsimp only [gName]
  generalize upd H fa (.tup [.int (Fs.g S.rc (l+1)),.int (Fs.g S.rw (l+1))])=H1 at s1 d1 ⊢
  refine⟨_,rfl,_,L.CR,_,_,_,rfl,s1 _ _ hrow,FR.cl,FR.no 0 _ rfl,rfl,_,_,rfl,rfl,_,rfl,_,L.CS,_,_,_,rfl,s1 _ _ hself,FS.cl,FS.no 1 _ rfl,rfl,_,_,rfl,by omega,?_⟩
  rw [show ((L.n:Int)-((l:Int)+4)).toNat=s.length-(l+4) by omega]
  let Fi:Nat->Int × Int:=fun i=>Fs.iter (Fs.restTurn S l) (l+4) i (Fs.g S.rc (l+1),Fs.g S.rw (l+1))
  refine dh (lo:=(l:Int)+4) (n:=s.length-(l+4)) (fun i σ H'=>∃(fa:Addr) (v3:Option V),σ=[some (.ref (L.ad .self)),some (.ref (L.ad (.row l))),some (.ref fa),v3]/\Tup2 H' fa (Fi i)/\Same H H') ⟨fa,none,rfl,d1,s1⟩ ?_ ?_
  ·rintro i σ H' hi ⟨fa,v3,rfl,hf,sm⟩
   have er:(l:Int)+4+(i:Int)=((l+4+i:Nat):Int):=by omega
   have hMi:=hM i (by omega)
   have hst:Fi (i+1)=Fs.restTurn S l (l+4+i) (Fi i):=rfl
   generalize hri:l+4+i=r at er hMi hst
   generalize Fi i=fi at hf hst
   have hrn:r<L.n:=by omega
   have er1:(r:Int)+1=((r+1:Nat):Int):=by omega
   rw [er]
   unfold Fs.restTurn at hst
   simp only at hst
   refine⟨_,rfl,_,_,_,_,rfl,rfl,hf.sq,rfl,_,rfl,_,_,_,_,rfl,rfl,hf.sq,rfl,
    _,rfl,_,L.CR,_,_,_,rfl,sm _ _ hrow,FR.cl,FR.no 1 _ rfl,rfl,_,rfl,_,_,_,_,rfl,rfl,SqL.of (sm _ _ hpc),bC (by rw [rl.pc];exact hrn),_,rfl,_,L.CS,_,_,_,rfl,sm _ _ hself,FS.cl,FS.no 5 _ rfl,rfl,_,rfl,_,_,rfl,rfl,_,_,_,_,rfl,rfl,SqL.of (sm _ _ hrc),bq er1 (by rw [hD.nrc];omega),_,_,rfl,rfl,
    _,rfl,_,L.CR,_,_,_,rfl,sm _ _ hrow,FR.cl,FR.no 2 _ rfl,rfl,_,rfl,_,_,_,_,rfl,rfl,SqL.of (sm _ _ hpw),bC (by rw [rl.pw];exact hrn),_,rfl,_,L.CS,_,_,_,rfl,sm _ _ hself,FS.cl,FS.no 6 _ rfl,rfl,_,rfl,_,_,rfl,rfl,_,_,_,_,rfl,rfl,SqL.of (sm _ _ hrw),bq er1 (by rw [hD.nrw];omega),_,_,rfl,rfl,hMi,?_⟩
   refine⟨fi,(Fs.g (S.row l).pc r+Fs.g S.rc (r+1),Fs.g (S.row l).pw r*Fs.g S.rw (r+1)),rfl,fun H2 f2 s2 d2=>?_⟩
   exact⟨f2,_,rfl,by rw [hst];exact d2,sm.trans s2⟩
  ·rintro σ H' ⟨fa,v3,rfl,hf,sm⟩
   have hS':=hS.same sm
   unfold Fs.fillRest at k
   simp only at k
   have hf:Tup2 H' fa (Fs.iter (Fs.restTurn S l) (l+4) (s.length-(l+4)) (Fs.g S.rc (l+1),Fs.g S.rw (l+1))):=hf
   generalize Fs.iter (Fs.restTurn S l) (l+4) (s.length-(l+4)) (Fs.g S.rc (l+1),Fs.g S.rw (l+1))=fz at hf k
   have tl:∀{a q:Addr} {Hh:Hp} {v:Int × Int} {xs:List V},Tup2 Hh a v->Hh q=some (.lst xs)->a≠q:=fun h1 h2 e=>by
    have h1':_=some _:=h1
    rw [e,h2] at h1';cases h1'
   refine⟨_,rfl,_,_,_,_,rfl,rfl,hf.sq,rfl,_,rfl,_,L.CS,_,_,_,rfl,hS'.at_ .self trivial,FS.cl,FS.no 5 _ rfl,rfl,_,rfl,_,L.CR,_,_,_,rfl,hS'.at_ (.row l) hl2,FR.cl,FR.no 0 _ rfl,rfl,_,_,_,l,rfl,rfl,sm _ _ hrc,bR (by rw [az,hD.nrc];omega),?_⟩
   rw [bU]
   have hS2:=hS'.set_rc (x:=S.rc.set l fz.1)
   have d2:Tup2 (upd H' (L.ad .rc) (.lst (vi (S.rc.set l fz.1)))) fa fz:=ai hf (tl hf (sm _ _ hrc))
   have kp2:Kept L H (upd H' (L.ad .rc) (.lst (vi (S.rc.set l fz.1)))):=(Kept.of_same sm).trans (Kept.upd (t:=.rc) trivial)
   dsimp only
   generalize upd H' (L.ad .rc) (.lst (vi (S.rc.set l fz.1)))=H2 at hS2 d2 kp2 ⊢
   have hrw2:H2 (L.ad .rw)=some (.lst (vi S.rw)):=hS2.at_ .rw trivial
   refine⟨_,rfl,_,_,_,_,rfl,rfl,d2.sq,rfl,_,rfl,_,L.CS,_,_,_,rfl,hS2.at_ .self trivial,FS.cl,FS.no 6 _ rfl,rfl,_,rfl,_,L.CR,_,_,_,rfl,hS2.at_ (.row l) hl2,FR.cl,FR.no 0 _ rfl,rfl,_,_,_,l,rfl,rfl,hrw2,bR (by rw [az,hD.nrw];omega),?_⟩
   rw [bU]
   exact k _ (hS2.set_rw (x:=S.rw.set l fz.2)) (kp2.trans (Kept.upd (t:=.rw) trivial))
structure TurnOk(s:List Int)(p:Fs.Prc)(l:Nat)(S:Fs.Sr):Prop where
 nrows:S.rows.length=s.length+2
 narcs:S.arcs.length=s.length
 rl:Fs.RowLen s.length (S.row (l+2))
 al:∀r,r<s.length->(S.arc r).pl.length<1000/\(S.arc r).cs.length<1000/\(S.arc r).ws.length<1000
 d1:Dom s.length l (Fs.release s (l+2) S)
 pm:PairMul s p (Fs.release s (l+2) S) l
 d2:Dom s.length l (Fs.fillPairs s p l (Fs.release s (l+2) S))
 mm:ManyMul s p (Fs.fillPairs s p l (Fs.release s (l+2) S)) l
 d3:Dom s.length l (Fs.fillMany s p l (Fs.fillPairs s p l (Fs.release s (l+2) S)))
 rm:RestMul s (Fs.fillMany s p l (Fs.fillPairs s p l (Fs.release s (l+2) S))) l
 nz:(Fs.turn s p l S).rc.length=s.length+1/\(Fs.turn s p l S).rw.length=s.length+1
abbrev sLeast:Stmt:=inClass (top 15) 1
inductive jQ(K:PySem.W.Frag)(CS CR CA CP CT:Addr)(vs:List V)(H:Hp)(Q:VK):Prop
 |mk:∀(H0:Hp) (L:Lay) (s:List Int) (p:Fs.Prc),(vs=[.ref (L.ad .self)])->(L.CS=CS)->(L.CR=CR)->(L.CA=CA)->(Ctx K CP CT H0 L s p)->(SrAt H0 H L (Fs.Sr.new s.length p.far))->((∀i,i<s.length->TurnOk s p (s.length-1-i) (Fs.turns s p i (Fs.Sr.new s.length p.far))))->(1<=s.length)->(∀(H':Hp) (q:Addr),Same H0 H'->Tup2 H' q (Fs.least s p)->Q (.ref q) H')->jQ K CS CR CA CP CT vs H Q
def spLeast(K:PySem.W.Frag)(CS CR CA CP CT:Addr):Sp:=fun vs H Q _=>jQ K CS CR CA CP CT vs H Q
theorem scLeast:aB ["self","left"] ["self"] (ax sLeast):=⟨rfl,rfl,rfl,by decide+kernel,rfl,by decide+kernel,by decide+kernel⟩
theorem qe{f:Addr}{fd:FuncData}(F:Fun K "least" "Search.least" sLeast f fd)(T:Txt K mg aS aL aG)(FS:ClsF K CS srN)
  (F1:Mt P w K mg base 2 CS "release" ["self","row"] (spRelease CS CR CA)) (F2:Mt P w K mg base 4 CS "fill_pairs" ["self","row"] (spFillP K CS CR CA CP CT)) (F3:Mt P w K mg base 2 CS "fill_many" ["self","row"] (spFillM K CS CR CA CP CT)) (F4:Mt P w K mg base 2 CS "fill_rest" ["self","row"] (spFillR CS CR CA)):
  FnOk P w K mg base CX0 5 f fd ["self"] (spLeast K CS CR CA CP CT):=by
 refine F.ok scLeast (fun vs H Q E h=>?_) (fun cdv A outer s H vs Q E hr h=>?_)
 ·obtain⟨_,_,_,_,rfl,_⟩:=h
  rfl
 ·obtain⟨H0,L,s,p,rfl,rfl,rfl,rfl,hC,hS,hT,hn1,k⟩:=h
  have nd:=scLeast.nd
  have hr2:Room 2 _:=hr.mono (by decide)
  refine⟨_,ab (de PassesOwn.never rfl (jZ rfl T.range (aa (ao aN (ah (pv 0) rfl) af) (aa (cf bK af) (aa (cf bK af) ag)))) (bb (i:=1) nd rfl (Or.inl rfl))
    (ab (bx (eh F1 hr2 (pv 0) (aa (aq au (ah (pv 0) rfl) (ao aF (pv 1) af) (fun _ _=>rfl)) ag)))
    (ab (bx (eh F2 hr (pv 0) (aa (aq au (ah (pv 0) rfl) (pv 1) (fun _ _=>rfl)) ag)))
    (ab (bx (eh F3 hr2 (pv 0) (aa (aq au (ah (pv 0) rfl) (pv 1) (fun _ _=>rfl)) ag)))
    (ak (bx (eh F4 hr2 (pv 0) (aa (aq au (ah (pv 0) rfl) (pv 1) (fun _ _=>rfl)) ag))))))))
   (ak (aC (b0 (aa (aq au (ah (pv 0) rfl) af (fun _ _=>rfl)) (aa (aq au (ah (pv 0) rfl) af (fun _ _=>rfl)) ag))))),?_⟩
  have hn:=hC.n
  have h100:=hC.n100
  refine⟨_,rfl,_,L.CS,_,_,_,rfl,hS.at_ .self trivial,FS.cl,FS.no 1 _ rfl,rfl,_,_,rfl,rfl,_,rfl,_,rfl,_,_,_,s.length,rfl,?_,?_⟩
  ·have:=RgC.neg (i:=(L.n:Int)-1) (j:=-1) (by omega) (by omega) (by omega) (by omega)
   rw [show ((L.n:Int)-1-(-1)).toNat=s.length by omega] at this
   exact this
  refine iQ (lo:=(L.n:Int)-1) (c:=-1) (n:=s.length) (fun i σ H'=>∃v:Option V,σ=[some (.ref (L.ad .self)),v]/\SrAt H0 H' L (Fs.turns s p i (Fs.Sr.new s.length p.far))) ⟨none,rfl,hS⟩ ?_ ?_
  ·rintro i σ H' hi ⟨v,rfl,hS'⟩
   have tk:=hT i hi
   have hst:Fs.turns s p (i+1) (Fs.Sr.new s.length p.far)=Fs.turn s p (s.length-1-i) (Fs.turns s p i (Fs.Sr.new s.length p.far)):=rfl
   have el:(L.n:Int)-1+(i:Nat)*(-1:Int)=((s.length-1-i:Nat):Int):=by omega
   rw [el]
   have hll:s.length-1-i<s.length:=by omega
   generalize s.length-1-i=l at tk hst hll
   generalize Fs.turns s p i (Fs.Sr.new s.length p.far)=S at hS' tk hst
   have rows:∀{Hh:Hp} {Ss:Fs.Sr},SrAt H0 Hh L Ss->Hh (L.ad .rows)=some (.lst ((List.range (L.n+2)).map fun l=>.ref (L.ad (.row l)))):=fun h=>h.at_ .rows trivial
   have el2:(l:Int)+2=((l+2:Nat):Int):=by omega
   unfold Fs.turn at hst
   refine⟨_,rfl,_,_,_,rfl,hS'.at_ .self trivial,rfl,_,rfl,_,L.CS,_,_,_,rfl,hS'.at_ .self trivial,FS.cl,FS.no 3 _ rfl,rfl,_,rfl,_,_,rfl,rfl,_,_,_,_,rfl,rfl,SqL.of (rows hS'),hS'.rows_at el2 (by omega),?_⟩
   refine⟨H0,L,S,s,l+2,rfl,rfl,rfl,rfl,hS',hn,h100,by omega,by rw [hn];exact tk.nrows,by rw [hn];exact tk.narcs,by rw [hn];exact tk.rl,by rw [hn];exact tk.al,fun H1 hS1 _=>?_⟩
   refine⟨_,rfl,_,_,_,rfl,hS1.at_ .self trivial,rfl,_,rfl,_,L.CS,_,_,_,rfl,hS1.at_ .self trivial,FS.cl,FS.no 3 _ rfl,rfl,_,rfl,_,_,_,_,rfl,rfl,SqL.of (rows hS1),hS1.rows_at rfl (by omega),?_⟩
   refine⟨H0,L,_,s,p,l,rfl,rfl,rfl,rfl,hC,hS1,by rw [hn];exact tk.d1,by omega,tk.pm,fun H2 hS2 _=>?_⟩
   refine⟨_,rfl,_,_,_,rfl,hS2.at_ .self trivial,rfl,_,rfl,_,L.CS,_,_,_,rfl,hS2.at_ .self trivial,FS.cl,FS.no 3 _ rfl,rfl,_,rfl,_,_,_,_,rfl,rfl,SqL.of (rows hS2),hS2.rows_at rfl (by omega),?_⟩
   refine⟨H0,L,_,s,p,l,rfl,rfl,rfl,rfl,hC,hS2,by rw [hn];exact tk.d2,by omega,tk.mm,fun H3 hS3 _=>?_⟩
   refine⟨_,rfl,_,_,_,rfl,hS3.at_ .self trivial,rfl,_,rfl,_,L.CS,_,_,_,rfl,hS3.at_ .self trivial,FS.cl,FS.no 3 _ rfl,rfl,_,rfl,_,_,_,_,rfl,rfl,SqL.of (rows hS3),hS3.rows_at rfl (by omega),?_⟩
   refine⟨H0,L,_,s,l,rfl,rfl,rfl,rfl,hS3,hn,h100,by rw [hn];exact tk.d3,by omega,tk.rm,fun H4 hS4 _=>?_⟩
   exact⟨_,rfl,by rw [hst];exact hS4⟩
  ·rintro σ H' ⟨v,rfl,hS'⟩
   have hz:(Fs.turns s p s.length (Fs.Sr.new s.length p.far)).rc.length=s.length+1/\(Fs.turns s p s.length (Fs.Sr.new s.length p.far)).rw.length=s.length+1:=by
    have:=(hT (s.length-1) (by omega)).nz
    have e:Fs.turns s p s.length (Fs.Sr.new s.length p.far)=Fs.turn s p (s.length-1-(s.length-1)) (Fs.turns s p (s.length-1) (Fs.Sr.new s.length p.far)):=by
     have:s.length=(s.length-1)+1:=by omega
     generalize hm:s.length-1=m at this ⊢
     rw [show Fs.turns s p s.length=Fs.turns s p (m+1) by rw [<-this]]
     show Fs.turn s p (s.length-1-m) _=_
     rw [hm]
    rw [e];exact this
   unfold Fs.least at k
   simp only at k
   generalize Fs.turns s p s.length (Fs.Sr.new s.length p.far)=S at hS' hz k
   have hrc:H' (L.ad .rc)=some (.lst (vi S.rc)):=hS'.at_ .rc trivial
   have hrw:H' (L.ad .rw)=some (.lst (vi S.rw)):=hS'.at_ .rw trivial
   refine⟨_,rfl,_,L.CS,_,_,_,rfl,hS'.at_ .self trivial,FS.cl,FS.no 5 _ rfl,rfl,_,_,_,_,rfl,rfl,SqL.of hrc,bC (i:=0) (by omega),_,rfl,_,L.CS,_,_,_,rfl,hS'.at_ .self trivial,FS.cl,FS.no 6 _ rfl,rfl,_,_,_,_,rfl,rfl,SqL.of hrw,bC (i:=0) (by omega),(by show 2<=sizeLine;decide),fun q hq=>?_⟩
   exact k _ q (hS'.old.trans (aj hq)) ae
end
end Pg
end
section
namespace Pg
open PySem PySem.Spec PyProof.Rows L2 L3
def Tg.rl:Tg->Option Nat
 |.row l=>some l
 |.pc l=>some l
 |.pw l=>some l
 |.oc l=>some l
 |.ow l=>some l
 |.tc l=>some l
 |.tw l=>some l
 |_=>none
def Tg.al:Tg->Option Nat
 |.arc r=>some r
 |.pl r=>some r
 |.cs r=>some r
 |.ws r=>some r
 |_=>none
def Tg.ix:Tg->Nat
 |.row _=>0
 |.pc _=>1
 |.pw _=>2
 |.oc _=>3
 |.ow _=>4
 |.tc _=>5
 |.tw _=>6
 |.arc _=>0
 |.pl _=>1
 |.cs _=>2
 |.ws _=>3
 |_=>0
theorem u7{t u:Tg}{l:Nat}(h:t.rl=some l)(g:u.rl=some l)(e:t.ix=u.ix):t=u:=by
 cases t <;> cases u <;> simp_all [Tg.rl,Tg.ix]
theorem uY{t u:Tg}{l:Nat}(h:t.al=some l)(g:u.al=some l)(e:t.ix=u.ix):t=u:=by
 cases t <;> cases u <;> simp_all [Tg.al,Tg.ix]
def Part(i j:Nat)(t:Tg):Prop:=(∃l,t.rl=some l/\l<i)\/∃r,t.al=some r/\r<j
structure PartAt(H0 H:Hp)(L:Lay)(S:Fs.Sr)(i j:Nat):Prop where
 inj:∀t u,Part i j t->Part i j u->L.ad t=L.ad u->t=u
 at_:∀t,Part i j t->H (L.ad t)=some (L.cont S t)
 new:∀t,Part i j t->H0 (L.ad t)=none
theorem getD_mem{A:List Addr}{k:Nat}(h:k<A.length):A.getD k 0∈A:=by
 rw [List.getD_eq_getElem?_getD,List.getElem?_eq_getElem h,Option.getD_some];exact List.getElem_mem h
theorem getD_inj{A:List Addr}{k m:Nat}(nd:A.Nodup)(h:k<A.length)(g:m<A.length)(e:A.getD k 0=A.getD m 0):k=m:=by
 rw [List.getD_eq_getElem?_getD,List.getElem?_eq_getElem h,Option.getD_some,List.getD_eq_getElem?_getD,List.getElem?_eq_getElem g,Option.getD_some] at e
 exact (List.getElem_inj nd).mp e
theorem gm{t:Tg}{l:Nat}(h:t.rl=some l):t.ix<7:=by cases t <;> simp_all [Tg.rl,Tg.ix]
theorem gK{t:Tg}{l:Nat}(h:t.al=some l):t.ix<4:=by cases t <;> simp_all [Tg.al,Tg.ix]
section
variable {H0 H H':Hp}{L:Lay}{S:Fs.Sr}{i j:Nat}
def Lay.addRow(L:Lay)(i d:Addr)(A:List Addr):Lay:={L with ad:=fun t=>if t.rl=some i then A.getD t.ix 0 else L.ad t,dx:=fun t=>if t.rl=some i then d else L.dx t}
def Lay.addArc(L:Lay)(i d:Addr)(A:List Addr):Lay:={L with ad:=fun t=>if t.al=some i then A.getD t.ix 0 else L.ad t,dx:=fun t=>if t.al=some i then d else L.dx t}
theorem PartAt.addRow{d x q1 q2 q3 q4 q5 q6:Addr}{R:Fs.Row}(h:PartAt H0 H L S i j)(sm:Same H H')(o:Same H0 H)(nd:[x,q1,q2,q3,q4,q5,q6].Nodup)(fr:∀a∈[x,q1,q2,q3,q4,q5,q6],H a=none)
  (hx:H' x=some (.ins L.CR d (rowF i q1 q2 q3 q4 q5 q6))) (e:S.row i=R) (h1:H' q1=some (.lst (vi R.pc))) (h2:H' q2=some (.lst (vi R.pw))) (h3:H' q3=some (.lst (vi R.oc))) (h4:H' q4=some (.lst (vi R.ow))) (h5:H' q5=some (.lst (vi R.tc))) (h6:H' q6=some (.lst (vi R.tw))):
  PartAt H0 H' (L.addRow i d [x,q1,q2,q3,q4,q5,q6]) S (i+1) j:=by
 subst e
 have old:∀t,Part (i+1) j t->¬t.rl=some i->Part i j t:=fun t ht hn=>by
  rcases ht with⟨l,e,hl⟩|z
  ·refine .inl ⟨l,e,?_⟩
   by_cases q:l=i
   ·subst q;exact absurd e hn
   ·omega
  ·exact .inr z
 refine⟨fun t u ht hu e=>?_,fun t ht=>?_,fun t ht=>?_⟩
 ·unfold Lay.addRow at e
  simp only at e
  by_cases a:t.rl=some i
  ·by_cases b:u.rl=some i
   ·rw [if_pos a,if_pos b] at e
    exact u7 a b (getD_inj nd (gm a) (gm b) e)
   ·rw [if_pos a,if_neg b] at e
    have:=h.at_ u (old u hu b)
    rw [<-e,fr _ (getD_mem (gm a))] at this
    cases this
  ·by_cases b:u.rl=some i
   ·rw [if_neg a,if_pos b] at e
    have:=h.at_ t (old t ht a)
    rw [e,fr _ (getD_mem (gm b))] at this
    cases this
   ·rw [if_neg a,if_neg b] at e
    exact h.inj t u (old t ht a) (old u hu b) e
 ·by_cases a:t.rl=some i
  ·cases t <;> simp only [Tg.rl,Option.some.injEq,reduceCtorEq] at a
   all_goals (subst a;first |(simpa [Lay.addRow,Lay.cont,Tg.rl,Tg.ix] using hx)|(simpa [Lay.addRow,Lay.cont,Tg.rl,Tg.ix] using h1)|(simpa [Lay.addRow,Lay.cont,Tg.rl,Tg.ix] using h2)|(simpa [Lay.addRow,Lay.cont,Tg.rl,Tg.ix] using h3)|(simpa [Lay.addRow,Lay.cont,Tg.rl,Tg.ix] using h4)|(simpa [Lay.addRow,Lay.cont,Tg.rl,Tg.ix] using h5)|(simpa [Lay.addRow,Lay.cont,Tg.rl,Tg.ix] using h6))
  ·have:=sm _ _ (h.at_ t (old t ht a))
   show H' (if t.rl=some i then _ else L.ad t)=_
   rw [if_neg a,this]
   cases t <;> first |rfl |skip
   case row l=>simp only [Tg.rl,Option.some.injEq] at a;simp [Lay.cont,Lay.addRow,Tg.rl,a]
   all_goals (rcases ht with⟨_,z,_⟩|⟨_,z,_⟩ <;> simp [Tg.rl,Tg.al] at z)
 ·show H0 (if t.rl=some i then _ else L.ad t)=_
  by_cases a:t.rl=some i
  ·rw [if_pos a];exact o.free (fr _ (getD_mem (gm a)))
  ·rw [if_neg a];exact h.new t (old t ht a)
theorem PartAt.addArc{d x q1 q2 q3:Addr}{R:Fs.Arcs}(h:PartAt H0 H L S i j)(sm:Same H H')(o:Same H0 H)(nd:[x,q1,q2,q3].Nodup)(fr:∀a∈[x,q1,q2,q3],H a=none)
  (hx:H' x=some (.ins L.CA d (arcF q1 q2 q3))) (e:S.arc j=R) (h1:H' q1=some (.lst (vi R.pl))) (h2:H' q2=some (.lst (vi R.cs))) (h3:H' q3=some (.lst (vi R.ws))):
  PartAt H0 H' (L.addArc j d [x,q1,q2,q3]) S i (j+1):=by
 subst e
 have old:∀t,Part i (j+1) t->¬t.al=some j->Part i j t:=fun t ht hn=>by
  rcases ht with z |⟨l,e,hl⟩
  ·exact .inl z
  ·refine .inr ⟨l,e,?_⟩
   by_cases q:l=j
   ·subst q;exact absurd e hn
   ·omega
 refine⟨fun t u ht hu e=>?_,fun t ht=>?_,fun t ht=>?_⟩
 ·unfold Lay.addArc at e
  simp only at e
  by_cases a:t.al=some j
  ·by_cases b:u.al=some j
   ·rw [if_pos a,if_pos b] at e
    exact uY a b (getD_inj nd (gK a) (gK b) e)
   ·rw [if_pos a,if_neg b] at e
    have:=h.at_ u (old u hu b)
    rw [<-e,fr _ (getD_mem (gK a))] at this
    cases this
  ·by_cases b:u.al=some j
   ·rw [if_neg a,if_pos b] at e
    have:=h.at_ t (old t ht a)
    rw [e,fr _ (getD_mem (gK b))] at this
    cases this
   ·rw [if_neg a,if_neg b] at e
    exact h.inj t u (old t ht a) (old u hu b) e
 ·by_cases a:t.al=some j
  ·cases t <;> simp only [Tg.al,Option.some.injEq,reduceCtorEq] at a
   all_goals (subst a;first |(simpa [Lay.addArc,Lay.cont,Tg.al,Tg.ix] using hx)|(simpa [Lay.addArc,Lay.cont,Tg.al,Tg.ix] using h1)|(simpa [Lay.addArc,Lay.cont,Tg.al,Tg.ix] using h2)|(simpa [Lay.addArc,Lay.cont,Tg.al,Tg.ix] using h3))
  ·have:=sm _ _ (h.at_ t (old t ht a))
   show H' (if t.al=some j then _ else L.ad t)=_
   rw [if_neg a,this]
   cases t <;> first |rfl |skip
   case arc l=>simp only [Tg.al,Option.some.injEq] at a;simp [Lay.cont,Lay.addArc,Tg.al,a]
   all_goals (rcases ht with⟨_,z,_⟩|⟨_,z,_⟩ <;> simp [Tg.rl,Tg.al] at z)
 ·show H0 (if t.al=some j then _ else L.ad t)=_
  by_cases a:t.al=some j
  ·rw [if_pos a];exact o.free (fr _ (getD_mem (gK a)))
  ·rw [if_neg a];exact h.new t (old t ht a)
theorem PartAt.store{p C dx:Addr}{fs fs':List (Str × V)}(h:PartAt H0 H L S i j)(hp:H p=some (.ins C dx fs))(hn:∀t,Part i j t->L.ad t≠p):PartAt H0 (upd H p (.ins C dx fs')) L S i j:=
 ⟨h.inj,fun t ht=>ai (h.at_ t ht) (hn t ht),h.new⟩
end
theorem fK{n:Nat}{t:Tg}:t.ok n↔(Part (n+2) n t\/t=.self\/t=.rows\/t=.arcs\/t=.rc\/t=.rw):=by
 cases t <;> simp [Tg.ok,Part,Tg.rl,Tg.al]
theorem SrAt.of_parts{H0 H:Hp}{L:Lay}{S:Fs.Sr}{sa d1 d2 q1 q2 dx:Addr}(h:PartAt H0 H L S (L.n+2) L.n)(o:Same H0 H)
  (hs:H sa=some (.ins L.CS dx (srF L.sA L.n L.pA d1 d2 q1 q2))) (h1:H d1=some (.lst ((List.range (L.n+2)).map fun l=>.ref (L.ad (.row l))))) (h2:H d2=some (.lst ((List.range L.n).map fun r=>.ref (L.ad (.arc r)))))
  (h3:H q1=some (.lst (vi S.rc))) (h4:H q2=some (.lst (vi S.rw))) (nd:[sa,d1,d2,q1,q2].Nodup) (fr:∀a∈[sa,d1,d2,q1,q2],H0 a=none) (na:∀t,Part (L.n+2) L.n t->L.ad t∉[sa,d1,d2,q1,q2]):
  SrAt H0 H {L with ad:=fun t=>match t with |.self=>sa |.rows=>d1 |.arcs=>d2 |.rc=>q1 |.rw=>q2 |t=>L.ad t,dx:=fun t=>match t with |.self=>dx |t=>L.dx t} S:=by
 have adp:∀t,Part (L.n+2) L.n t->(match t with |.self=>sa |.rows=>d1 |.arcs=>d2 |.rc=>q1 |.rw=>q2 |t=>L.ad t:Addr)=L.ad t:=fun t ht=>by
  cases t <;> first |rfl |(rcases ht with⟨_,z,_⟩|⟨_,z,_⟩ <;> simp [Tg.rl,Tg.al] at z)
 simp only [List.nodup_cons,List.mem_cons,List.not_mem_nil,or_false,not_or,List.nodup_nil,and_true,not_false_eq_true] at nd na
 refine⟨fun t u ht hu e=>?_,fun t ht=>?_,fun t ht=>?_,o⟩
 ·rcases fK.mp ht with ht |ht
  ·rcases fK.mp hu with hu |hu
   ·dsimp only at e
    rw [adp t ht,adp u hu] at e
    exact h.inj t u ht hu e
   ·dsimp only at e
    rw [adp t ht] at e
    have:=na t ht
    rcases hu with rfl |rfl |rfl |rfl |rfl <;> simp_all
  ·rcases fK.mp hu with hu |hu
   ·dsimp only at e
    rw [adp u hu] at e
    have:=na u hu
    rcases ht with rfl |rfl |rfl |rfl |rfl <;> simp_all
   ·rcases ht with rfl |rfl |rfl |rfl |rfl <;> rcases hu with rfl |rfl |rfl |rfl |rfl <;> first |rfl |(exfalso;simp_all)
 ·rcases fK.mp ht with ht |ht
  ·dsimp only
   rw [adp t ht,h.at_ t ht]
   cases t <;> first |rfl |(rcases ht with⟨_,z,_⟩|⟨_,z,_⟩ <;> simp [Tg.rl,Tg.al] at z)
  ·rcases ht with rfl |rfl |rfl |rfl |rfl
   ·exact hs
   ·exact h1
   ·exact h2
   ·exact h3
   ·exact h4
 ·rcases fK.mp ht with ht |ht
  ·dsimp only
   rw [adp t ht];exact h.new t ht
  ·rcases ht with rfl |rfl |rfl |rfl |rfl
   ·exact fr _ (by simp)
   ·exact fr _ (by simp)
   ·exact fr _ (by simp)
   ·exact fr _ (by simp)
   ·exact fr _ (by simp)
end Pg
end
section
namespace Pg
open PySem PySem.Spec PyProof.Rows L2 L3
theorem uz{n i:Nat}{far:Int}(h:i<n+2):(Fs.Sr.new n far).row i=Fs.Row.new n far:=by
 unfold Fs.Sr.new Fs.Sr.row
 exact Fs.bp _ _ _ _ h
theorem tQ{n i:Nat}{far:Int}(h:i<n):(Fs.Sr.new n far).arc i=⟨[],[],[]⟩:=by
 unfold Fs.Sr.new Fs.Sr.arc
 exact Fs.bp _ _ _ _ h
theorem bQ{H:Hp}{x dx q C:Addr}(nx:H x=none)(nd:H dx=none)(hq:(upd (upd H dx (.own x)) x (.ins C dx [])) q=none):H q=none:=by
 cases e:H q with
 |none=>rfl
 |some o=>
  rw [ai (ai e (aD e nd)) (aD e nx)] at hq
  cases hq
section
variable {P:Program}{w:World}{K:PySem.W.Frag}{mg:Str->Option Value}{base:Heap}{aS aL aG CS CR CA CP CT CW:Addr}
abbrev sSrI:Stmt:=inClass (top 15) 0
inductive nX(K:PySem.W.Frag)(CS CR CA CP CT:Addr)(vs:List V)(H:Hp)(Q:VK):Prop
 |mk:∀(p dx sA pA:Addr) (s:List Int) (z:Fs.Prc) (H0:Hp),(vs=[.ref p,.ref sA,.ref pA])->(H p=some (.ins CS dx []))->(Same H0 H)->(H0 p=none)->(SqL K H0 sA (vi s))->(PrcAt CP CT H0 pA z)->(s.length<=100)->(∀(H':Hp) (L:Lay),L.CS=CS->L.CR=CR->L.CA=CA->L.n=s.length->L.sA=sA->L.pA=pA->L.ad .self=p->SrAt H0 H' L (Fs.Sr.new s.length z.far)->Q .non H')->nX K CS CR CA CP CT vs H Q
def spSrI(K:PySem.W.Frag)(CS CR CA CP CT:Addr):Sp:=fun vs H Q _=>nX K CS CR CA CP CT vs H Q
theorem scSrI:aB ["self","strand","prices","size","left","right"] ["self","strand","prices"] (ax sSrI):=⟨rfl,rfl,rfl,by decide+kernel,rfl,by decide+kernel,by decide+kernel⟩
theorem uS{f:Addr}{fd:FuncData}(F:Fun K "__init__" "Search.__init__" sSrI f fd)(T:Txt K mg aS aL aG)(FC:SrC K CS CR CA CP CT)(MR:Mc P w K mg base 1 "Row" CR ["self","left","size","far"] (spRowI CR))(MA:Mc P w K mg base 1 "Arcs" CA ["self"] (spArcsI CA)):
  FnOk P w K mg base CX0 3 f fd ["self","strand","prices"] (spSrI K CS CR CA CP CT):=by
 refine F.ok scSrI (fun vs H Q E h=>?_) (fun cdv A outer s H vs Q E hr h=>?_)
 ·obtain⟨_,_,_,_,_,_,_,rfl,_⟩:=h
  rfl
 ·obtain⟨p,dx,sA,pA,s,z,H0,rfl,hp,o0,hp0,hstr,hprc,h100,k⟩:=h
  have nd:=scSrI.nd
  refine⟨_,ab (aw (i:=3) nd rfl (Or.inr rfl) (bc aV rfl T.len PySem.boot_len (aa (pv 1) ag)))
   (ab (aT (pv 0) (pv 1) rfl) (ab (aT (pv 0) (pv 3) rfl) (ab (aT (pv 0) (pv 2) rfl)
   (ab (aT (pv 0) (gR (own:=[("left",4)]) rfl nd (fb rfl T.range (aa (ao aF (pv 3) af) ag)) (bf (by kernel_rfl)) (fun _ _ _ _ _=>by exact bb (i:=4) nd rfl (Or.inl rfl)) (fun _ _ _ _ _=>by exact bG)
    (fun _ _ _ _ _=>by exact fe MR hr (aa (pv 4) (aa (pv 3) (aa (kT K rfl (pv 2) rfl) ag))))) rfl)
   (ab (aT (pv 0) (gR (own:=[("right",5)]) rfl nd (fb rfl T.range (aa (pv 3) ag)) (bf (by kernel_rfl)) (fun _ _ _ _ _=>by exact bb (i:=5) nd rfl (Or.inl rfl)) (fun _ _ _ _ _=>by exact bG)
    (fun _ _ _ _ _=>by exact rf MA hr)) rfl)
   (ab (aT (pv 0) (ao bT (aP (aa af ag)) (ao aF (pv 3) af)) rfl) (ak (aT (pv 0) (ao bT (aP (aa af ag)) (ao aF (pv 3) af)) rfl)))))))),?_⟩
  obtain⟨dxp,ta,po,pc,pm,bd,hz0,hT,hz2,hz3,hz4,hz5⟩:=hprc.ex
  have pnp:pA≠p:=fun e=>by rw [e,hp0] at hz0;cases hz0
  refine⟨_,rfl,sA,_,rfl,.inl (o0.seq hstr),?_⟩
  rw [az]
  refine⟨_,rfl,_,rfl,p,CS,dx,_,rfl,hp,FC.S.cl,FC.S.no 0 _ rfl,(by show 0<1000;decide),?_⟩
  refine⟨_,rfl,_,rfl,p,CS,dx,_,rfl,ae,FC.S.cl,FC.S.no 1 _ rfl,(by show 1<1000;decide),?_⟩
  refine⟨_,rfl,_,rfl,p,CS,dx,_,rfl,ae,FC.S.cl,FC.S.no 2 _ rfl,(by show 2<1000;decide),?_⟩
  dsimp only
  generalize hH1:upd (upd (upd H p (.ins CS dx (putF "strand" (.ref sA) []))) p (.ins CS dx (putF "size" (.int s.length) (putF "strand" (.ref sA) [])))) p (.ins CS dx (putF "prices" (.ref pA) (putF "size" (.int s.length) (putF "strand" (.ref sA) []))))=H1
  have e1:H1 p=some (.ins CS dx [("strand",.ref sA),("size",.int s.length),("prices",.ref pA)]):=by rw [<-hH1,ae];rfl
  have o1:Same H0 H1:=fun b u e=>by
   have hb:b≠p:=fun q=>by rw [q,hp0] at e;cases e
   rw [<-hH1];exact ai (ai (ai (o0 b u e) hb) hb) hb
  refine⟨_,rfl,_,_,rfl,rfl,_,rfl,by omega,by omega,fun D1 hD1=>?_⟩
  rw [show ((s.length:Int)+2).toNat=s.length+2 by omega]
  have f1:H0 D1=none:=o1.free hD1
  have pD1:p≠D1:=fun e=>by rw [e,hD1] at e1;cases e1
  let L0:Lay:=⟨fun _=>0,fun _=>0,s.length,sA,pA,CS,CR,CA⟩
  refine fZ (lo:=0) (n:=s.length+2) (fun i H'=>∃L:Lay,L.n=s.length/\L.sA=sA/\L.pA=pA/\L.CS=CS/\L.CR=CR/\L.CA=CA/\PartAt H0 H' L (Fs.Sr.new s.length z.far) i 0/\Same H1 H'/\H' D1=some (.lst ((List.range i).map fun l=>.ref (L.ad (.row l))))/\∀t,Part i 0 t->L.ad t∉[p,D1]) ?_ ?_ ?_
  ·refine⟨L0,rfl,rfl,rfl,rfl,rfl,rfl,⟨?_,?_,?_⟩,aj hD1,ae,?_⟩
   ·rintro t u (⟨l,_,hl⟩|⟨r,_,hr⟩) <;> omega
   ·rintro t (⟨l,_,hl⟩|⟨r,_,hr⟩) <;> omega
   ·rintro t (⟨l,_,hl⟩|⟨r,_,hr⟩) <;> omega
   ·rintro t (⟨l,_,hl⟩|⟨r,_,hr⟩) <;> omega
  ·rintro i H' hi ⟨L,rfl',ls,lp,lc1,lc2,lc3,hP,sm,hDi,nf⟩
   refine⟨rfl,?_⟩
   refine⟨_,rfl,_,rfl,_,rfl,pA,CP,_,_,_,rfl,sm _ _ (o1 _ _ hz0),FC.P.cl,FC.P.no 1 _ rfl,rfl,?_⟩
   intro x d nx ndx nex
   refine⟨x,d,(0:Int)+(i:Int),s.length,z.far,rfl,ae,by omega,fun H2 q1 q2 q3 q4 q5 q6 hx ac=>⟨rfl,?_⟩⟩
   have sm2:Same H' H2:=Same.made nx ndx ac.gr
   have a1:=ac.at_ (q1,_) (.head _)
   have a2:=ac.at_ (q2,_) (.tail _ (.head _))
   have a3:=ac.at_ (q3,_) (.tail _ (.tail _ (.head _)))
   have a4:=ac.at_ (q4,_) (.tail _ (.tail _ (.tail _ (.head _))))
   have a5:=ac.at_ (q5,_) (.tail _ (.tail _ (.tail _ (.tail _ (.head _)))))
   have a6:=ac.at_ (q6,_) (.tail _ (.tail _ (.tail _ (.tail _ (.tail _ (.head _))))))
   have fr:∀a∈[x,q1,q2,q3,q4,q5,q6],H' a=none:=by
    simp only [List.forall_mem_cons]
    exact⟨nx,bQ nx ndx a1.1,bQ nx ndx a2.1,bQ nx ndx a3.1,bQ nx ndx a4.1,bQ nx ndx a5.1,bQ nx ndx a6.1,by simp⟩
   have ndq:[x,q1,q2,q3,q4,q5,q6].Nodup:=by
    refine List.nodup_cons.mpr ⟨?_,ac.nd⟩
    simp only [List.mem_cons,List.not_mem_nil,or_false,not_or]
    exact⟨Ne.symm a1.2.2,Ne.symm a2.2.2,Ne.symm a3.2.2,Ne.symm a4.2.2,Ne.symm a5.2.2,Ne.symm a6.2.2⟩
   have ei:(0:Int)+(i:Int)=(i:Int):=by omega
   rw [ei] at hx
   have hP2:=hP.addRow (d:=d) (x:=x) (R:=Fs.Row.new s.length z.far) sm2 (o1.trans sm) ndq fr (by rw [lc2];exact hx) (uz hi) a1.2.1 a2.2.1 a3.2.1 a4.2.1 a5.2.1 a6.2.1
   have nf2:∀t,Part (i+1) 0 t->(L.addRow i d [x,q1,q2,q3,q4,q5,q6]).ad t∉[p,D1]:=fun t ht=>by
    show (if t.rl=some i then _ else L.ad t)∉_
    by_cases c:t.rl=some i
    ·rw [if_pos c]
     have:=fr _ (getD_mem (A:=[x,q1,q2,q3,q4,q5,q6]) (gm c))
     simp only [List.mem_cons,List.not_mem_nil,or_false,not_or]
     exact⟨fun e=>(by rw [e,sm _ _ e1] at this;cases this),fun e=>(by rw [e,hDi] at this;cases this)⟩
    ·rw [if_neg c]
     refine nf t ?_
     rcases ht with⟨l,e,hl⟩|⟨r,_,hr⟩
     ·refine .inl ⟨l,e,?_⟩
      by_cases q:l=i
      ·subst q;exact absurd e c
      ·omega
     ·omega
   refine⟨_,sm2 _ _ hDi,small1000 (by rw [List.length_map,List.length_range];omega),L.addRow i d [x,q1,q2,q3,q4,q5,q6],rfl',ls,lp,lc1,lc2,lc3,?_,?_,?_,nf2⟩
   ·exact⟨hP2.inj,fun t ht=>ai (hP2.at_ t ht) (fun e=>nf2 t ht (by simp [e])),hP2.new⟩
   ·exact fun b u e=>ai (sm2 _ _ (sm b u e)) (fun q=>by rw [q,hD1] at e;cases e)
   ·rw [ae,List.range_succ,List.map_append]
    congr 2
    congr 1
    ·apply List.map_congr_left
     intro l hl
     have hl:l<i:=List.mem_range.mp hl
     show V.ref (L.ad (.row l))=V.ref (if (Tg.row l).rl=some i then _ else L.ad (.row l))
     rw [if_neg (by show ¬some l=some i;intro q;injection q;omega)]
    ·show [V.ref x]=[V.ref (if (Tg.row i).rl=some i then _ else L.ad (.row i))]
     rw [if_pos (show (Tg.row i).rl=some i from rfl)];rfl
  ·rintro H2 ⟨L,rfl',ls,lp,lc1,lc2,lc3,hP,sm,hDi,nf⟩
   refine⟨_,rfl,p,CS,dx,_,rfl,sm _ _ e1,FC.S.cl,FC.S.no 3 _ rfl,(by show 3<1000;decide),?_⟩
   dsimp only
   have hP3:PartAt H0 (upd H2 p (.ins CS dx (putF "rows" (.ref D1) [("strand",.ref sA),("size",.int s.length),("prices",.ref pA)]))) L (Fs.Sr.new s.length z.far) (s.length+2) 0:=hP.store (sm _ _ e1) (fun t ht e=>nf t ht (by simp [e]))
   have g3:Grown p H2 (upd H2 p (.ins CS dx (putF "rows" (.ref D1) [("strand",.ref sA),("size",.int s.length),("prices",.ref pA)]))):=Grown.upd
   have e3:(upd H2 p (.ins CS dx (putF "rows" (.ref D1) [("strand",.ref sA),("size",.int s.length),("prices",.ref pA)]))) p=some (.ins CS dx [("strand",.ref sA),("size",.int s.length),("prices",.ref pA),("rows",.ref D1)]):=by rw [ae];rfl
   generalize upd H2 p (.ins CS dx (putF "rows" (.ref D1) [("strand",.ref sA),("size",.int s.length),("prices",.ref pA)]))=H3 at hP3 g3 e3 ⊢
   have o3:Same H0 H3:=fun b u e=>g3 b u (sm _ _ (o1 b u e)) (fun q=>by rw [q,hp0] at e;cases e)
   have hD3:H3 D1=some (.lst ((List.range (s.length+2)).map fun l=>.ref (L.ad (.row l)))):=g3 _ _ hDi (Ne.symm pD1)
   refine⟨_,rfl,_,rfl,by omega,by omega,fun D2 hD2=>?_⟩
   rw [Int.toNat_natCast]
   have pD2:p≠D2:=fun e=>by rw [e,hD2] at e3;cases e3
   have D12:D1≠D2:=fun e=>by rw [e,hD2] at hD3;cases hD3
   have f2:H0 D2=none:=o3.free hD2
   have nf3:∀t,Part (s.length+2) 0 t->L.ad t∉[p,D1,D2]:=fun t ht=>by
    have:=nf t ht
    simp only [List.mem_cons,List.not_mem_nil,or_false,not_or] at this ⊢
    exact⟨this.1,this.2,fun e=>(by have:=hP3.at_ t ht;rw [e,hD2] at this;cases this)⟩
   refine fZ (lo:=0) (n:=s.length) (fun i H'=>∃L:Lay,L.n=s.length/\L.sA=sA/\L.pA=pA/\L.CS=CS/\L.CR=CR/\L.CA=CA/\PartAt H0 H' L (Fs.Sr.new s.length z.far) (s.length+2) i/\Same H3 H'/\H' D1=some (.lst ((List.range (s.length+2)).map fun l=>.ref (L.ad (.row l))))/\
     H' D2=some (.lst ((List.range i).map fun r=>.ref (L.ad (.arc r))))/\∀t,Part (s.length+2) i t->L.ad t∉[p,D1,D2]) ?_ ?_ ?_
   ·refine⟨L,rfl',ls,lp,lc1,lc2,lc3,?_,aj hD2,aZ hD3 hD2,ae,nf3⟩
    exact⟨hP3.inj,fun t ht=>aZ (hP3.at_ t ht) hD2,hP3.new⟩
   ·rintro i H' hi ⟨L,rfl',ls,lp,lc1,lc2,lc3,hP,sm,hDa,hDi,nf⟩
    refine⟨rfl,?_⟩
    intro x d nx ndx nex
    refine⟨x,d,rfl,ae,fun H4 q1 q2 q3 hx ac=>⟨rfl,?_⟩⟩
    have sm2:Same H' H4:=Same.made nx ndx ac.gr
    have a1:=ac.at_ (q1,_) (.head _)
    have a2:=ac.at_ (q2,_) (.tail _ (.head _))
    have a3:=ac.at_ (q3,_) (.tail _ (.tail _ (.head _)))
    have fr:∀a∈[x,q1,q2,q3],H' a=none:=by
     simp only [List.forall_mem_cons]
     exact⟨nx,bQ nx ndx a1.1,bQ nx ndx a2.1,bQ nx ndx a3.1,by simp⟩
    have ndq:[x,q1,q2,q3].Nodup:=by
     refine List.nodup_cons.mpr ⟨?_,ac.nd⟩
     simp only [List.mem_cons,List.not_mem_nil,or_false,not_or]
     exact⟨Ne.symm a1.2.2,Ne.symm a2.2.2,Ne.symm a3.2.2⟩
    have hP2:=hP.addArc (d:=d) (x:=x) (R:=⟨[],[],[]⟩) sm2 (o3.trans sm) ndq fr (by rw [lc3];exact hx) (tQ hi) a1.2.1 a2.2.1 a3.2.1
    have nf2:∀t,Part (s.length+2) (i+1) t->(L.addArc i d [x,q1,q2,q3]).ad t∉[p,D1,D2]:=fun t ht=>by
     show (if t.al=some i then _ else L.ad t)∉_
     by_cases c:t.al=some i
     ·rw [if_pos c]
      have:=fr _ (getD_mem (A:=[x,q1,q2,q3]) (gK c))
      simp only [List.mem_cons,List.not_mem_nil,or_false,not_or]
      exact⟨fun e=>(by rw [e,sm _ _ e3] at this;cases this),fun e=>(by rw [e,hDa] at this;cases this),fun e=>(by rw [e,hDi] at this;cases this)⟩
     ·rw [if_neg c]
      refine nf t ?_
      rcases ht with z |⟨r,e,hr⟩
      ·exact .inl z
      ·refine .inr ⟨r,e,?_⟩
       by_cases q:r=i
       ·subst q;exact absurd e c
       ·omega
    refine⟨_,sm2 _ _ hDi,small1000 (by rw [List.length_map,List.length_range];omega),L.addArc i d [x,q1,q2,q3],rfl',ls,lp,lc1,lc2,lc3,?_,?_,?_,?_,nf2⟩
    ·exact⟨hP2.inj,fun t ht=>ai (hP2.at_ t ht) (fun e=>nf2 t ht (by simp [e])),hP2.new⟩
    ·exact fun b u e=>ai (sm2 _ _ (sm b u e)) (fun q=>by rw [q,hD2] at e;cases e)
    ·exact ai (sm2 _ _ hDa) D12
    ·rw [ae,List.range_succ,List.map_append]
     congr 2
     congr 1
     ·apply List.map_congr_left
      intro l hl
      have hl:l<i:=List.mem_range.mp hl
      show V.ref (L.ad (.arc l))=V.ref (if (Tg.arc l).al=some i then _ else L.ad (.arc l))
      rw [if_neg (by show ¬some l=some i;intro q;injection q;omega)]
     ·show [V.ref x]=[V.ref (if (Tg.arc i).al=some i then _ else L.ad (.arc i))]
      rw [if_pos (show (Tg.arc i).al=some i from rfl)];rfl
   ·rintro H4 ⟨L,rfl',ls,lp,lc1,lc2,lc3,hP,sm,hDa,hDi,nf⟩
    refine⟨_,rfl,p,CS,dx,_,rfl,sm _ _ e3,FC.S.cl,FC.S.no 4 _ rfl,(by show 4<1000;decide),?_⟩
    dsimp only
    have hP5:PartAt H0 (upd H4 p (.ins CS dx (putF "arcs" (.ref D2) [("strand",.ref sA),("size",.int s.length),("prices",.ref pA),("rows",.ref D1)]))) L (Fs.Sr.new s.length z.far) (s.length+2) s.length:=hP.store (sm _ _ e3) (fun t ht e=>nf t ht (by simp [e]))
    have g5:Grown p H4 (upd H4 p (.ins CS dx (putF "arcs" (.ref D2) [("strand",.ref sA),("size",.int s.length),("prices",.ref pA),("rows",.ref D1)]))):=Grown.upd
    have e5:(upd H4 p (.ins CS dx (putF "arcs" (.ref D2) [("strand",.ref sA),("size",.int s.length),("prices",.ref pA),("rows",.ref D1)]))) p=some (.ins CS dx [("strand",.ref sA),("size",.int s.length),("prices",.ref pA),("rows",.ref D1),("arcs",.ref D2)]):=by rw [ae];rfl
    generalize upd H4 p (.ins CS dx (putF "arcs" (.ref D2) [("strand",.ref sA),("size",.int s.length),("prices",.ref pA),("rows",.ref D1)]))=H5 at hP5 g5 e5 ⊢
    have o5:Same H0 H5:=fun b u e=>g5 b u (sm _ _ (o3 b u e)) (fun q=>by rw [q,hp0] at e;cases e)
    have hD1':=g5 _ _ hDa (Ne.symm pD1)
    have hD2':=g5 _ _ hDi (Ne.symm pD2)
    refine dC (cy (x:=0) (n:=s.length+1) (fun Q' q=>q) (fun H' Q' _ q=>⟨_,rfl,_,_,rfl,rfl,q⟩) (by omega) (fun H6 q1 s6 fq1 dq1=>⟨_,rfl,p,CS,dx,_,rfl,s6 _ _ e5,FC.S.cl,FC.S.no 5 _ rfl,(by show 5<1000;decide),?_⟩))
    dsimp only
    have g7:Grown p H6 (upd H6 p (.ins CS dx (putF "rest_costs" (.ref q1) [("strand",.ref sA),("size",.int s.length),("prices",.ref pA),("rows",.ref D1),("arcs",.ref D2)]))):=Grown.upd
    have e7:(upd H6 p (.ins CS dx (putF "rest_costs" (.ref q1) [("strand",.ref sA),("size",.int s.length),("prices",.ref pA),("rows",.ref D1),("arcs",.ref D2)]))) p=some (.ins CS dx [("strand",.ref sA),("size",.int s.length),("prices",.ref pA),("rows",.ref D1),("arcs",.ref D2),("rest_costs",.ref q1)]):=by rw [ae];rfl
    generalize upd H6 p (.ins CS dx (putF "rest_costs" (.ref q1) [("strand",.ref sA),("size",.int s.length),("prices",.ref pA),("rows",.ref D1),("arcs",.ref D2)]))=H7 at g7 e7 ⊢
    have g57:Grown p H5 H7:=(Grown.of_same s6).trans g7
    have pq1:q1≠p:=fun e=>by rw [e,e5] at fq1;cases fq1
    have dq7:=g7 _ _ dq1 pq1
    refine cy (x:=1) (n:=s.length+1) (fun Q' q=>q) (fun H' Q' _ q=>⟨_,rfl,_,_,rfl,rfl,q⟩) (by omega) (fun H8 q2 s8 fq2 dq2=>⟨_,rfl,p,CS,dx,_,rfl,s8 _ _ e7,FC.S.cl,FC.S.no 6 _ rfl,(by show 6<1000;decide),?_⟩)
    have g9:Grown p H8 (upd H8 p (.ins CS dx (putF "rest_ways" (.ref q2) [("strand",.ref sA),("size",.int s.length),("prices",.ref pA),("rows",.ref D1),("arcs",.ref D2),("rest_costs",.ref q1)]))):=Grown.upd
    have e9:(upd H8 p (.ins CS dx (putF "rest_ways" (.ref q2) [("strand",.ref sA),("size",.int s.length),("prices",.ref pA),("rows",.ref D1),("arcs",.ref D2),("rest_costs",.ref q1)]))) p=some (.ins CS dx (srF sA s.length pA D1 D2 q1 q2)):=by rw [ae];rfl
    dsimp only
    generalize upd H8 p (.ins CS dx (putF "rest_ways" (.ref q2) [("strand",.ref sA),("size",.int s.length),("prices",.ref pA),("rows",.ref D1),("arcs",.ref D2),("rest_costs",.ref q1)]))=H9 at g9 e9 ⊢
    have g79:Grown p H7 H9:=(Grown.of_same s8).trans g9
    have g59:Grown p H5 H9:=g57.trans g79
    have pq2:q2≠p:=fun e=>by rw [e,e7] at fq2;cases fq2
    have o9:Same H0 H9:=fun b u e=>g59 b u (o5 b u e) (fun q=>by rw [q,hp0] at e;cases e)
    have o7:Same H0 H7:=fun b u e=>g57 b u (o5 b u e) (fun q=>by rw [q,hp0] at e;cases e)
    have n1:D1≠q1:=fun e=>by rw [e,fq1] at hD1';cases hD1'
    have n2:D2≠q1:=fun e=>by rw [e,fq1] at hD2';cases hD2'
    have n3:D1≠q2:=fun e=>by have:=g57 _ _ hD1' (Ne.symm pD1);rw [e,fq2] at this;cases this
    have n4:D2≠q2:=fun e=>by have:=g57 _ _ hD2' (Ne.symm pD2);rw [e,fq2] at this;cases this
    have n5:q1≠q2:=fun e=>by rw [e,fq2] at dq7;cases dq7
    have adn:∀t,Part (s.length+2) s.length t->L.ad t∉[p,D1,D2,q1,q2]:=fun t ht=>by
     have h1:=nf t ht
     simp only [List.mem_cons,List.not_mem_nil,or_false,not_or] at h1 ⊢
     have h2:=hP5.at_ t ht
     refine⟨h1.1,h1.2.1,h1.2.2,fun e=>(by rw [e,fq1] at h2;cases h2),fun e=>?_⟩
     have:=g57 _ _ h2 h1.1
     rw [e,fq2] at this;cases this
    have hP9:PartAt H0 H9 L (Fs.Sr.new s.length z.far) (L.n+2) L.n:=by
     rw [rfl']
     exact⟨hP5.inj,fun t ht=>g59 _ _ (hP5.at_ t ht) (fun e=>adn t ht (by simp [e])),hP5.new⟩
    have:=SrAt.of_parts (dx:=dx) (sa:=p) (d1:=D1) (d2:=D2) (q1:=q1) (q2:=q2) hP9 o9 (by rw [lc1,ls,lp,rfl'];exact e9) (by rw [rfl'];exact g59 _ _ hD1' (Ne.symm pD1)) (by rw [rfl'];exact g59 _ _ hD2' (Ne.symm pD2))
     (g79 _ _ dq7 pq1) (g9 _ _ dq2 pq2) (by
      simp only [List.nodup_cons,List.mem_cons,List.not_mem_nil,or_false,not_or,List.nodup_nil,and_true,not_false_eq_true]
      exact⟨⟨pD1,pD2,Ne.symm pq1,Ne.symm pq2⟩,⟨D12,n1,n3⟩,⟨n2,n4⟩,n5⟩) (by
      simp only [List.forall_mem_cons]
      exact⟨hp0,f1,f2,o5.free fq1,o7.free fq2,by simp⟩) (by rw [rfl'];exact adn)
    refine k H9 _ ?_ ?_ ?_ ?_ ?_ ?_ ?_ this
    ·exact lc1
    ·exact lc2
    ·exact lc3
    ·exact rfl'
    ·exact ls
    ·exact lp
    ·rfl
end
end Pg
end
section
namespace Pg
open Fs T
structure Wok(p:Prc):Prop where
 w1:1<=p.weight
 w2:p.weight<=8^64
 mrk:p.mark=none\/∃l r:Nat,p.mark=some ((l:Int),(r:Int))
theorem me{s:List Int}{p:Prc}(h:Wok p)(i:Nat)(t:T):1<=wt (zOf s p) i t/\wt (zOf s p) i t<=p.weight:=by
 have h1:=h.w1
 rcases h.mrk with e |⟨l,r,e⟩
 ·rw [ku (z:=zOf s p) (fun a b=>by show (if p.mark=_ then _ else _)=_;rw [e,if_neg (by simp)])]
  omega
 ·have hw:∀a b,(zOf s p).wf a b=if (a,b)=(l,r) then p.weight else 1:=fun a b=>by
   show (if p.mark=some ((a:Int),(b:Int)) then p.weight else 1)=_
   rw [e]
   by_cases q:(a,b)=(l,r)
   ·injection q with q1 q2
    subst q1 q2
    rw [if_pos rfl,if_pos rfl]
   ·rw [if_neg q,if_neg]
    intro z
    injection z with z
    injection z with z1 z2
    exact q (by rw [show a=l by omega,show b=r by omega])
  by_cases q:(l,r)∈pl i t
  ·rw [gc hw q];omega
  ·rw [dP hw q];omega
theorem rZ{W:Int}(hW:0<=W)(c:Int):∀(l:List (Int × Int)),(∀x∈l,x.2<=W)->cnt c l<=l.length*W
 |[],_=>by simp [cnt]
 |x::l,h=>by
  have ih:=rZ hW c l fun y hy=>h y (by simp [hy])
  have h1:=h x (by simp)
  simp only [cnt,List.length_cons]
  rw [show ((l.length+1:Nat):Int)=(l.length:Int)+1 by omega,Int.add_mul]
  split <;> omega
theorem oO{L:List T}{m:Nat}(nd:L.Nodup)(h:∀t∈L,t.len=m):L.length<=3^m:=by
 have e:(L.map rowOf).length<=(rows3 m).length:=by
  refine eF (b8 nd fun x _ y _ e=>gN e) fun f hf=>?_
  obtain⟨t,ht,rfl⟩:=List.mem_map.mp hf
  have:=gu (rowOf t) (cM t)
  rw [bI,h t ht] at this
  exact this
 rw [List.length_map,gB] at e
 exact e
theorem qY{v W:Int}{n m:Nat}(h0:0<=v)(h1:v<=n*W)(hn:n<=3^m)(hm:m<=100)(hW:0<=W)(hW2:W<=8^64):L3.Sml v:=by
 have a:(n:Int)<=3^100:=by
  have h2:3^m<=3^100:=Nat.pow_le_pow_right (by omega) hm
  have h3:((3^100:Nat):Int)=(3:Int)^100:=by decide+kernel
  rw [<-h3];omega
 have b:(n:Int)*W<=3^100*8^64:=Int.mul_le_mul a hW2 hW (by decide+kernel)
 have c:(3:Int)^100*8^64<2^1000:=by decide+kernel
 have d:-((2:Int)^1000)<0:=by decide+kernel
 exact⟨Int.lt_of_lt_of_le d h0,Int.lt_of_le_of_lt h1 (Int.lt_of_le_of_lt b c)⟩
theorem kU{far b W:Int}{P:T->Prop}{c w:T->Int}{v:Int × Int}(h:Is far b P c w v){m:Nat}(hm:m<=100)(hl:∀t,P t->t.len=m)(hw:∀t,P t->w t<=W)(hW:0<=W)(hW2:W<=8^64):L3.Sml v.2:=by
 have h0:=h.ways_nonneg
 obtain⟨L,e,sm⟩:=h
 have hn:L.length<=3^m:=oO e.nd fun t ht=>hl t ((e.mem t).mp ht)
 refine qY h0 (n:=L.length) ?_ hn hm hW hW2
 by_cases q:(L.map fun t=>(c t,w t))=[]
 ·rw [(sm.em q).1]
  exact Int.mul_nonneg (by omega) hW
 ·rw [sm.ct q]
  have:=rZ hW v.1 (L.map fun t=>(c t,w t)) (fun x hx=>by
   obtain⟨t,ht,rfl⟩:=List.mem_map.mp hx
   exact hw t ((e.mem t).mp ht))
  rwa [List.length_map] at this
section
variable {s:List Int}{p:Prc}{A:Int}
theorem vv(h:Wok p)(l:Nat)(a:T):wcl (zOf s p) l a<=p.weight:=by
 rw [<-mE];exact (me h l (.pr a .nil)).2
theorem w0(h:Wok p):0<=p.weight:=by have:=h.w1;omega
theorem n9(h:Wok p)(hs:s.length<=100){l r:Nat}(hr:r<s.length){v:Int × Int}(q:PIs s p A l r v):L3.Sml v.2:=
 kU q (m:=r-l-1) (by omega) (fun t ht=>by have:=ht.2.1;omega) (fun t _=>vv h l t) (w0 h) h.w2
theorem iB(h:Wok p):L3.Sml p.weight:=by
 have c:(8:Int)^64<2^1000:=by decide+kernel
 have d:-((2:Int)^1000)<0:=by decide+kernel
 exact⟨Int.lt_of_lt_of_le d (w0 h),Int.lt_of_le_of_lt h.w2 c⟩
theorem ik{row:Nat->Row}{L r:Nat}{a:Arcs}(h:ArcOk s row L r a):a.cs.length=a.pl.length/\a.ws.length=a.pl.length/\a.pl.length<=s.length+2:=by
 obtain⟨ps,nd,mem,e1,e2,e3⟩:=h
 rw [e1,e2,e3]
 simp only [List.length_map]
 refine⟨trivial,trivial,?_⟩
 have:=eF (r:=List.range (s.length+2)) nd (fun q hq=>List.mem_range.mpr ((mem q).mp hq).2.1)
 rwa [List.length_range] at this
theorem k9(G:Gz s p A){l:Nat}{S:Sr}(h:Mid s p A l S)(rl:RowLen s.length (S.row l)):Dom s.length l S:=by
 refine⟨h.nrows,h.narcs,h.nrc,h.nrw,fun k hk=>?_,fun r hr=>(ik (h.arcs r hr)).1,fun r hr=>(ik (h.arcs r hr)).2.1,fun r hr=>(ik (h.arcs r hr)).2.2,fun r hr x hx=>?_⟩
 ·by_cases e:k<l
  ·rw [h.todo k e];exact dD _ _
  ·by_cases e2:k=l
   ·subst e2;exact rl
   ·exact (h.done k (by omega) hk).len
 ·obtain⟨ps,nd,mem,e1,e2,e3⟩:=h.arcs r hr
  rw [e1] at hx
  obtain⟨q,hq,rfl⟩:=List.mem_map.mp hx
  obtain⟨a,b,c⟩:=(mem q).mp hq
  have:=PIs.pos_al G ((h.done q (by omega) b).pr r hr) c
  omega
theorem rN(G:Gz s p A)(hb:p.tab.both.length=100)(hs:s.length<=100)(hw:Wok p){l:Nat}{S:Sr}(h:Mid s p A l S)(h0:S.row l=Row.new s.length p.far):PairMul s p S l:=by
 intro i hi c
 have q:=mN G hb hs h h0 i (by omega)
 have hal:alOf s l (l+4+i):=⟨by omega,hi,c⟩
 have w1:=mw G (r:=l+4+i) (by omega) hi h q.win
 have s1:=uB (r:=l+4+i) (by omega) q.sh
 have n1:=oH G hal h
 have n2:=jW G hb hal hs h s1 w1 n1
 refine L3.cD ?_ (iB hw)
 exact kU n2 (m:=l+4+i-l-1) (by omega) (fun t ht=>by have:=ht.2.1;omega) (fun t _=>(me hw _ t).2) (w0 hw) hw.w2
theorem qU(G:Gz s p A)(hs:s.length<=100)(hw:Wok p){l:Nat}{S:Sr}(h:Mid2 s p A l S):ManyMul s p S l:=by
 intro i hi j z hz
 have q:=nh G h i (by omega)
 obtain⟨ps,nd,mem,e1,e2,e3⟩:=h.mid.arcs (l+4+i) hi
 rw [e1,List.getElem?_map] at hz
 cases e:ps[j]? with
 |none=>rw [e] at hz;cases hz
 |some k=>
  rw [e] at hz
  have hz:(k:Int)-1=z:=Option.some.inj hz
  obtain⟨a,b,c⟩:=(mem k).mp (List.mem_of_getElem? e)
  have hk:=PIs.pos_al G ((h.mid.done k (by omega) b).pr (l+4+i) hi) c
  have g1:Fs.g (S.arc (l+4+i)).ws j=Fs.g (S.row k).pw (l+4+i):=by
   rw [e3]
   unfold Fs.g
   rw [List.getD_eq_getElem?_getD,List.getElem?_map,e];rfl
  rw [g1]
  refine L3.cD ?_ (n9 hw hs hi ((h.mid.done k (by omega) b).pr (l+4+i) hi))
  have so:=q.so z.toNat (by omega) (by omega) (by omega)
  exact kU so (m:=z.toNat+1-l) (by omega) (fun t ht=>by have:=ht.2.1;omega) (fun t _=>(me hw _ t).2) (w0 hw) hw.w2
theorem qH(G:Gz s p A)(hs:s.length<=100)(hw:Wok p){l:Nat}{S:Sr}(h:Mid3 s p A l S):RestMul s S l:=by
 intro i hi
 refine L3.cD (n9 hw hs hi (h.row.pr (l+4+i) hi)) ?_
 have:=h.mid.rest (l+4+i+1) (by omega) (by omega)
 exact kU this (m:=s.length-(l+4+i+1)) (by omega) (fun t ht=>by have:=ht.2;omega) (fun t _=>(me hw _ t).2) (w0 hw) hw.w2
theorem rA(G:Gz s p A)(hb:p.tab.both.length=100)(hs:s.length<=100)(hw:Wok p){l:Nat}(hl:l<s.length){S:Sr}(h:SrInv s p A (l+1) S):TurnOk s p l S:=by
 obtain⟨m1,z1⟩:=gQ G hl h
 have m2:=fX G hb hs hl m1 z1
 have m3:=gT G hl m2
 have m4:=gP G hl m3
 refine⟨h.nrows,h.narcs,(h.done (l+2) (by omega) (by omega)).len,fun r hr=>?_,k9 G m1 (by rw [z1];exact dD _ _),rN G hb hs hw m1 z1,k9 G m2.mid m2.len,qU G hs hw m2,k9 G m3.mid m3.row.len,qH G hs hw m3,m4.nrc,m4.nrw⟩
 have:=ik (h.arcs r hr)
 omega
theorem pX(G:Gz s p A)(hb:p.tab.both.length=100)(hs:s.length<=100)(hw:Wok p):∀i,i<s.length->TurnOk s p (s.length-1-i) (turns s p i (Sr.new s.length p.far)):=fun i hi=>by
 have:=iG G hb hs i (by omega)
 rw [show s.length-i=s.length-1-i+1 by omega] at this
 exact rA G hb hs hw (by omega) this
end
end Pg
end
section
namespace Pg
open PySem PySem.Spec PyProof.Rows L2 L3
section
open Fs T
theorem sH{W:Int}:∀(l:List Int),(∀x∈l,0<=x/\x<=W)->0<=l.sum/\l.sum<=l.length*W
 |[],_=>by simp
 |x::l,h=>by
  have ih:=sH l fun y hy=>h y (by simp [hy])
  have h1:=h x (by simp)
  simp only [List.sum_cons,List.length_cons]
  rw [show ((l.length+1:Nat):Int)=(l.length:Int)+1 by omega,Int.add_mul]
  omega
theorem rH{W:Int}{P:T->Prop}{w:T->Int}{v:Int}(h:Ct P w v){m:Nat}(hm:m<=100)(hl:∀t,P t->t.len=m)(hw:∀t,P t->0<=w t/\w t<=W)(hW:0<=W)(hW2:W<=8^64):L3.Sml v:=by
 obtain⟨L,e,rfl⟩:=h
 have hn:L.length<=3^m:=oO e.nd fun t ht=>hl t ((e.mem t).mp ht)
 have:=sH (W:=W) (L.map w) (fun x hx=>by
  obtain⟨t,ht,rfl⟩:=List.mem_map.mp hx
  exact hw t ((e.mem t).mp ht))
 rw [List.length_map] at this
 exact qY this.1 this.2 hn hm hW hW2
structure AllOk(s:List Int)(mark:Option (Int × Int))(weight:Int)(l r:Nat)(st:Ast):Prop where
 nrows:st.rows.length=s.length+1
 narcs:st.arcs.length=s.length
 len:∀k,k<=s.length->(st.rows.getD k []).length=s.length+1
 al:(st.arcs.getD r []).length<=200
 m1:IntMulOk (g (st.rows.getD (l+1) []) r) weight
 al2:((bE s mark weight l r st).arcs.getD r []).length<=200
 m2:∀x∈(bE s mark weight l r st).arcs.getD r [],0<=x.1/\x.1<=s.length/\IntMulOk (g (st.rows.getD l []) x.1.toNat) x.2
theorem sS{s:List Int}{z:Pz}{L r:Nat}{a:List (Int × Int)}(h:AcOk s z L r a):a.length<=s.length:=by
 obtain⟨ps,cv,nd,mem,hc,rfl⟩:=h
 rw [List.length_map]
 have:=eF (r:=List.range s.length) nd (fun q hq=>List.mem_range.mpr (by have:=((mem q).mp hq).2;have:=this.1;have:=this;have h2:=((mem q).mp hq).2.2.1;omega))
 rwa [List.length_range] at this
theorem tU{s:List Int}{mark:Option (Int × Int)}{weight:Int}(hw:Wok (aO [] s mark weight))(hs:s.length<=100){l r:Nat}{st:Ast}(hr:l+4<=r)(hn:r<s.length)(h:AsOk s (zOf s (aO [] s mark weight)) l r st):AllOk s mark weight l r st:=by
 have hz:∀l r,(zOf s (aO [] s mark weight)).wf l r=if mark=some ((l:Int),(r:Int)) then weight else 1:=fun _ _=>rfl
 have h2:=jj hz hr hn h
 have w2:=hw.w2
 have w0:=w0 hw
 have wt0:∀(i:Nat) (t:T),0<=wt (zOf s (aO [] s mark weight)) i t/\wt (zOf s (aO [] s mark weight)) i t<=weight:=fun i t=>by
  have:=me (s:=s) hw i t
  exact⟨by omega,this.2⟩
 have wc0:∀(i:Nat) (t:T),0<=wcl (zOf s (aO [] s mark weight)) i t/\wcl (zOf s (aO [] s mark weight)) i t<=weight:=fun i t=>by
  rw [<-mE];exact wt0 i _
 have sx:∀(k e:Nat) (v:Int),e<=s.length->Ct (Sx (alOf s) k e) (wt (zOf s (aO [] s mark weight)) k) v->L3.Sml v:=fun k e v he hv=>
  rH hv (m:=e-k) (by omega) (fun t ht=>by have:=ht.2;omega) (fun t _=>wt0 k t) w0 w2
 refine⟨h.nrows,h.narcs,h.len,?_,?_,?_,fun x hx=>?_⟩
 ·have:=sS (h.arcs r hn);omega
 ·exact L3.cD (sx _ _ _ (by omega) (h.done (l+1) r (by omega) (by omega) (by omega))) (iB hw)
 ·have:=sS (h2.arcs r hn);omega
 ·have ha:=h2.arcs r hn
  rw [if_pos (by omega)] at ha
  obtain⟨ps,cv,nd,mem,hc,e⟩:=ha
  rw [e] at hx
  obtain⟨q,hq,rfl⟩:=List.mem_map.mp hx
  obtain⟨q1,q2⟩:=(mem q).mp hq
  have q3:=q2.1
  refine⟨by simp,by simp only;omega,?_⟩
  simp only [Int.toNat_natCast]
  refine L3.cD (sx _ _ _ (by omega) (h.row q q1 (by omega) (by omega))) ?_
  exact rH (hc q hq) (m:=r-q-1) (by omega) (fun t ht=>by have:=ht.2.1;omega) (fun t _=>wc0 q t) w0 w2
theorem as0{s:List Int}{z:Pz}{l:Nat}{st:Ast}(h:AtOk s z (l+1) st)(hl:l<s.length):AsOk s z l (l+4) st:=by
 refine⟨h.nrows,h.narcs,h.len,fun k e h1 h2 h3=>h.done k e h1 h2 h3,fun e h1 h2 h3=>?_,fun k hk=>h.todo k (by omega),fun k hk=>?_⟩
 ·rw [h.todo l (by omega),aR _ _ _ (by omega)]
  exact jc l e h1 h2
 ·obtain⟨ps,cv,nd,mem,hc,ea⟩:=h.arcs k hk
  split
  ·refine⟨ps,cv,nd,fun q=>?_,hc,ea⟩
   rw [mem]
   constructor
   ·rintro⟨a,b⟩;exact⟨by omega,b⟩
   ·rintro⟨a,b⟩
    have:=b.1
    omega
  ·exact⟨ps,cv,nd,mem,hc,ea⟩
def all0(n:Nat):Ast:=⟨List.replicate (n+1) (List.replicate (n+1) 1),List.replicate n []⟩
theorem ur{s:List Int}{mark:Option (Int × Int)}{weight:Int}(hw:Wok (aO [] s mark weight))(hs:s.length<=100)(k:Nat)(hk:k<s.length)(i:Nat)(hi:s.length-1-k+4+i<s.length):
  AllOk s mark weight (s.length-1-k) (s.length-1-k+4+i) (iter (bE s mark weight (s.length-1-k)) (s.length-1-k+4) i (bA s mark weight k (all0 s.length))):=by
 have hz:∀l r,(zOf s (aO [] s mark weight)).wf l r=if mark=some ((l:Int),(r:Int)) then weight else 1:=fun _ _=>rfl
 have h:=dQ (s:=s) hz k (by omega)
 have h0:AsOk s (zOf s (aO [] s mark weight)) (s.length-1-k) (s.length-1-k+4) (bA s mark weight k (all0 s.length)):=by
  rw [show s.length-k=s.length-1-k+1 by omega] at h
  exact as0 h (by omega)
 exact tU hw hs (by omega) hi (ej hz h0 i (by omega))
end
def allA(Ra Aa:Addr)(ra ar:List Addr):List Addr:=Ra::Aa::(ra++ar)
inductive F2(R:Addr->Int × Int->Prop):List Addr->List (Int × Int)->Prop
 |nil:F2 R [] []
 |cons {a:Addr} {x:Int × Int} {l:List Addr} {m:List (Int × Int)}:R a x->F2 R l m->F2 R (a::l) (x::m)
structure AfAt(H0 H:Hp)(n:Nat)(Ra Aa:Addr)(ra ar:List Addr)(st:Fs.Ast):Prop where
 old:Same H0 H
 nra:ra.length=n+1
 nar:ar.length=n
 nd:(allA Ra Aa ra ar).Nodup
 fr:∀a∈allA Ra Aa ra ar,H0 a=none
 rs:H Ra=some (.lst (ra.map V.ref))
 as:H Aa=some (.lst (ar.map V.ref))
 row:∀i a,ra[i]?=some a->H a=some (.lst (vi (st.rows.getD i [])))
 arc:∀j a,ar[j]?=some a->∃ts:List Addr,H a=some (.lst (ts.map V.ref))/\F2 (fun t x=>Tup2 H t x) ts (st.arcs.getD j [])
section
variable {H0 H H':Hp}{n:Nat}{Ra Aa:Addr}{ra ar:List Addr}{st:Fs.Ast}
theorem eP{R S:Addr->Int × Int->Prop}(h:∀a x,R a x->S a x):∀{l:List Addr} {m:List (Int × Int)},F2 R l m->F2 S l m
 |_,_,.nil=>.nil
 |_,_,.cons a b=>.cons (h _ _ a) (eP h b)
theorem mU{R:Addr->Int × Int->Prop}:∀{l:List Addr} {m:List (Int × Int)},F2 R l m->l.length=m.length
 |_,_,.nil=>rfl
 |_,_,.cons a b=>by simp [mU b]
theorem oE{R:Addr->Int × Int->Prop}{a:Addr}{x:Int × Int}:∀{l:List Addr} {m:List (Int × Int)},F2 R l m->R a x->F2 R (l++[a]) (m++[x])
 |_,_,.nil,h=>.cons h .nil
 |_,_,.cons a b,h=>.cons a (oE b h)
theorem rE{R:Addr->Int × Int->Prop}:∀{l:List Addr} {m:List (Int × Int)} {i:Nat} {a:Addr},F2 R l m->l[i]?=some a->∃x,m[i]?=some x/\R a x
 |_,_,i,a,.nil,h=>by simp at h
 |_,_,0,a,@F2.cons _ _ x _ _ h _,e=>by
  simp only [List.getElem?_cons_zero,Option.some.injEq] at e
  subst e
  exact⟨x,rfl,h⟩
 |_,_,i+1,a,.cons _ h,e=>by
  simp only [List.getElem?_cons_succ] at e ⊢
  exact rE h e
theorem AfAt.same(h:AfAt H0 H n Ra Aa ra ar st)(s:Same H H'):AfAt H0 H' n Ra Aa ra ar st:=
 ⟨h.old.trans s,h.nra,h.nar,h.nd,h.fr,s _ _ h.rs,s _ _ h.as,fun i a e=>s _ _ (h.row i a e),fun j a e=>by
  obtain⟨ts,q1,q2⟩:=h.arc j a e
  exact⟨ts,s _ _ q1,eP (fun _ _ z=>s _ _ z) q2⟩⟩
theorem qw{i:Nat}(h:AfAt H0 H n Ra Aa ra ar st)(hi:i<=n):∃a,ra[i]?=some a:=⟨ra[i]'(by rw [h.nra];omega),List.getElem?_eq_getElem _⟩
theorem vL{i:Nat}(h:AfAt H0 H n Ra Aa ra ar st)(hi:i<n):∃a,ar[i]?=some a:=⟨ar[i]'(by rw [h.nar];omega),List.getElem?_eq_getElem _⟩
theorem rL{α:Type}{l:List α}(nd:l.Nodup){i j:Nat}{a:α}(hi:l[i]?=some a)(hj:l[j]?=some a):i=j:=by
 have h1:=List.getElem?_eq_some_iff.mp hi
 have h2:=List.getElem?_eq_some_iff.mp hj
 obtain⟨p,rfl⟩:=h1
 obtain⟨q,e⟩:=h2
 exact ((List.getElem_inj nd).mp e).symm
structure AfD(Ra Aa:Addr)(ra ar:List Addr):Prop where
 da:ra.Nodup
 db:ar.Nodup
 x:∀a∈ra,a∉ar
 r1:Ra≠Aa
 r2:Ra∉ra
 r3:Ra∉ar
 a2:Aa∉ra
 a3:Aa∉ar
theorem AfAt.ds(h:AfAt H0 H n Ra Aa ra ar st):AfD Ra Aa ra ar:=by
 have:=h.nd
 unfold allA at this
 simp only [List.nodup_cons,List.mem_cons,List.mem_append,not_or,List.nodup_append] at this
 obtain⟨⟨a,b,c⟩,⟨d,e⟩,f,g,i⟩:=this
 exact⟨f,g,fun x hx hy=>i x hx x hy rfl,a,b,c,d,e⟩
theorem ip{t a:Addr}{x:Int × Int}{xs:List V}(h:Tup2 H t x)(e:H a=some (.lst xs)):t≠a:=fun z=>by
 have h':H t=some (.tup _):=h
 rw [z,e] at h';cases h'
theorem AfAt.setRow(h:AfAt H0 H n Ra Aa ra ar st){l:Nat}{a:Addr}(e:ra[l]?=some a)(hl:l<st.rows.length)(R:List Int):AfAt H0 (upd H a (.lst (vi R))) n Ra Aa ra ar ⟨st.rows.set l R,st.arcs⟩:=by
 have d:=h.ds
 have hm:a∈ra:=List.mem_of_getElem? e
 have h0:=h.fr a (by unfold allA;simp [hm])
 have ha:=h.row l a e
 refine⟨fun b u q=>?_,h.nra,h.nar,h.nd,h.fr,?_,?_,fun i b q=>?_,fun j b q=>?_⟩
 ·exact ai (h.old b u q) (fun z=>by rw [z,h0] at q;cases q)
 ·exact ai h.rs (fun z=>d.r2 (z ▸ hm))
 ·exact ai h.as (fun z=>d.a2 (z ▸ hm))
 ·show _=some (HO.lst (vi ((st.rows.set l R).getD i [])))
  by_cases c:i=l
  ·subst c
   have:b=a:=by rw [e] at q;exact (Option.some.inj q).symm
   subst this
   rw [ae]
   simp [List.getD_eq_getElem?_getD,hl]
  ·rw [ai (h.row i b q) (fun (z:b=a)=>c (rL d.da (z ▸ q) e))]
   simp [List.getD_eq_getElem?_getD,List.getElem?_set_ne (Ne.symm c)]
 ·obtain⟨ts,q1,q2⟩:=h.arc j b q
  have hb:b≠a:=fun z=>d.x a hm (z ▸ List.mem_of_getElem? q)
  exact⟨ts,ai q1 hb,eP (fun t x z=>ai z (ip z ha)) q2⟩
theorem AfAt.putArc(h:AfAt H0 H n Ra Aa ra ar st){r:Nat}{a t:Addr}{x:Int × Int}{ts:List Addr}(e:ar[r]?=some a)(hr:r<st.arcs.length)(ht:Tup2 H t x)(ha:H a=some (.lst (ts.map V.ref)))(hts:F2 (fun t x=>Tup2 H t x) ts (st.arcs.getD r [])):
  AfAt H0 (upd H a (.lst (ts.map V.ref++[.ref t]))) n Ra Aa ra ar ⟨st.rows,st.arcs.set r ((st.arcs.getD r [])++[x])⟩:=by
 have d:=h.ds
 have hm:a∈ar:=List.mem_of_getElem? e
 have h0:=h.fr a (by unfold allA;simp [hm])
 refine⟨fun b u q=>?_,h.nra,h.nar,h.nd,h.fr,?_,?_,fun i b q=>?_,fun j b q=>?_⟩
 ·exact ai (h.old b u q) (fun z=>by rw [z,h0] at q;cases q)
 ·exact ai h.rs (fun z=>d.r3 (z ▸ hm))
 ·exact ai h.as (fun z=>d.a3 (z ▸ hm))
 ·exact ai (h.row i b q) (fun z=>d.x b (List.mem_of_getElem? q) (z ▸ hm))
 ·show ∃ts',_/\F2 _ ts' ((st.arcs.set r ((st.arcs.getD r [])++[x])).getD j [])
  by_cases c:j=r
  ·subst c
   have:b=a:=by rw [e] at q;exact (Option.some.inj q).symm
   subst this
   refine⟨ts++[t],by rw [ae,List.map_append];rfl,?_⟩
   rw [show (st.arcs.set j ((st.arcs.getD j [])++[x])).getD j []=st.arcs.getD j []++[x] by simp [List.getD_eq_getElem?_getD,hr]]
   exact oE (eP (fun t x z=>ai z (ip z ha)) hts) (ai ht (ip ht ha))
  ·obtain⟨ts',q1,q2⟩:=h.arc j b q
   rw [show (st.arcs.set r ((st.arcs.getD r [])++[x])).getD j []=st.arcs.getD j [] by simp [List.getD_eq_getElem?_getD,List.getElem?_set_ne (Ne.symm c)]]
   exact⟨ts',ai q1 (fun (z:b=a)=>c (rL d.db (z ▸ q) e)),eP (fun t x z=>ai z (ip z ha)) q2⟩
end
end Pg
end
section
namespace Pg
open PySem PySem.Spec PyProof.Rows L2 L3
section
variable {P:Program}{w:World}{K:PySem.W.Frag}{mg:Str->Option Value}{base:Heap}{aS aL aG CS CR CA CP CT CW:Addr}
abbrev sWgt:Stmt:=top 23
def spWgt:Sp:=fun vs H Q _=>vs=[]/\Q (.int Fs.WEIGHT) H
theorem scWgt:aB [] [] (ax sWgt):=⟨rfl,rfl,rfl,by decide+kernel,rfl,by decide+kernel,by decide+kernel⟩
theorem uL{f:Addr}{fd:FuncData}(F:Fun K "weight_of_mark" "weight_of_mark" sWgt f fd):FnOk P w K mg base CX0 1 f fd [] spWgt:=by
 refine F.ok scWgt (fun vs H Q E h=>?_) (fun cdv A outer s H vs Q E hr h=>?_)
 ·obtain⟨rfl,_⟩:=h
  rfl
 ·obtain⟨rfl,k⟩:=h
  refine⟨_,ak (aC (ao uX af af)),?_⟩
  exact⟨_,_,rfl,rfl,⟨by decide,by decide,by decide⟩,k⟩
abbrev sAll:Stmt:=top 24
inductive ox(K:PySem.W.Frag)(vs:List V)(H:Hp)(Q:VK):Prop
 |mk:∀(sA:Addr) (m:V) (s:List Int) (mark:Option (Int × Int)) (weight:Int),(vs=[.ref sA,m,.int weight])->(SqL K H sA (vi s))->(1<=s.length)->(s.length<=100)->(MarkAt H m mark)->(Wok (Fs.aO [] s mark weight))->(∀H':Hp,Same H H'->Q (.int (Fs.allFolds s mark weight)) H')->ox K vs H Q
def spAll(K:PySem.W.Frag):Sp:=fun vs H Q _=>ox K vs H Q
theorem scAll:aB ["strand","mark","weight","size","left","rows","right","arcs","row","within","start","ways"] ["strand","mark","weight"] (ax sAll):=⟨rfl,rfl,rfl,by decide+kernel,rfl,by decide+kernel,by decide+kernel⟩
structure Many(H H':Hp)(D:Addr)(as:List Addr)(o:HO):Prop where
 sm:Same H H'
 nd:as.Nodup
 fr:∀a∈as,H a=none
 at_:∀a∈as,H' a=some o
 d:D∉as
 l:H' D=some (.lst (as.map V.ref))
theorem Many.zero{H:Hp}{D:Addr}{o:HO}(h:H D=none):Many H (upd H D (.lst [])) D [] o:=⟨aj h,by simp,by simp,by simp,by simp,ae⟩
theorem Many.put{H H' H2:Hp}{D q:Addr}{as:List Addr}{o:HO}(h:Many H H' D as o)(hD:H D=none)(s:Same H' H2)(hq:H' q=none)(ho:H2 q=some o):Many H (upd H2 D (.lst (as.map V.ref++[.ref q]))) D (as++[q]) o:=by
 have qD:q≠D:=fun e=>by rw [e,h.l] at hq;cases hq
 refine⟨fun b u e=>?_,?_,fun a ha=>?_,fun a ha=>?_,?_,?_⟩
 ·exact ai ((h.sm.trans s) b u e) (fun z=>by rw [z,hD] at e;cases e)
 ·rw [List.nodup_append]
  refine⟨h.nd,by simp,fun a ha b hb e=>?_⟩
  simp only [List.mem_singleton] at hb
  subst hb e
  rw [h.at_ a ha] at hq;cases hq
 ·rcases List.mem_append.mp ha with ha |ha
  ·exact h.fr a ha
  ·simp only [List.mem_singleton] at ha
   subst ha
   exact h.sm.free hq
 ·rcases List.mem_append.mp ha with ha |ha
  ·exact ai (s _ _ (h.at_ a ha)) (fun (z:a=D)=>h.d (z ▸ ha))
  ·simp only [List.mem_singleton] at ha
   subst ha
   exact ai ho qD
 ·simp only [List.mem_append,List.mem_singleton,not_or]
  exact⟨h.d,Ne.symm qD⟩
 ·rw [ae,List.map_append];rfl
theorem iI{l:List Addr}{i:Nat}{a:Addr}(h:l[i]?=some a):atI (l.map V.ref) (i:Int)=some (.ref a):=by
 refine h8 ?_
 rw [List.getElem?_map,h];rfl
theorem uo{l:List Addr}{z:Int}{i:Nat}{a:Addr}(e:z=(i:Int))(h:l[i]?=some a):atI (l.map V.ref) z=some (.ref a):=by rw [e];exact iI h
theorem ux{t u:TS}{D:Ends}{σ:L2.St}{H:Hp}(Pm:L2.St->Hp->Prop)(h1:∀N:L2.St->Hp->Prop,(∀σ H,Pm σ H->N σ H)->t {D with nx:=N} σ H)(h2:∀σ H,Pm σ H->u D σ H):tSeq t u D σ H:=h1 (u D) h2
theorem ok_all{f:Addr}{fd:FuncData}(F:Fun K "all_folds" "all_folds" sAll f fd)(T:Txt K mg aS aL aG)(FS:Fn P w K mg base 1 "sort_of" ["strand","left","right"] (spSortOf K)):FnOk P w K mg base CX0 2 f fd ["strand","mark","weight"] (spAll K):=by
 refine F.ok scAll (fun vs H Q E h=>?_) (fun cdv A outer s H vs Q E hr h=>?_)
 ·obtain⟨_,_,_,_,_,rfl,_⟩:=h
  rfl
 ·obtain⟨sA,m,s,mark,weight,rfl,hs,hn1,h100,hm,hw,k⟩:=h
  have nd:=scAll.nd
  refine⟨_,ab (aw (i:=3) nd rfl (Or.inr rfl) (bc aV rfl T.len PySem.boot_len (aa (pv 0) ag)))
   (ab (bW (i:=5) (own:=[("left",4)]) rfl nd rfl rfl (cu rfl rfl rfl rfl) (fb rfl T.range (aa (ao aF (pv 3) af) ag)) (bf (by kernel_rfl)) (fun _ _ _ _ _=>by exact bb (i:=4) nd rfl (Or.inl rfl)) (fun _ _ _ _ _=>by exact bG)
    (fun _ _ _ _ _=>by exact ao bT (aP (aa af ag)) (ao aF (pv 3) af)))
   (ab (bW (i:=7) (own:=[("right",6)]) rfl nd rfl rfl (cu rfl rfl rfl rfl) (fb rfl T.range (aa (pv 3) ag)) (bf (by kernel_rfl)) (fun _ _ _ _ _=>by exact bb (i:=6) nd rfl (Or.inl rfl)) (fun _ _ _ _ _=>by exact bG)
    (fun _ _ _ _ _=>by exact aP ag))
   (ab (de PassesOwn.never rfl (jZ rfl T.range (aa (ao aN (pv 3) af) (aa (cf bK af) (aa (cf bK af) ag)))) (bb (i:=4) nd rfl (Or.inl rfl))
    (ab (aw (i:=8) nd rfl (Or.inr rfl) (aq au (pv 5) (pv 4) (fun _ _=>rfl)))
    (ak (de PassesOwn.never rfl (dt rfl T.range (aa (ao aF (pv 4) (bh T.nearest)) (aa (pv 3) ag))) (bb (i:=6) nd rfl (Or.inl rfl))
     (ab (br (aK sC (aW FS hr (aa (pv 0) (aa (pv 4) (aa (pv 6) ag)))) af (aX _))
      (ab (aw (i:=9) nd rfl (Or.inl rfl) (aq au (aq au (pv 5) (ao aF (pv 4) af) (fun _ _=>rfl)) (pv 6) (fun _ _=>rfl)))
      (ak (bx (gb PySem.F.plainAttrs_list PySem.F.slot_list_append PySem.F.type_list_append cb (aq au (pv 7) (pv 6) (fun _ _=>rfl))
       (aa (b0 (aa (pv 4) (aa (iH (aK (sE hr.units) (b0 (aa (pv 4) (aa (pv 6) ag))) (pv 1) (aX _)) (ao fT (pv 9) (pv 2)) (pv 9)) ag))) ag)))))
      aQ)
     (ak (bY (ao aF (aq au (pv 8) (pv 6) (fun _ _=>rfl)) (bc (kZ rfl) rfl T.sum boot_sum (aa (gR (own:=[("start",10),("ways",11)]) rfl nd (cX (aq au (pv 7) (pv 6) (fun _ _=>rfl))) (bf (by kernel_rfl))
      (fun _ _ _ _ _=>by exact dz (i:=10) (j:=11) K rfl rfl nd rfl rfl (Or.inl rfl) (Or.inl rfl) (.inr rfl) (.inr rfl)) (fun _ _ _ _ _=>by exact bG)
      (fun _ _ _ _ _=>by exact ao fT (aq (cE K rfl) (pv 8) (pv 10) (fun _ _=>rfl)) (pv 11))) ag)))
      (bZ (pv 8) (ao aF (pv 6) af) set_list))))))))
   (ak (aC (aq au (aq au (pv 5) af (fun _ _=>rfl)) (pv 3) (fun _ _=>rfl))))))),?_⟩
  refine⟨_,rfl,sA,_,rfl,.inl hs,?_⟩
  rw [az]
  refine⟨_,rfl,_,_,rfl,rfl,_,rfl,by omega,by omega,fun D1 hD1=>?_⟩
  rw [show ((s.length:Int)+1).toNat=s.length+1 by omega]
  refine fZ (lo:=0) (n:=s.length+1) (fun i H'=>∃as:List Addr,as.length=i/\Many H H' D1 as (.lst (vi (List.replicate (s.length+1) 1)))) ⟨[],rfl,Many.zero hD1⟩ ?_ ?_
  ·rintro i H' hi ⟨as,hl,hM⟩
   refine⟨rfl,?_⟩
   refine kM (n:=s.length+1) (x:=1) (fun Q' q=>q) (fun H2 Q' _ q=>⟨_,rfl,_,_,rfl,rfl,q⟩) (by omega) (fun H2 q s2 hq ho=>?_)
   refine⟨_,s2 _ _ hM.l,small1000 (by rw [List.length_map];omega),as++[q],by simp [hl],hM.put hD1 s2 hq ho⟩
  rintro H1 ⟨ra,hra,hM1⟩
  refine⟨_,rfl,_,rfl,by omega,by omega,fun D2 hD2=>?_⟩
  rw [show ((s.length:Int)).toNat=s.length by omega]
  refine fZ (lo:=0) (n:=s.length) (fun i H'=>∃as:List Addr,as.length=i/\Many H1 H' D2 as (.lst [])) ⟨[],rfl,Many.zero hD2⟩ ?_ ?_
  ·rintro i H' hi ⟨as,hl,hM⟩
   refine⟨rfl,?_⟩
   refine⟨(by show 0<=sizeLine;decide),fun q hq=>?_⟩
   refine⟨_,(aj hq) _ _ hM.l,small1000 (by rw [List.length_map];omega),as++[q],by simp [hl],hM.put hD2 (aj hq) hq ae⟩
  rintro H2 ⟨ar,har,hM2⟩
  have hA:AfAt H H2 s.length D1 D2 ra ar (all0 s.length):=by
   have old:=hM1.sm.trans hM2.sm
   have e1:∀k,k<=s.length->(all0 s.length).rows.getD k []=List.replicate (s.length+1) 1:=fun k hk=>Fs.bp _ _ _ _ (by omega)
   have e2:∀k,k<s.length->(all0 s.length).arcs.getD k []=[]:=fun k hk=>Fs.bp _ _ _ _ (by omega)
   refine⟨old,hra,har,?_,?_,hM2.sm _ _ hM1.l,hM2.l,fun i a e=>?_,fun j a e=>⟨[],?_,?_⟩⟩
   ·unfold allA
    simp only [List.nodup_cons,List.mem_cons,List.mem_append,not_or,List.nodup_append]
    refine⟨⟨fun e=>?_,hM1.d,fun e=>?_⟩,⟨fun e=>?_,hM2.d⟩,hM1.nd,hM2.nd,fun a ha b hb e=>?_⟩
    ·rw [<-e,hM1.l] at hD2;cases hD2
    ·have:=hM2.fr _ e
     rw [hM1.l] at this;cases this
    ·have:=hM1.at_ _ e
     rw [hD2] at this;cases this
    ·have h1:=hM1.at_ _ ha
     have h2:=hM2.fr _ hb
     rw [<-e,h1] at h2;cases h2
   ·unfold allA
    simp only [List.mem_cons,List.mem_append]
    rintro a (rfl |rfl |ha |ha)
    ·exact hD1
    ·exact hM1.sm.free hD2
    ·exact hM1.fr a ha
    ·exact hM1.sm.free (hM2.fr a ha)
   ·have hi:=(List.getElem?_eq_some_iff.mp e).1
    rw [e1 i (by omega)]
    exact hM2.sm _ _ (hM1.at_ a (List.mem_of_getElem? e))
   ·exact hM2.at_ a (List.mem_of_getElem? e)
   ·have hj:=(List.getElem?_eq_some_iff.mp e).1
    rw [e2 j (by omega)]
    exact .nil
  have hk2:∀k,k<s.length->∀i,s.length-1-k+4+i<s.length->AllOk s mark weight (s.length-1-k) (s.length-1-k+4+i) (Fs.iter (Fs.bE s mark weight (s.length-1-k)) (s.length-1-k+4) i (Fs.bA s mark weight k (all0 s.length))):=fun k hk i hi=>ur hw h100 k hk i hi
  have hend:∀k,k<=s.length->(Fs.bA s mark weight k (all0 s.length)).rows.length=s.length+1/\∀j,j<=s.length->((Fs.bA s mark weight k (all0 s.length)).rows.getD j []).length=s.length+1:=fun k hk=>by
   have:=Fs.dQ (s:=s) (z:=Fs.zOf s (Fs.aO [] s mark weight)) (mark:=mark) (weight:=weight) (fun _ _=>rfl) k hk
   exact⟨this.nrows,this.len⟩
  clear hM1 hM2 hD1 hD2
  refine⟨_,rfl,_,_,rfl,rfl,_,rfl,_,rfl,_,_,_,s.length,rfl,?_,?_⟩
  ·have:=RgC.neg (i:=(s.length:Int)-1) (j:=-1) (by omega) (by omega) (by omega) (by omega)
   rw [show ((s.length:Int)-1-(-1)).toNat=s.length by omega] at this
   exact this
  refine iQ (lo:=(s.length:Int)-1) (c:=-1) (n:=s.length) (fun i σ H'=>∃v4 v6 v8 v9 v10 v11:Option V,σ=[some (.ref sA),some m,some (.int weight),some (.int s.length),v4,some (.ref D1),v6,some (.ref D2),v8,v9,v10,v11]/\AfAt H H' s.length D1 D2 ra ar (Fs.bA s mark weight i (all0 s.length))) ⟨_,_,_,_,_,_,rfl,hA⟩ ?_ ?_
  ·rintro i σ H' hi ⟨v4,v6,v8,v9,v10,v11,rfl,hA'⟩
   have tk:=hk2 i hi
   have hE:=hend i (by omega)
   have hst:Fs.bA s mark weight (i+1) (all0 s.length)=Fs.allRow s mark weight (s.length-1-i) (Fs.bA s mark weight i (all0 s.length)):=rfl
   have el:(s.length:Int)-1+(i:Nat)*(-1:Int)=((s.length-1-i:Nat):Int):=by omega
   rw [el]
   have hll:s.length-1-i<s.length:=by omega
   generalize s.length-1-i=l at tk hst hll
   generalize Fs.bA s mark weight i (all0 s.length)=st0 at hA' tk hst hE
   unfold Fs.allRow at hst
   obtain⟨al,hal⟩:=qw hA' (i:=l) (by omega)
   obtain⟨al1,hal1⟩:=qw hA' (i:=l+1) (by omega)
   refine⟨_,rfl,_,rfl,_,_,_,_,rfl,rfl,SqL.of hA'.rs,iI hal,?_⟩
   refine⟨_,rfl,_,_,rfl,rfl,_,rfl,_,_,rfl,by omega,?_⟩
   rw [show ((s.length:Int)-((l:Int)+4)).toNat=s.length-(l+4) by omega]
   refine dh (lo:=(l:Int)+4) (n:=s.length-(l+4)) (fun i σ H'=>∃v6 v9 v10 v11:Option V,σ=[some (.ref sA),some m,some (.int weight),some (.int s.length),some (.int l),some (.ref D1),v6,some (.ref D2),some (.ref al),v9,v10,v11]/\AfAt H H' s.length D1 D2 ra ar (Fs.iter (Fs.bE s mark weight l) (l+4) i st0)) ⟨_,_,_,_,rfl,hA'⟩ ?_ ?_
   ·rintro i σ H' hi ⟨v6,v9,v10,v11,rfl,hA'⟩
    have tk:=tk i (by omega)
    have hst:Fs.iter (Fs.bE s mark weight l) (l+4) (i+1) st0=Fs.bE s mark weight l (l+4+i) (Fs.iter (Fs.bE s mark weight l) (l+4) i st0):=rfl
    have er:(l:Int)+4+(i:Int)=((l+4+i:Nat):Int):=by omega
    rw [er]
    have hrn:l+4+i<s.length:=by omega
    have hlr:l<l+4+i:=by omega
    generalize l+4+i=r at tk hst hrn hlr
    generalize Fs.iter (Fs.bE s mark weight l) (l+4) i st0=st at hA' tk hst
    obtain⟨arr,harr⟩:=vL hA' hrn
    let A:=(Fs.bE s mark weight l r st).arcs
    have hAe:A=if Fs.aE s l r>=0 then st.arcs.set r ((st.arcs.getD r [])++[((l:Int),if some ((l:Int),(r:Int))=mark then Fs.g (st.rows.getD (l+1) []) r*weight else Fs.g (st.rows.getD (l+1) []) r)]) else st.arcs:=rfl
    refine ux (fun σ2 H2=>∃v9:Option V,σ2=[some (.ref sA),some m,some (.int weight),some (.int s.length),some (.int l),some (.ref D1),some (.int r),some (.ref D2),some (.ref al),v9,v10,v11]/\AfAt H H2 s.length D1 D2 ra ar ⟨st.rows,A⟩) (fun N hN=>?_) ?_
    ·refine⟨_,rfl,_,rfl,_,rfl,sA,s,l,r,rfl,hA'.old.seq hs,by omega,hrn,fun H2 s2=>⟨_,_,rfl,rfl,_,rfl,?_⟩⟩
     have hA2:=hA'.same s2
     refine ite2 (fun c=>?_) (fun c=>?_)
     ·have c:Fs.aE s l r>=0:=of_decide_eq_true c
      rw [if_pos c] at hAe
      refine⟨_,rfl,_,rfl,_,_,rfl,rfl,_,_,_,_,rfl,rfl,SqL.of hA2.rs,uo (i:=l+1) (by omega) hal1,_,rfl,_,_,_,_,rfl,rfl,SqL.of (hA2.row (l+1) al1 hal1),bC (by rw [tk.len (l+1) (by omega)];omega),?_⟩
      obtain⟨ts,t1,t2⟩:=hA2.arc r arr harr
      have tl:=mU t2
      have tl2:=tk.al
      refine⟨_,rfl,_,rfl,_,_,_,_,rfl,rfl,SqL.of hA2.as,iI harr,.inl ⟨rfl,_,SqL.of t1⟩,_,rfl,?_⟩
      have fin:∀(v:Int) (H3:Hp),Same H2 H3->v=(if some ((l:Int),(r:Int))=mark then Fs.g (st.rows.getD (l+1) []) r*weight else Fs.g (st.rows.getD (l+1) []) r)->∀tt,H3 tt=none->rAppend (.ref arr) [.ref tt] (upd H3 tt (.tup [.int l,.int v])) fun _ H'=>N [some (.ref sA),some m,some (.int weight),some (.int s.length),some (.int l),some (.ref D1),some (.int r),some (.ref D2),some (.ref al),some (.int (Fs.g (st.rows.getD (l+1) []) r)),v10,v11] H':=fun v H3 s3 ev tt htt=>by
       have s4:=s3.trans (aj (o:=.tup [.int l,.int v]) htt)
       refine⟨arr,_,_,rfl,rfl,s4 _ _ t1,small1000 (by rw [List.length_map];omega),hN _ _ ⟨_,rfl,?_⟩⟩
       rw [hAe,<-ev]
       exact (hA2.same s4).putArc (x:=((l:Int),v)) harr (by rw [tk.narcs];exact hrn) ae (s4 _ _ t1) (eP (fun _ _ z=>s4 _ _ z) t2)
      refine⟨_,rfl,_,rfl,(by show 2<=sizeLine;decide),fun b hb=>?_⟩
      have s3:=aj (o:=.tup [.int (l:Int),.int (r:Int)]) hb
      have hb2:(upd H2 b (.tup [.int (l:Int),.int (r:Int)])) b=some (.tup [.int (l:Int),.int (r:Int)]):=ae
      generalize upd H2 b (.tup [.int (l:Int),.int (r:Int)])=H3 at s3 hb2 ⊢
      have dB:Dp K H3 (.ref b) (.tuple [.int l,.int r]):=.tup (SqT.of hb2) (.cons (.int _) (.cons (.int _) .nil))
      have hm3:MarkAt H3 m mark:=hm.same (hA2.old.trans s3)
      cases hmk:mark with
      |none=>
       rw [hmk] at hm3 fin
       have hm3:m=.non:=hm3
       subst hm3
       refine⟨_,rfl,_,_,dB,.non,rfl,rfl,_,rfl,?_⟩
       exact⟨_,rfl,(by show 2<=sizeLine;decide),fin _ H3 s3 (by rw [if_neg (by simp)])⟩
      |some x=>
       rw [hmk] at hm3 fin
       obtain⟨mb,rfl,hmb⟩:=hm3
       refine⟨_,rfl,_,_,dB,.tup (SqT.of hmb) (.cons (.int _) (.cons (.int _) .nil)),rfl,rfl,_,rfl,?_⟩
       rw [lG]
       refine ite2 (fun c=>?_) (fun c=>?_)
       ·have c:((l:Int),(r:Int))=(x.1,x.2):=of_decide_eq_true c
        refine⟨_,rfl,_,rfl,_,_,rfl,rfl,tk.m1,(by show 2<=sizeLine;decide),fin _ H3 s3 ?_⟩
        rw [if_pos (by rw [c])]
       ·have c:¬((l:Int),(r:Int))=(x.1,x.2):=fun z=>c (decide_eq_true z)
        refine⟨_,rfl,(by show 2<=sizeLine;decide),fin _ H3 s3 ?_⟩
        rw [if_neg (fun z=>c (by injection z))]
     ·have c:¬Fs.aE s l r>=0:=fun z=>c (decide_eq_true z)
      rw [if_neg c] at hAe
      exact hN _ _ ⟨_,rfl,by rw [hAe];exact hA2⟩
    ·rintro σ2 H2 ⟨v9,rfl,hA2⟩
     have m2:∀x∈A.getD r [],0<=x.1/\x.1<=s.length/\IntMulOk (Fs.g (st.rows.getD l []) x.1.toNat) x.2:=tk.m2
     have al2:(A.getD r []).length<=200:=tk.al2
     have hst2:Fs.bE s mark weight l r st=⟨st.rows.set l ((st.rows.getD l []).set (r+1) (Fs.g (st.rows.getD l []) r+((A.getD r []).map fun x=>Fs.g (st.rows.getD l []) x.1.toNat*x.2).sum)),A⟩:=rfl
     rw [hst2] at hst
     clear hst2 hAe
     obtain⟨ts,t1,t2⟩:=hA2.arc r arr harr
     have t2:F2 (fun t x=>Tup2 H2 t x) ts (A.getD r []):=t2
     have hrow:H2 al=some (.lst (vi (st.rows.getD l []))):=hA2.row l al hal
     have hlen:=tk.len l (by omega)
     generalize hAr:A.getD r []=Ar at t2 m2 al2 hst
     generalize hR:st.rows.getD l []=R at hrow hlen m2 hst
     have tl:=mU t2
     refine⟨_,rfl,_,rfl,_,_,_,_,rfl,rfl,SqL.of hrow,bC (by rw [hlen];omega),_,rfl,_,rfl,_,_,_,_,rfl,rfl,SqL.of hA2.as,iI harr,arr,rfl,⟨_,SqL.of t1⟩,fun D hD=>?_⟩
     refine fY (K:=K) (a:=arr) (xs:=ts.map V.ref) (LcP H2 D fun i=>vi ((Ar.take i).map fun x=>Fs.g R x.1.toNat*x.2)) (LcP.zero hD rfl) (fun i H' _ z=>SqL.of (z.1 _ _ t1)) ?_ ?_
     ·rintro i x H' hx ⟨sm,hx'⟩
      rw [List.getElem?_map] at hx
      cases e:ts[i]? with
      |none=>rw [e] at hx;cases hx
      |some ta=>
       rw [e] at hx
       have hx:V.ref ta=x:=Option.some.inj hx
       subst hx
       obtain⟨y,hy,ty⟩:=rE t2 e
       have hb:=m2 y (List.mem_of_getElem? hy)
       have ty:Tup2 H' ta y:=sm _ _ ty
       refine⟨ta,_,rfl,ty.sq,rfl,_,_,rfl,_,_,rfl,rfl,rfl,?_⟩
       refine⟨_,rfl,_,rfl,_,_,_,_,rfl,rfl,SqL.of (sm _ _ hrow),bq (i:=y.1.toNat) (by omega) (by omega),_,rfl,_,_,rfl,rfl,hb.2.2,LcP.put hD sm hx' ?_ ?_⟩
       ·refine small1000 ?_
        rw [az,List.length_map,List.length_take];omega
       ·show vi _=_
        rw [take_snoc hy,List.map_append,bu];rfl
     ·rintro H3 ⟨sm,hx'⟩
      dsimp only at hx'
      rw [List.take_of_length_le (by rw [List.length_map];omega)] at hx'
      refine⟨D,_,rfl,SqL.of hx',_,_,rfl,rfl,?_⟩
      refine⟨_,rfl,_,rfl,_,_,rfl,rfl,al,_,_,r+1,rfl,rfl,sm _ _ hrow,nY (by omega) (by rw [az,hlen];omega),?_⟩
      rw [bU]
      refine⟨_,_,_,_,rfl,?_⟩
      rw [hst]
      exact (hA2.same sm).setRow hal (by show l<st.rows.length;rw [tk.nrows];omega) _
   ·rintro σ H' ⟨v6,v9,v10,v11,rfl,hA'⟩
    exact⟨_,_,_,_,_,_,rfl,by rw [hst];exact hA'⟩
  ·rintro σ H' ⟨v4,v6,v8,v9,v10,v11,rfl,hA'⟩
   obtain⟨a0,ha0⟩:=qw hA' (i:=0) (by omega)
   have hE:=hend s.length (by omega)
   refine⟨_,rfl,_,_,_,_,rfl,rfl,SqL.of hA'.rs,iI ha0,_,rfl,_,_,_,_,rfl,rfl,SqL.of (hA'.row 0 a0 ha0),bC (by rw [hE.2 0 (by omega)];omega),?_⟩
   exact k _ hA'.old
end
end Pg
end
section
namespace Pg
open PySem PySem.Spec PyProof.Rows L2 L3
section
variable {P:Program}{w:World}{K:PySem.W.Frag}{mg:Str->Option Value}{base:Heap}{aS aL aG CS CR CA CP CT CW:Addr}
structure SrOk(s:List Int)(z:Fs.Prc):Prop where
 n1:1<=s.length
 n100:s.length<=100
 ends:z.tab.ends.length=100
 sides:z.tab.sides.length=100
 both:z.tab.both.length=100
 stacks:z.tab.stacks.length=36
 op:z.opening.length=s.length
 clo:z.closing.length=s.length
 turn:∀i,i<s.length->TurnOk s z (s.length-1-i) (Fs.turns s z i (Fs.Sr.new s.length z.far))
theorem eV{H H':Hp}{x dx C:Addr}(nx:H x=none)(nd:H dx=none)(g:Grown x (upd (upd H dx (.own x)) x (.ins C dx [])) H'):Same H H':=fun b o e=>by
 have h1:b≠x:=aD e nx
 exact g b o (ai (ai e (aD e nd)) h1) h1
theorem kd{σ:L2.St}{H:Hp}{Q:VK}{sA pA:Addr}{s:List Int}{z:Fs.Prc}{t:TA}(ht:∀Q':List V->Hp->Prop,Q' [.ref sA,.ref pA] H->t σ H Q')(hs:SqL K H sA (vi s))(hp:PrcAt CP CT H pA z)(ok:SrOk s z)
  (k:∀(H':Hp) (q:Addr),Same H H'->Tup2 H' q (Fs.least s z)->Q (.ref q) H'):tMeth CS "least" (spLeast K CS CR CA CP CT) [] E0 (tMake CS (spSrI K CS CR CA CP CT) [] E0 t) tNil σ H Q:=by
 refine ht _ fun x dx nx nd nex=>?_
 refine⟨x,dx,sA,pA,s,z,H,rfl,ae,(aj nd).trans (aj ?_),nx,hs,hp,ok.n100,fun H' L e1 e2 e3 e4 e5 e6 e7 hS=>⟨rfl,?_⟩⟩
 ·rw [aM (Ne.symm nex)];exact nx
 ·subst e7 e5 e6 e1
  refine⟨_,_,_,rfl,hS.at_ .self trivial,rfl,?_⟩
  exact⟨H,L,s,z,rfl,rfl,e2,e3,⟨hs,hp,e4,ok.n100,ok.ends,ok.sides,ok.both,ok.stacks,ok.op,ok.clo⟩,hS,ok.turn,ok.n1,k⟩
theorem jR{σ:L2.St}{H:Hp}{Q:VK}{nA oA cA:Addr}{ns:List Int}{sc:Int}{m:V}{z:Fs.Prc}{t:TA}{tr:TA}(ht:∀Q':List V->Hp->Prop,Q' [.ref nA,.int sc] H->t σ H Q')(hr:∀(H':Hp) (Q':List V->Hp->Prop),Q' [.int z.far,.ref oA,.ref cA,m,.int z.weight] H'->tr σ H' Q')
  (hn:SqL K H nA (vi ns)) (h132:ns.length=132) (hbd:∀x∈ns,-10000<=x/\x<=10000) (hz:z.tab=Fs.tables ns sc) (hb:z.tab.both.length=100) (ho:H oA=some (.lst (vi z.opening))) (hc:H cA=some (.lst (vi z.closing))) (hm:MarkAt H m z.mark)
  (k:∀(H':Hp) (q:Addr),Same H H'->PrcAt CP CT H' q z->Q (.ref q) H'):tMake CP (spPrcI CP CT) [] E0 (tCons (tMake CT (spTabI K CT) [] E0 t) tr) σ H Q:=by
 refine ht _ fun x dx nx nd nex=>?_
 refine⟨x,dx,nA,ns,sc,rfl,ae,?_,h132,hbd,fun H1 hT g1=>⟨rfl,?_⟩⟩
 ·exact ((aj nd).trans (aj (by rw [aM (Ne.symm nex)];exact nx))).seq hn
 have s1:=eV nx nd g1
 refine hr H1 _ ?_
 intro y dy ny ndy ney
 have sy:Same H1 (upd (upd H1 dy (.own y)) y (.ins CP dy [])):=(aj ndy).trans (aj (by rw [aM (Ne.symm ney)];exact ny))
 refine⟨y,dy,x,oA,cA,m,z,rfl,ae,by rw [hz];exact hT.same sy,hb,fun H2 bd h1 h2 g2=>⟨rfl,?_⟩⟩
 have s2:=eV ny ndy g2
 refine k H2 y (s1.trans s2) ⟨dy,x,oA,cA,m,bd,h1,?_,(s1.trans s2) _ _ ho,(s1.trans s2) _ _ hc,hm.same (s1.trans s2),h2⟩
 rw [hz];exact hT.same s2
theorem oj{ns:List Int}(h:ns.length=132)(sc:Int):(Fs.tables ns sc).ends.length=100/\(Fs.tables ns sc).sides.length=100/\(Fs.tables ns sc).both.length=100/\(Fs.tables ns sc).stacks.length=36:=by
 refine⟨Fs.cw (Fs.eY h 36 (by omega) sc),Fs.cw (Fs.eY h 67 (by omega) sc),Fs.cw (Fs.eY h 98 (by omega) sc),?_⟩
 show (List.take 36 (ns.map (· *sc))).length=36
 rw [List.length_take,List.length_map,h];rfl
theorem og{ns s:List Int}{sc:Int}{z:Fs.Prc}(h132:ns.length=132)(hbd:∀x∈ns,-10000<=x/\x<=10000)(hs:Fs.Good s)(hp:Fs.PrcOk ns s sc z)(hw:Wok z)(o:z.opening.length=s.length)(c:z.closing.length=s.length):SrOk s z:=by
 have N:Fs.Nums ns _:=⟨h132,hbd,rfl⟩
 have G:=Fs.qy N hs hp
 obtain⟨t1,t2,t3,t4⟩:=oj h132 sc
 rw [<-hp.tab] at t1 t2 t3 t4
 exact⟨hs.n1,hs.n100,t1,t2,t3,t4,o,c,pX G t3 hs.n100 hw⟩
abbrev sBestF:Stmt:=top 25
def MarkOk(mark:Option (Int × Int)):Prop:=mark=none\/∃l r:Nat,mark=some ((l:Int),(r:Int))
inductive kf(K:PySem.W.Frag)(vs:List V)(H:Hp)(Q:VK):Prop
 |mk:∀(nA sA:Addr) (m:V) (ns s:List Int) (mark:Option (Int × Int)) (weight:Int),(vs=[.ref nA,.ref sA,m,.int weight])->(SqL K H nA (vi ns))->(SqL K H sA (vi s))->(ns.length=132)->((∀x∈ns,-10000<=x/\x<=10000))->(Fs.Good s)->(MarkAt H m mark)->(MarkOk mark)->(1<=weight)->(weight<=8^64)->(∀H':Hp,Same H H'->Q (.int (Fs.bestFolds ns s mark weight)) H')->kf K vs H Q
def spBestF(K:PySem.W.Frag):Sp:=fun vs H Q _=>kf K vs H Q
theorem scBestF:aB ["numbers","strand","mark","weight","nothing","prices"] ["numbers","strand","mark","weight"] (ax sBestF):=⟨rfl,rfl,rfl,by decide+kernel,rfl,by decide+kernel,by decide+kernel⟩
theorem qt{f:Addr}{fd:FuncData}(F:Fun K "best_folds" "best_folds" sBestF f fd)(T:Txt K mg aS aL aG)(MP:Mc P w K mg base 1 "Prices" CP ["self","tables","far","opening","closing","mark","weight"] (spPrcI CP CT))(MT:Mc P w K mg base 2 "Tables" CT ["self","numbers","scale"] (spTabI K CT))
  (MS:Mc P w K mg base 3 "Search" CS ["self","strand","prices"] (spSrI K CS CR CA CP CT)) (ML:Mt P w K mg base 5 CS "least" ["self"] (spLeast K CS CR CA CP CT)):FnOk P w K mg base CX0 6 f fd ["numbers","strand","mark","weight"] (spBestF K):=by
 refine F.ok scBestF (fun vs H Q E h=>?_) (fun cdv A outer s H vs Q E hr h=>?_)
 ·obtain⟨_,_,_,_,_,_,_,rfl,_⟩:=h
  rfl
 ·obtain⟨nA,sA,m,ns,s,mark,weight,rfl,hn,hs,h132,hbd,hG,hm,hmo,w1,w2,k⟩:=h
  have nd:=scBestF.nd
  have hr2:Room 2 _:=hr.mono (by decide)
  have hr3:Room 3 _:=hr.mono (by decide)
  have hr4:Room 4 _:=hr.mono (by decide)
  refine⟨_,ab (aw (i:=4) nd rfl (Or.inl rfl) (ao bT (aP (aa af ag)) (bc aV rfl T.len PySem.boot_len (aa (pv 1) ag))))
   (ab (aw (i:=5) nd rfl (Or.inl rfl) (fe MP hr2 (aa (fe MT hr3 (aa (pv 0) (aa af ag))) (aa (bh T.far) (aa (pv 4) (aa (pv 4) (aa (pv 2) (aa (pv 3) ag))))))))
   (ak (aC (aq aJ (cI ML hr (fe MS hr4 (aa (pv 1) (aa (pv 5) ag)))) af (fun _ _=>rfl))))),?_⟩
  have hw:Wok (Fs.aO ns s mark weight):=⟨w1,w2,hmo⟩
  have ok:SrOk s (Fs.aO ns s mark weight):=og h132 hbd hG (Fs.je mark w1) hw (by show (List.replicate s.length (0:Int)).length=_;simp) (by show (List.replicate s.length (0:Int)).length=_;simp)
  have hl:=hG.n100
  refine ir (n:=s.length) (x:=0) (fun Q' q=>q) (fun H2 Q' s2 q=>⟨_,rfl,sA,_,rfl,.inl (s2.seq hs),by rw [az];exact q⟩) (by omega) (fun H1 o s1 _ ho=>?_)
  dsimp only [gName,tSeq,tAsg]
  refine jR (K:=K) (CP:=CP) (CT:=CT) (z:=Fs.aO ns s mark weight) (nA:=nA) (oA:=o) (cA:=o) (ns:=ns) (sc:=1) (m:=m) (fun Q' q=>⟨_,rfl,q⟩) (fun H' Q' q=>⟨_,rfl,_,rfl,_,rfl,_,rfl,q⟩) (s1.seq hn) h132 hbd rfl ok.both ho ho (hm.same s1) (fun H2 q s2 hq=>?_)
  dsimp only [tRet,tOp]
  refine kd (K:=K) (CP:=CP) (CT:=CT) (sA:=sA) (pA:=q) (s:=s) (z:=Fs.aO ns s mark weight) (fun Q' q=>⟨_,rfl,_,rfl,q⟩) ((s1.trans s2).seq hs) hq ok (fun H3 q3 s3 h3=>?_)
  exact⟨_,_,_,_,rfl,rfl,h3.sq,rfl,k _ ((s1.trans s2).trans s3)⟩
abbrev sCount:Stmt:=top 26
inductive jD(K:PySem.W.Frag)(vs:List V)(H:Hp)(Q:VK):Prop
 |mk:∀(nA sA:Addr) (ns s:List Int),(vs=[.ref nA,.ref sA])->(SqL K H nA (vi ns))->(SqL K H sA (vi s))->(ns.length=132)->((∀x∈ns,-10000<=x/\x<=10000))->(Fs.Good s)->(∀(H':Hp) (q:Addr),Same H H'->H q=none->H' q=some (.lst (vi (Fs.countFolds ns s)))->Q (.ref q) H')->jD K vs H Q
def spCount(K:PySem.W.Frag):Sp:=fun vs H Q _=>jD K vs H Q
theorem scCount:aB ["numbers","strand"] ["numbers","strand"] (ax sCount):=⟨rfl,rfl,rfl,by decide+kernel,rfl,by decide+kernel,by decide+kernel⟩
theorem sL{f:Addr}{fd:FuncData}(F:Fun K "count_folds" "count_folds" sCount f fd)(T:Txt K mg aS aL aG)(FA:Fn P w K mg base 2 "all_folds" ["strand","mark","weight"] (spAll K))(FB:Fn P w K mg base 6 "best_folds" ["numbers","strand","mark","weight"] (spBestF K)):FnOk P w K mg base CX0 7 f fd ["numbers","strand"] (spCount K):=by
 refine F.ok scCount (fun vs H Q E h=>?_) (fun cdv A outer s H vs Q E hr h=>?_)
 ·obtain⟨_,_,_,_,rfl,_⟩:=h
  rfl
 ·obtain⟨nA,sA,ns,s,rfl,hn,hs,h132,hbd,hG,k⟩:=h
  have hr2:Room 2 _:=hr.mono (by decide)
  refine⟨_,ak (aC (aP (aa (ao gf (aW FA hr2 (aa (pv 1) (aa gI (aa af ag)))) (bh T.modulus)) (aa (ao gf (aW FB hr (aa (pv 0) (aa (pv 1) (aa gI (aa af ag))))) (bh T.modulus)) ag)))),?_⟩
  refine⟨_,rfl,sA,.non,s,none,1,rfl,hs,hG.n1,hG.n100,rfl,⟨by show (1:Int)<=1;decide,by show (1:Int)<=8^64;decide+kernel,.inl rfl⟩,fun H1 s1=>⟨_,_,rfl,rfl,(by show (0:Int)<1000000007;decide),?_⟩⟩
  refine⟨_,rfl,_,rfl,nA,sA,.non,ns,s,none,1,rfl,s1.seq hn,s1.seq hs,h132,hbd,hG,rfl,.inl rfl,by decide,by decide+kernel,fun H2 s2=>⟨_,_,rfl,rfl,(by show (0:Int)<1000000007;decide),(by show 2<=sizeLine;decide),fun q hq=>?_⟩⟩
  exact k _ q ((s1.trans s2).trans (aj hq)) ((s1.trans s2).free hq) ae
abbrev sPairC:Stmt:=top 27
inductive jP(K:PySem.W.Frag)(vs:List V)(H:Hp)(Q:VK):Prop
 |mk:∀(nA sA:Addr) (ns s:List Int) (l r:Nat),(vs=[.ref nA,.ref sA,.int l,.int r])->(SqL K H nA (vi ns))->(SqL K H sA (vi s))->(ns.length=132)->((∀x∈ns,-10000<=x/\x<=10000))->(Fs.Good s)->(l<s.length)->(r<s.length)->(∀(H':Hp) (q:Addr),Same H H'->H q=none->H' q=some (.lst (vi (Fs.countWithPair ns s l r)))->Q (.ref q) H')->jP K vs H Q
def spPairC(K:PySem.W.Frag):Sp:=fun vs H Q _=>jP K vs H Q
theorem scPairC:aB ["numbers","strand","left","right","mark","weight","folds","best"] ["numbers","strand","left","right"] (ax sPairC):=⟨rfl,rfl,rfl,by decide+kernel,rfl,by decide+kernel,by decide+kernel⟩
theorem rO{f:Addr}{fd:FuncData}(F:Fun K "count_with_pair" "count_with_pair" sPairC f fd)(T:Txt K mg aS aL aG)(FS:Fn P w K mg base 1 "sort_of" ["strand","left","right"] (spSortOf K))(FW:Fn P w K mg base 1 "weight_of_mark" [] spWgt)
  (FA:Fn P w K mg base 2 "all_folds" ["strand","mark","weight"] (spAll K)) (FB:Fn P w K mg base 6 "best_folds" ["numbers","strand","mark","weight"] (spBestF K)):FnOk P w K mg base CX0 7 f fd ["numbers","strand","left","right"] (spPairC K):=by
 refine F.ok scPairC (fun vs H Q E h=>?_) (fun cdv A outer s H vs Q E hr h=>?_)
 ·obtain⟨_,_,_,_,_,_,rfl,_⟩:=h
  rfl
 ·obtain⟨nA,sA,ns,s,l,r,rfl,hn,hs,h132,hbd,hG,hl,hr',k⟩:=h
  have nd:=scPairC.nd
  have hr1:Room 1 _:=hr.mono (by decide)
  have hr2:Room 2 _:=hr.mono (by decide)
  refine⟨_,ab (br (aK dS (aW FS hr1 (aa (pv 1) (aa (pv 2) (aa (pv 3) ag)))) af (aX _)) (ak (aC (aP (aa af (aa af ag))))) aQ)
   (ab (aw (i:=4) nd rfl (Or.inl rfl) (b0 (aa (pv 2) (aa (pv 3) ag))))
   (ab (aw (i:=5) nd rfl (Or.inl rfl) (vC FW hr1))
   (ab (aw (i:=6) nd rfl (Or.inl rfl) (ao fJ (aW FA hr2 (aa (pv 1) (aa (pv 4) (aa (pv 5) ag)))) (pv 5)))
   (ab (aw (i:=7) nd rfl (Or.inl rfl) (ao fJ (aW FB hr (aa (pv 0) (aa (pv 1) (aa (pv 4) (aa (pv 5) ag))))) (pv 5)))
   (ak (aC (aP (aa (ao gf (pv 6) (bh T.modulus)) (aa (ao gf (pv 7) (bh T.modulus)) ag))))))))),?_⟩
  have hwp:(0:Int)<Fs.WEIGHT/\Fs.WEIGHT<2^1000:=by unfold Fs.WEIGHT;decide+kernel
  have hw8:Fs.WEIGHT<=8^64:=Int.le_refl _
  unfold Fs.countWithPair at k
  refine⟨_,rfl,_,rfl,_,rfl,sA,s,l,r,rfl,hs,hl,hr',fun H1 s1=>⟨_,_,rfl,rfl,_,rfl,?_⟩⟩
  refine ite2 (fun c=>?_) (fun c=>?_)
  ·have c:Fs.aE s l r<0:=of_decide_eq_true c
   rw [if_pos c] at k
   exact⟨(by show 2<=sizeLine;decide),fun q hq=>k _ q (s1.trans (aj hq)) (s1.free hq) ae⟩
  ·have c:¬Fs.aE s l r<0:=fun z=>c (decide_eq_true z)
   rw [if_neg c] at k
   refine⟨_,rfl,_,rfl,(by show 2<=sizeLine;decide),fun b hb=>?_⟩
   have s2:=aj (o:=.tup [.int (l:Int),.int (r:Int)]) hb
   have hb2:(upd H1 b (.tup [.int (l:Int),.int (r:Int)])) b=some (.tup [.int (l:Int),.int (r:Int)]):=ae
   dsimp only [gName]
   generalize upd H1 b (.tup [.int (l:Int),.int (r:Int)])=H2 at s2 hb2 ⊢
   have mo:MarkOk (some ((l:Int),(r:Int))):=.inr ⟨l,r,rfl⟩
   have s12:=s1.trans s2
   refine⟨rfl,?_⟩
   refine⟨_,rfl,_,rfl,_,rfl,sA,.ref b,s,some ((l:Int),(r:Int)),Fs.WEIGHT,rfl,s12.seq hs,hG.n1,hG.n100,⟨b,rfl,hb2⟩,⟨by show 1<=Fs.WEIGHT;omega,hw8,mo⟩,fun H3 s3=>⟨_,rfl,_,_,rfl,rfl,hwp,?_⟩⟩
   refine⟨_,rfl,_,rfl,_,rfl,_,rfl,nA,sA,.ref b,ns,s,some ((l:Int),(r:Int)),Fs.WEIGHT,rfl,(s12.trans s3).seq hn,(s12.trans s3).seq hs,h132,hbd,hG,⟨b,rfl,s3 _ _ hb2⟩,mo,by omega,hw8,fun H4 s4=>⟨_,rfl,_,_,rfl,rfl,hwp,?_⟩⟩
   refine⟨_,rfl,_,_,rfl,rfl,(by show (0:Int)<1000000007;decide),_,rfl,_,_,rfl,rfl,(by show (0:Int)<1000000007;decide),(by show 2<=sizeLine;decide),fun q hq=>?_⟩
   exact k _ q (((s12.trans s3).trans s4).trans (aj hq)) (((s12.trans s3).trans s4).free hq) ae
end
end Pg
end
section
namespace Pg
open PySem PySem.Spec PyProof.Rows L2 L3
theorem iY{c:TT}{tb:TS}{D:Ends}{σ:L2.St}{H:Hp}(Pv:Nat->L2.St->Hp->Prop)(m0:Nat)(h0:Pv m0 σ H)
  (hs:∀m σ H,Pv m σ H->c σ H fun b H1=>if b=true then ∃N:L2.St->Hp->Prop,(∀σ' H',N σ' H'->∃m',m'<m/\Pv m' σ' H')/\tb {D with nx:=N,ct:=N,bk:=D.nx} σ H1 else D.nx σ H1):tWhile c tb D σ H:=⟨Pv,⟨m0,h0⟩,hs⟩
theorem dA{K:PySem.W.Frag}{a:Addr}{xs:List Int}{i:Nat}{te:TE}{vs:List Nat}{σ:L2.St}{H:Hp}{D:Addr}{Qd:Hp->Prop}(F:Int->Int)(hD:H D=none)(ha:SqL K H a (vi xs))(hl:xs.length<=1000)
  (hw:∀u,wipe ((wipe σ vs).set i (some u)) vs=wipe σ vs)
  (he:∀(k:Nat) (x:Int) (H':Hp) (Q':VK),xs[k]?=some x->Same H H'->Q' (.int (F x)) H'->te ((wipe σ vs).set i (some (.int x))) H' Q')
  (k:∀H',Same H H'->H' D=some (.lst (vi (xs.map F)))->Qd H'):
  ∃W:Nat->Nat->Hp->Prop,(∃m,W 0 m (upd H D (.lst [])))/\∀i' m H,W i' m H->
   ((Itl K a).stop i' H/\Qd H)\/((Itl K a).go i' H/\∃Nx:Hp->Prop,(∀H',Nx H'->∃m',m'<m/\W (i'+1) m' H')/\∀x H',(Itl K a).yld i' H x H'->gName i x (wipe σ vs) H' fun σ2 H2=>wipe σ2 vs=wipe σ vs/\tYes σ2 H2 fun b H3=>
    if b=true then te σ2 H3 fun y H4=>∃acc,H4 D=some (.lst acc)/\acc.length<sizeLine/\Nx (upd H4 D (.lst (acc++[y]))) else Nx H3):=by
 refine fY (K:=K) (a:=a) (xs:=vi xs) (LcP H D fun i=>vi ((xs.take i).map F)) (LcP.zero hD rfl) (fun i H' _ z=>z.1.seq ha) ?_ ?_
 ·rintro k' x H' hx ⟨sm,hx'⟩
  obtain⟨x,hx2,rfl⟩:=cg hx
  dsimp only at hx'
  refine⟨hw _,?_⟩
  refine he k' x H' _ hx2 sm (LcP.put hD sm hx' ?_ ?_)
  ·refine small1000 ?_
   rw [az,List.length_map,List.length_take];omega
  ·show vi _=_
   rw [take_snoc hx2,List.map_append,bu];rfl
 ·rintro H' ⟨sm,hx'⟩
  dsimp only at hx'
  rw [az,List.take_length] at hx'
  exact k H' sm hx'
section
open Fs
def pws(n:Nat):List Int:=(List.range n).map fun k=>(3:Int)^k
theorem il(n:Nat):(pws n).length=n:=by simp [pws]
theorem rC(n:Nat):pws (n+1)=pws n++[(3:Int)^n]:=by simp [pws,List.range_succ]
theorem vM(n k:Nat)(h:k<n):g (pws n) k=(3:Int)^k:=by
 unfold g pws
 rw [List.getD_eq_getElem?_getD,List.getElem?_map,List.getElem?_range h];rfl
theorem nG(n:Nat):(ay n).length=n:=by simp [ay]
theorem tT(n k:Nat)(h:k<n):g (ay n) k=(3:Int)^(n-1-k):=by
 unfold g ay
 rw [List.getD_eq_getElem?_getD,List.getElem?_reverse (by simp;exact h),List.getElem?_map]
 simp only [List.length_map,List.length_range]
 rw [List.getElem?_range (by omega)];rfl
theorem bN(k:Nat):(0:Int)<3^k:=Int.pow_pos (by decide)
theorem nL{a b:Nat}(h:a<=b):(3:Int)^a<=3^b:=by
 have:=Nat.pow_le_pow_right (n:=3) (by omega) h
 have e:∀k:Nat,((3^k:Nat):Int)=(3:Int)^k:=fun k=>by simp
 rw [<-e,<-e];omega
theorem jb{k:Nat}(h:k<=100):(3:Int)^k<2^1000:=Int.lt_of_le_of_lt (nL h) (by decide+kernel)
theorem u9{n:Nat}{v:Int}(hn:n<=100)(h:v∈ay n):0<v/\v<2^1000:=by
 unfold ay at h
 rw [List.mem_reverse,List.mem_map] at h
 obtain⟨k,hk,rfl⟩:=h
 have:=List.mem_range.mp hk
 exact⟨bN k,jb (by omega)⟩
def scl(n:Nat):Int:=g (ay n) 0*3
theorem iV{n:Nat}(h:1<=n):scl n=3^n:=by
 unfold scl
 rw [tT n 0 (by omega),<-Int.pow_succ]
 congr 1
 omega
def rankP(ns s:List Int):Prc:=⟨tables ns (scl s.length),FAR*scl s.length,(ay s.length).map (-2*·),(ay s.length).map (-1*·),none,1⟩
theorem ij(k:Int)(l:List Int)(j:Nat):g (l.map (k*·)) j=k*g l j:=by
 unfold g
 rw [List.getD_eq_getElem?_getD,List.getD_eq_getElem?_getD,List.getElem?_map]
 cases l[j]? with
 |none=>simp
 |some x=>rfl
theorem uD(n k:Nat):0<=g (ay n) k/\(1<=n->g (ay n) k<=3^(n-1)):=by
 by_cases h:k<n
 ·rw [tT n k h]
  exact⟨Int.le_of_lt (bN _),fun _=>nL (by omega)⟩
 ·have:g (ay n) k=0:=by
   unfold g
   rw [List.getD_eq_getElem?_getD,List.getElem?_eq_none (by rw [nG];omega)];rfl
  rw [this]
  exact⟨Int.le_refl _,fun _=>Int.le_of_lt (bN _)⟩
theorem kG{ns s:List Int}(hs:1<=s.length):PrcOk ns s (scl s.length) (rankP ns s):=by
 have e:scl s.length=3*3^(s.length-1):=by
  rw [iV hs,Int.mul_comm,<-Int.pow_succ]
  congr 1
  omega
 refine⟨?_,rfl,rfl,fun l r=>?_,Int.le_refl _⟩
 ·rw [iV hs];have:=bN s.length;omega
 ·show _<=g ((ay s.length).map (-2*·)) l+g ((ay s.length).map (-1*·)) r/\g ((ay s.length).map (-2*·)) l+g ((ay s.length).map (-1*·)) r<=_
  rw [ij,ij,e]
  have h1:=uD s.length l
  have h2:=uD s.length r
  have h3:=h1.2 hs
  have h4:=h2.2 hs
  omega
end
section
variable {P:Program}{w:World}{K:PySem.W.Frag}{mg:Str->Option Value}{base:Heap}{aS aL aG CS CR CA CP CT CW:Addr}
abbrev sPlace:Stmt:=top 39
inductive kg(vs:List V)(H:Hp)(Q:VK):Prop
 |mk:∀(n:Nat),(vs=[.int n])->(1<=n)->(n<=100)->(∀(H':Hp) (q:Addr),Same H H'->H' q=some (.lst (vi (Fs.ay n)))->Q (.ref q) H')->kg vs H Q
def spPlace:Sp:=fun vs H Q _=>kg vs H Q
theorem scPlace:aB ["size","values"] ["size"] (ax sPlace):=⟨rfl,rfl,rfl,by decide+kernel,rfl,by decide+kernel,by decide+kernel⟩
theorem qQ{f:Addr}{fd:FuncData}(F:Fun K "place_values" "place_values" sPlace f fd)(T:Txt K mg aS aL aG):FnOk P w K mg base CX0 1 f fd ["size"] spPlace:=by
 refine F.ok scPlace (fun vs H Q E h=>?_) (fun cdv A outer s H vs Q E hr h=>?_)
 ·obtain⟨_,rfl,_⟩:=h
  rfl
 ·obtain⟨n,rfl,hn1,hn,k⟩:=h
  have nd:=scPlace.nd
  refine⟨_,ab (aw (i:=1) nd rfl (Or.inl rfl) (aP (aa af ag)))
   (ab (jr PassesOwn.never (aK dS (bc aV rfl T.len PySem.boot_len (aa (pv 1) ag)) (pv 0) (aX _))
    (ak (bx (gb PySem.F.plainAttrs_list PySem.F.slot_list_append PySem.F.type_list_append cb (pv 1) (aa (ao c9 (aq au (pv 1) (cf bK af) (fun _ _=>rfl)) af) ag)))))
   (ab (bx (rh PySem.F.plainAttrs_list PySem.F.slot_list_reverse PySem.F.type_list_reverse nH (pv 1)))
   (ak (aC (pv 1))))),?_⟩
  refine⟨(by show 1<=sizeLine;decide),fun va hva=>?_⟩
  refine iY (fun m σ H'=>∃i,1<=i/\i<=n/\m=n-i/\σ=[some (.int n),some (.ref va)]/\Same H H'/\H' va=some (.lst (vi (pws i)))) (n-1) ⟨1,by omega,hn1,rfl,rfl,aj hva,ae⟩ ?_
  rintro m σ H1 ⟨i,hi1,hin,rfl,rfl,sm,hv⟩
  refine⟨_,rfl,va,_,rfl,.inl (SqL.of hv),?_⟩
  rw [az,il]
  refine⟨_,rfl,_,_,rfl,rfl,_,rfl,?_⟩
  refine ite2 (fun c=>?_) (fun c=>?_)
  ·have c:(i:Int)<(n:Int):=of_decide_eq_true c
   refine⟨fun σ' H'=>∃m',m'<n-i/\∃j,1<=j/\j<=n/\m'=n-j/\σ'=[some (.int n),some (.ref va)]/\Same H H'/\H' va=some (.lst (vi (pws j))),fun _ _ z=>z,?_⟩
   refine⟨_,rfl,.inl ⟨rfl,_,SqL.of hv⟩,_,rfl,_,rfl,va,_,_,_,rfl,rfl,SqL.of hv,kJ (by rw [il];omega),_,_,rfl,rfl,.inr (by decide),va,_,_,rfl,rfl,hv,small1000 (by rw [az,il];omega),?_⟩
   refine⟨n-(i+1),by omega,i+1,by omega,by omega,rfl,rfl,fun b o e=>?_,?_⟩
   ·exact ai (sm b o e) (fun z=>by rw [z,hva] at e;cases e)
   ·rw [ae,il,vM i (i-1) (by omega),rC,bu]
    rw [<-Int.pow_succ,show (i-1).succ=i by omega];rfl
  ·have c:¬(i:Int)<(n:Int):=fun z=>c (decide_eq_true z)
   have:i=n:=by omega
   subst this
   refine⟨_,rfl,.inl ⟨rfl,_,SqL.of hv⟩,va,_,rfl,rfl,hv,?_⟩
   refine⟨_,rfl,k _ va (fun b o e=>ai (sm b o e) (fun z=>by rw [z,hva] at e;cases e)) ?_⟩
   rw [ae]
   unfold Fs.ay pws
   simp [vi,List.map_reverse]
abbrev sFirst:Stmt:=top 40
inductive j5(K:PySem.W.Frag)(vs:List V)(H:Hp)(Q:VK):Prop
 |mk:∀(nA sA:Addr) (ns s:List Int),(vs=[.ref nA,.ref sA])->(SqL K H nA (vi ns))->(SqL K H sA (vi s))->(ns.length=132)->((∀x∈ns,-10000<=x/\x<=10000))->(Fs.Good s)->(∀(H':Hp) (q:Addr),Same H H'->H' q=some (.lst (vi (Fs.firstBest ns s)))->Q (.ref q) H')->j5 K vs H Q
def spFirst(K:PySem.W.Frag):Sp:=fun vs H Q _=>j5 K vs H Q
theorem scFirst:aB ["numbers","strand","values","scale","dots","opening","closing","prices","total","row","value"] ["numbers","strand"] (ax sFirst):=⟨rfl,rfl,rfl,by decide+kernel,rfl,by decide+kernel,by decide+kernel⟩
theorem sr{f:Addr}{fd:FuncData}(F:Fun K "first_best" "first_best" sFirst f fd)(T:Txt K mg aS aL aG)(FP:Fn P w K mg base 1 "place_values" ["size"] spPlace)(MP:Mc P w K mg base 1 "Prices" CP ["self","tables","far","opening","closing","mark","weight"] (spPrcI CP CT))(MT:Mc P w K mg base 2 "Tables" CT ["self","numbers","scale"] (spTabI K CT))
  (MS:Mc P w K mg base 3 "Search" CS ["self","strand","prices"] (spSrI K CS CR CA CP CT)) (ML:Mt P w K mg base 5 CS "least" ["self"] (spLeast K CS CR CA CP CT)):FnOk P w K mg base CX0 6 f fd ["numbers","strand"] (spFirst K):=by
 refine F.ok scFirst (fun vs H Q E h=>?_) (fun cdv A outer s H vs Q E hr h=>?_)
 ·obtain⟨_,_,_,_,rfl,_⟩:=h
  rfl
 ·obtain⟨nA,sA,ns,s,rfl,hn,hs,h132,hbd,hG,k⟩:=h
  have nd:=scFirst.nd
  have hr1:Room 1 _:=hr.mono (by decide)
  have hr2:Room 2 _:=hr.mono (by decide)
  have hr3:Room 3 _:=hr.mono (by decide)
  have hr4:Room 4 _:=hr.mono (by decide)
  refine⟨_,ab (aw (i:=2) nd rfl (Or.inl rfl) (aW FP hr1 (aa (bc aV rfl T.len PySem.boot_len (aa (pv 1) ag)) ag)))
   (ab (aw (i:=3) nd rfl (Or.inl rfl) (ao c9 (aq au (pv 2) af (fun _ _=>rfl)) af))
   (ab (aw (i:=4) nd rfl (Or.inl rfl) (ao aN (pv 3) af))
   (ab (bW (i:=5) (own:=[("value",10)]) rfl nd rfl rfl (cu rfl rfl rfl rfl) (cX (pv 2)) (bf (by kernel_rfl)) (fun _ _ _ _ _=>by exact bb (i:=10) nd rfl (Or.inl rfl)) (fun _ _ _ _ _=>by exact bG) (fun _ _ _ _ _=>by exact ao c9 (cf bK af) (pv 10)))
   (ab (bW (i:=6) (own:=[("value",10)]) rfl nd rfl rfl (cu rfl rfl rfl rfl) (cX (pv 2)) (bf (by kernel_rfl)) (fun _ _ _ _ _=>by exact bb (i:=10) nd rfl (Or.inl rfl)) (fun _ _ _ _ _=>by exact bG) (fun _ _ _ _ _=>by exact ao c9 (cf bK af) (pv 10)))
   (ab (aw (i:=7) nd rfl (Or.inl rfl) (fe MP hr2 (aa (fe MT hr3 (aa (pv 0) (aa (pv 3) ag))) (aa (ao c9 (bh T.far) (pv 3)) (aa (pv 5) (aa (pv 6) (aa gI (aa af ag))))))))
   (ab (aw (i:=8) nd rfl (Or.inl rfl) (ao aF (aq aJ (cI ML hr (fe MS hr4 (aa (pv 1) (aa (pv 7) ag)))) af (fun _ _=>rfl)) (pv 4)))
   (ab (aw (i:=9) nd rfl (Or.inr rfl) (ao gf (pv 8) (pv 3)))
   (ak (aC (ao mG (aP (aa (ao fJ (pv 8) (pv 3)) ag)) (gR (own:=[("value",10)]) rfl nd (cX (pv 2)) (bf (by kernel_rfl)) (fun _ _ _ _ _=>by exact bb (i:=10) nd rfl (Or.inl rfl)) (fun _ _ _ _ _=>by exact bG)
    (fun _ _ _ _ _=>by exact aq (ue K rfl) (iu (v:=.ref aG) rfl T.signs rfl) (ao gf (ao fJ (pv 9) (pv 10)) af) (fun _ _=>rfl))))))))))))),?_⟩
  have hl:=hG.n100
  have h1:=hG.n1
  have hpl:=nG s.length
  have hw:Wok (rankP ns s):=⟨Int.le_refl _,by show (1:Int)<=8^64;decide+kernel,.inl rfl⟩
  have ok:SrOk s (rankP ns s):=og h132 hbd hG (kG h1) hw (by show ((Fs.ay s.length).map (-2*·)).length=_;simp [hpl]) (by show ((Fs.ay s.length).map (-1*·)).length=_;simp [hpl])
  have hsc:0<scl s.length/\scl s.length<2^1000:=by rw [iV h1];exact⟨bN _,jb hl⟩
  refine⟨_,rfl,sA,_,rfl,.inl hs,?_⟩
  rw [az]
  refine⟨s.length,rfl,h1,hl,fun H1 vA s1 hv=>?_⟩
  refine⟨_,rfl,vA,_,_,_,rfl,rfl,SqL.of hv,bC (i:=0) (by omega),_,_,rfl,rfl,.inr (by decide),?_⟩
  show tSeq _ _ _ [_,_,_,some (.int (scl s.length)),_,_,_,_,_,_,_] _
  refine⟨_,rfl,_,_,rfl,rfl,?_⟩
  refine⟨_,rfl,vA,rfl,⟨_,SqL.of hv⟩,fun D1 hD1=>?_⟩
  refine dA (fun x=>-2*x) hD1 (SqL.of hv) (by omega) (fun _=>rfl) (fun _ x H' Q' _ _ q=>⟨_,rfl,_,rfl,_,_,rfl,rfl,.inl (by decide),q⟩) (fun H2 s2 d2=>?_)
  refine⟨_,rfl,vA,rfl,⟨_,SqL.of (s2 _ _ hv)⟩,fun D2 hD2=>?_⟩
  refine dA (fun x=>-1*x) hD2 (SqL.of (s2 _ _ hv)) (by omega) (fun _=>rfl) (fun _ x H' Q' _ _ q=>⟨_,rfl,_,rfl,_,_,rfl,rfl,.inl (by decide),q⟩) (fun H3 s3 d3=>?_)
  have s23:=s2.trans s3
  have s13:=s1.trans s23
  dsimp only [gName,tSeq,tAsg]
  refine jR (K:=K) (CP:=CP) (CT:=CT) (z:=rankP ns s) (nA:=nA) (oA:=D1) (cA:=D2) (ns:=ns) (sc:=scl s.length) (m:=.non) (fun Q' q=>⟨_,rfl,_,rfl,q⟩) (fun H' Q' q=>⟨_,rfl,_,_,rfl,rfl,.inl (by decide),_,rfl,_,rfl,q⟩) (s13.seq hn) h132 hbd rfl ok.both (s3 _ _ d2) d3 rfl (fun H4 q s4 hq=>?_)
  have s14:=s13.trans s4
  dsimp only [gName,tOp]
  refine kd (K:=K) (CP:=CP) (CT:=CT) (sA:=sA) (pA:=q) (s:=s) (z:=rankP ns s) (fun Q' q=>⟨_,rfl,_,rfl,q⟩) (s14.seq hs) hq ok (fun H5 q5 s5 h5=>?_)
  have s15:=s14.trans s5
  refine⟨_,_,_,_,rfl,rfl,h5.sq,rfl,_,rfl,_,_,rfl,rfl,?_⟩
  have hv5:=s5 _ _ (s4 _ _ (s23 _ _ hv))
  unfold Fs.firstBest at k
  simp only at k
  have k:∀(H':Hp) (q:Addr),Same H H'->H' q=some (.lst (vi ((((Fs.least s (rankP ns s)).1+(scl s.length-1))/scl s.length)::(Fs.ay s.length).map fun v=>if ((Fs.least s (rankP ns s)).1+(scl s.length-1))%scl s.length/v%3=0 then 40 else if ((Fs.least s (rankP ns s)).1+(scl s.length-1))%scl s.length/v%3=1 then 41 else 46)))->Q (.ref q) H':=k
  generalize (Fs.least s (rankP ns s)).1+(scl s.length-1)=tot at k ⊢
  refine⟨_,rfl,_,rfl,_,_,rfl,rfl,hsc.1,?_⟩
  refine⟨_,rfl,_,rfl,_,_,rfl,rfl,hsc,(by show 1<=sizeLine;decide),fun a ha=>?_⟩
  dsimp only
  have s6:=aj (o:=.lst [.int (tot/scl s.length)]) ha
  have h6:(upd H5 a (.lst [.int (tot/scl s.length)])) a=some (.lst [.int (tot/scl s.length)]):=ae
  generalize upd H5 a (.lst [.int (tot/scl s.length)])=H6 at s6 h6 ⊢
  generalize tot%scl s.length=row at k ⊢
  refine⟨_,rfl,vA,rfl,⟨_,SqL.of (s6 _ _ hv5)⟩,fun D3 hD3=>?_⟩
  refine dA (fun v=>if row/v%3=0 then 40 else if row/v%3=1 then 41 else 46) hD3 (SqL.of (s6 _ _ hv5)) (by omega) (fun _=>rfl) (fun _ x H' Q' hx _ q=>?_) (fun H7 s7 d7=>?_)
  ·have hx3:=u9 hl (List.mem_of_getElem? hx)
   refine⟨_,rfl,_,rfl,_,_,rfl,rfl,hx3,_,_,rfl,rfl,(by show (0:Int)<3;decide),aG,_,_,_,rfl,rfl,T.signsIn _,?_,q⟩
   have m0:0<=row/x%3:=Int.emod_nonneg _ (by decide)
   have m3:row/x%3<3:=Int.emod_lt_of_pos _ (by decide)
   generalize row/x%3=y at m0 m3
   have:y=0\/y=1\/y=2:=by omega
   rcases this with rfl |rfl |rfl <;> rfl
  ·refine⟨a,D3,_,_,rfl,rfl,s7 _ _ h6,d7,?_,fun p hp=>?_⟩
   ·rw [az,List.length_map,hpl]
    exact line1000 (by show 1+s.length<=1000;omega)
   ·exact k _ p (((s15.trans s6).trans s7).trans (aj hp)) ae
end
end Pg
end
section
namespace Pg
open PySem PySem.Spec PyProof.Rows L2 L3
section
variable {P:Program}{w:World}{K:PySem.W.Frag}{mg:Str->Option Value}{base:Heap}{aS aL aG CS CR CA CP CT CW:Addr}
abbrev ni(o:List Nat):List Int:=o.map fun k:Nat=>(k:Int)
abbrev sParts:Stmt:=top 32
inductive jX(K:PySem.W.Frag)(vs:List V)(H:Hp)(Q:VK):Prop
 |mk:∀(sA fA:Addr) (s f:List Int),(vs=[.ref sA,.ref fA])->(SqL K H sA (vi s))->(SqL K H fA (vi f))->(f.length=s.length)->(s.length<=100)->((Fs.bO s f=none->∀H':Hp,Same H H'->Q .non H'))->(∀ps,Fs.bO s f=some ps->∀(H':Hp) (q:Addr),Same H H'->H' q=some (.lst (vi ps))->Q (.ref q) H')->jX K vs H Q
def spParts(K:PySem.W.Frag):Sp:=fun vs H Q _=>jX K vs H Q
theorem scParts:aB ["strand","fold","partners","waiting","place","sign","left"] ["strand","fold"] (ax sParts):=⟨rfl,rfl,rfl,by decide+kernel,rfl,by decide+kernel,by decide+kernel⟩
theorem qB{l:List Int}{i:Nat}{x:Int}(h:l[i]?=some x):l.drop i=x::l.drop (i+1):=by
 obtain⟨hi,rfl⟩:=List.getElem?_eq_some_iff.mp h
 exact List.drop_eq_getElem_cons hi
theorem qZ{f:Addr}{fd:FuncData}(F:Fun K "partners_of" "partners_of" sParts f fd)(T:Txt K mg aS aL aG)(FS:Fn P w K mg base 1 "sort_of" ["strand","left","right"] (spSortOf K)):FnOk P w K mg base CX0 2 f fd ["strand","fold"] (spParts K):=by
 refine F.ok scParts (fun vs H Q E h=>?_) (fun cdv A outer s H vs Q E hr h=>?_)
 ·obtain⟨_,_,_,_,rfl,_⟩:=h
  rfl
 ·obtain⟨sA,fA,s,f,rfl,hs,hf,hlen,h100,kn,ks⟩:=h
  have nd:=scParts.nd
  refine⟨_,ab (aw (i:=2) nd rfl (Or.inl rfl) (ao bT (aP (aa (cf bK af) ag)) (bc aV rfl T.len PySem.boot_len (aa (pv 0) ag))))
   (ab (aw (i:=3) nd rfl (Or.inl rfl) (aP ag))
   (ab (de PassesOwn.never rfl (kQ rfl T.enum (aa (pv 1) ag)) (dz (i:=4) (j:=5) K rfl rfl nd rfl rfl (Or.inl rfl) (Or.inl rfl) (.inr rfl) (.inr rfl))
    (ak (br (aK dv (pv 5) (bh T.opened) (aX _))
     (ak (bx (gb PySem.F.plainAttrs_list PySem.F.slot_list_append PySem.F.type_list_append cb (pv 3) (aa (pv 4) ag))))
     (ak (br (aK dv (pv 5) (bh T.closed) (aX _))
      (ab (br (qF (dH (iS (pv 3) (fun _=>rfl))) (mJ (aK dS (aW FS hr (aa (pv 0) (aa (aq au (pv 3) (cf bK af) (fun _ _=>rfl)) (aa (pv 4) ag)))) af (aX _)))).pt (ak (aC gI)) aQ)
      (ab (aw (i:=6) nd rfl (Or.inl rfl) (rh PySem.F.plainAttrs_list PySem.F.slot_list_pop PySem.F.type_list_pop uH (pv 3)))
      (ab (bY (pv 4) (bZ (pv 2) (pv 6) set_list))
      (ak (bY (pv 6) (bZ (pv 2) (pv 4) set_list))))))
      (ak (br (aK vI (pv 5) (bh T.dot) (aX _)) (ak (aC gI)) aQ)))))))
   (ak (aC (iH (iS (pv 3) (fun _=>rfl)) gI (pv 2)))))),?_⟩
  refine ir (n:=s.length) (x:=-1) (fun Q' q=>⟨_,rfl,q⟩) (fun H2 Q' s2 q=>⟨_,rfl,sA,_,rfl,.inl (s2.seq hs),by rw [az];exact q⟩) (by omega) (fun H1 pA s1 hpA hp=>?_)
  refine⟨(by show 0<=sizeLine;decide),fun wA hwA=>?_⟩
  have pw:pA≠wA:=fun e=>by rw [e,hwA] at hp;cases hp
  have w0:H wA=none:=s1.free hwA
  dsimp only [gName]
  refine⟨_,rfl,fA,_,rfl,(s1.trans (aj hwA)).seq hf,?_⟩
  refine lj (K:=K) (a:=fA) (xs:=vi f) (fun i σ H'=>∃(ps:List Int) (o:List Nat) (v4 v5 v6:Option V),σ=[some (.ref sA),some (.ref fA),some (.ref pA),some (.ref wA),v4,v5,v6]/\Same H H'/\H' pA=some (.lst (vi ps))/\H' wA=some (.lst (vi (ni o.reverse)))/\ps.length=s.length/\(∀x∈o,x<i)/\o.length<=i/\Fs.bO s f=Fs.pRun s i (f.drop i) ps o)
   ⟨List.replicate s.length (-1),[],_,_,_,rfl,s1.trans (aj hwA),ai hp pw,ae,by simp,by simp,by simp,rfl⟩ (fun i σ H' _ ⟨_,_,_,_,_,_,sm,_⟩=>sm.seq hf) ?_ ?_
  ·rintro i x TT σ H' hx ⟨ps,o,v4,v5,v6,rfl,sm,hp,hw,hl,ho,hol,e⟩ hTT
   obtain⟨c,hx2,rfl⟩:=cg hx
   have hi:i<s.length:=by have:=(List.getElem?_eq_some_iff.mp hx2).1;omega
   rw [qB hx2] at e
   unfold Fs.pRun at e
   have sT:=aj (o:=.tup [.int (i:Nat),.int c]) hTT
   have sm:=sm.trans sT
   have hp:=sT _ _ hp
   have hw:=sT _ _ hw
   refine⟨TT,_,rfl,SqT.of ae,rfl,_,_,rfl,_,_,rfl,rfl,?_⟩
   generalize upd H' TT (.tup [.int (i:Nat),.int c])=H1 at sT sm hp hw ⊢
   refine⟨_,rfl,rfl,_,rfl,?_⟩
   have wfr:∀(b:Addr) (u:HO),H b=some u->b≠wA:=fun b u q z=>by rw [z,w0] at q;cases q
   have pfr:∀(b:Addr) (u:HO),H b=some u->b≠pA:=fun b u q z=>by rw [z,hpA] at q;cases q
   refine ite2 (fun c1=>?_) (fun c1=>?_)
   ·have c1:c=40:=by
     have:=of_decide_eq_true c1
     injection this
    rw [if_pos c1] at e
    refine⟨_,rfl,.inl ⟨rfl,_,SqL.of hw⟩,_,rfl,wA,_,_,rfl,rfl,hw,small1000 (by rw [az,List.length_map,List.length_reverse];omega),?_⟩
    refine⟨ps,i::o,_,_,_,rfl,fun b u q=>ai (sm b u q) (wfr b u q),ai hp pw,?_,hl,fun y hy=>?_,by simp only [List.length_cons];omega,e⟩
    ·rw [ae]
     simp [vi,ni]
    ·rcases List.mem_cons.mp hy with rfl |hy
     ·omega
     ·have:=ho y hy;omega
   ·have c1:¬c=40:=fun z=>c1 (decide_eq_true (by rw [z]))
    rw [if_neg c1] at e
    refine⟨_,rfl,rfl,_,rfl,?_⟩
    refine ite2 (fun c2=>?_) (fun c2=>?_)
    ·have c2:c=41:=by
      have:=of_decide_eq_true c2
      injection this
     rw [if_pos c2] at e
     refine⟨_,rfl,_,.inl ⟨_,SqL.of hw,rfl⟩,?_⟩
     cases o with
     |nil=>exact kn e _ sm
     |cons j o=>
      simp only at e
      have hj:=ho j (by simp)
      have hne:(vi (ni (j::o).reverse)).isEmpty=false:=by simp [vi,ni]
      rw [hne]
      have hlast:atI (vi (ni (j::o).reverse)) (-1)=some (V.int (j:Int)):=by
       rw [kJ (by simp [ni])]
       congr 2
       simp [Fs.g,ni,List.getD_eq_getElem?_getD,List.getElem?_append_right]
      refine⟨_,rfl,_,rfl,_,rfl,wA,_,_,_,rfl,rfl,SqL.of hw,hlast,_,rfl,sA,s,j,i,rfl,sm.seq hs,by omega,hi,fun H2 s2=>⟨_,_,rfl,rfl,_,rfl,?_⟩⟩
      refine ite2 (fun c3=>?_) (fun c3=>?_)
      ·have c3:Fs.aE s j i<0:=of_decide_eq_true c3
       rw [if_pos c3] at e
       exact kn e _ (sm.trans s2)
      ·have c3:¬Fs.aE s j i<0:=fun z=>c3 (decide_eq_true z)
       rw [if_neg c3] at e
       have sm:=sm.trans s2
       have hp:=s2 _ _ hp
       have hw:=s2 _ _ hw
       have hpop:(vi (ni (j::o).reverse))[(vi (ni (j::o).reverse)).length-1]?=some (V.int (j:Int)):=by
        simp [vi,ni,List.getElem?_append_right]
       refine⟨_,rfl,.inl ⟨rfl,_,SqL.of hw⟩,wA,_,_,rfl,rfl,hw,hpop,?_⟩
       have hdl:(vi (ni (j::o).reverse)).dropLast=vi (ni o.reverse):=by
        simp [vi,ni]
       rw [hdl]
       have sm3:Same H (upd H2 wA (.lst (vi (ni o.reverse)))):=fun b u q=>ai (sm b u q) (wfr b u q)
       have hp3:(upd H2 wA (.lst (vi (ni o.reverse)))) pA=some (.lst (vi ps)):=ai hp pw
       have hw3:(upd H2 wA (.lst (vi (ni o.reverse)))) wA=some (.lst (vi (ni o.reverse))):=ae
       dsimp only [gName]
       generalize upd H2 wA (.lst (vi (ni o.reverse)))=H3 at sm3 hp3 hw3 ⊢
       refine⟨_,rfl,_,rfl,_,rfl,pA,_,_,j,rfl,rfl,hp3,bR (by rw [az];omega),?_⟩
       rw [bU]
       refine⟨_,rfl,_,rfl,_,rfl,pA,_,_,i,rfl,rfl,ae,bR (by rw [az,List.length_set];omega),?_⟩
       rw [bU]
       refine⟨_,o,_,_,_,rfl,fun b u q=>ai (ai (sm3 b u q) (pfr b u q)) (pfr b u q),ae,ai (ai hw3 (Ne.symm pw)) (Ne.symm pw),by simp [hl],fun y hy=>?_,?_,e⟩
       ·have:=ho y (by simp [hy]);omega
       ·simp only [List.length_cons] at hol;omega
    ·have c2:¬c=41:=fun z=>c2 (decide_eq_true (by rw [z]))
     rw [if_neg c2] at e
     refine⟨_,rfl,rfl,_,rfl,?_⟩
     refine ite2 (fun c3=>?_) (fun c3=>?_)
     ·have c3:¬c=46:=fun z=>by
       subst z
       revert c3
       decide
      rw [if_neg c3] at e
      exact kn e _ sm
     ·have c3:c=46:=by
       refine Decidable.byContradiction fun z=>c3 ?_
       show (!decide (V.int c=V.int 46))=true
       rw [decide_eq_false (fun q=>z (by injection q))];rfl
      rw [if_pos c3] at e
      exact⟨ps,o,_,_,_,rfl,sm,hp,hw,hl,fun y hy=>by have:=ho y hy;omega,by omega,e⟩
  ·rintro σ H' ⟨ps,o,v4,v5,v6,rfl,sm,hp,hw,hl,ho,hol,e⟩
   rw [az,List.drop_length] at e
   unfold Fs.pRun at e
   refine⟨_,rfl,_,.inl ⟨_,SqL.of hw,rfl⟩,?_⟩
   cases o with
   |nil=>
    rw [if_pos rfl] at e
    exact⟨_,rfl,ks ps e _ pA sm hp⟩
   |cons j o=>
    rw [if_neg (by simp)] at e
    have hne:(vi (ni (j::o).reverse)).isEmpty=false:=by simp [vi,ni]
    rw [hne]
    exact kn e _ sm
end
end Pg
end
section
namespace Pg
open PySem PySem.Spec PyProof.Rows L2 L3
section
variable {P:Program}{w:World}{K:PySem.W.Frag}{mg:Str->Option Value}{base:Heap}{aS aL aG CS CR CA CP CT CW:Addr}
structure TabLen(t:Fs.Tab):Prop where
 ends:t.ends.length=100
 sides:t.sides.length=100
 both:t.both.length=100
 stacks:t.stacks.length=36
abbrev sSngl:Stmt:=top 36
inductive ly(K:PySem.W.Frag)(CT:Addr)(vs:List V)(H:Hp)(Q:VK):Prop
 |mk:∀(ta sA oA iA:Addr) (s:List Int) (z:Fs.Prc) (l r p q:Nat),(vs=[.ref ta,.ref sA,.ref oA,.ref iA])->(TabAt CT H ta z.tab)->(TabLen z.tab)->(SqL K H sA (vi s))->(s.length<=100)->(Tup2 H oA ((l:Int),(r:Int)))->(Tup2 H iA ((p:Int),(q:Int)))->(l<p)->(p<q)->(q<r)->(r<s.length)->(0<=Fs.aE s l r)->(0<=Fs.aE s p q)->(∀H':Hp,Same H H'->Q (.int (Fs.single (Fs.zOf s z) l r p q)) H')->ly K CT vs H Q
def spSngl(K:PySem.W.Frag)(CT:Addr):Sp:=fun vs H Q _=>ly K CT vs H Q
theorem scSngl:aB ["tables","strand","outer","inner","before","behind"] ["tables","strand","outer","inner"] (ax sSngl):=⟨rfl,rfl,rfl,by decide+kernel,rfl,by decide+kernel,by decide+kernel⟩
theorem uj{f:Addr}{fd:FuncData}(F:Fun K "single_cost" "single_cost" sSngl f fd)(T:Txt K mg aS aL aG)(FT:ClsF K CT tabN)(FS:Fn P w K mg base 1 "sort_of" ["strand","left","right"] (spSortOf K)):FnOk P w K mg base CX0 2 f fd ["tables","strand","outer","inner"] (spSngl K CT):=by
 refine F.ok scSngl (fun vs H Q E h=>?_) (fun cdv A outer s H vs Q E hr h=>?_)
 ·obtain⟨_,_,_,_,_,_,_,_,_,_,rfl,_⟩:=h
  rfl
 ·obtain⟨ta,sA,oA,iA,s,z,l,r,p,q,rfl,hT,hL,hs,h100,ho,hi,h1,h2,h3,h4,so,si,k⟩:=h
  have nd:=scSngl.nd
  obtain⟨dxt,t1,t2,t3,t4,e0,e1,e2,e3,e4⟩:=hT.ex
  refine⟨_,ab (aw (i:=4) nd rfl (Or.inl rfl) (ao aN (ao aN (aq aJ (pv 3) af (fun _ _=>rfl)) (aq aJ (pv 2) af (fun _ _=>rfl))) af))
   (ab (aw (i:=5) nd rfl (Or.inl rfl) (ao aN (ao aN (aq aJ (pv 2) af (fun _ _=>rfl)) (aq aJ (pv 3) af (fun _ _=>rfl))) af))
   (ab (br (aK dv (ao aF (pv 4) (pv 5)) af (aX _))
    (ak (aC (aq au (ah (pv 0) rfl) (ao aF (ao c9 af (aW FS hr (aa (pv 1) (aa (aq aJ (pv 2) af (fun _ _=>rfl)) (aa (aq aJ (pv 2) af (fun _ _=>rfl)) ag)))))
     (aW FS hr (aa (pv 1) (aa (aq aJ (pv 3) af (fun _ _=>rfl)) (aa (aq aJ (pv 3) af (fun _ _=>rfl)) ag))))) (fun _ _=>rfl)))) aQ)
   (ab (br (qF (aK dv (pv 4) af (aX _)) (mJ (aK dv (pv 5) af (aX _)))).pt
    (ak (aC (aq au (ah (pv 0) rfl) (ao aF (pv 4) (pv 5)) (fun _ _=>rfl)))) aQ)
   (ak (aC (aq au (ah (pv 0) rfl) (ao aF (pv 4) (pv 5)) (fun _ _=>rfl))))))),?_⟩
  refine⟨_,rfl,_,_,_,_,rfl,rfl,hi.sq,rfl,_,rfl,_,_,_,_,rfl,rfl,ho.sq,rfl,_,_,rfl,rfl,_,_,rfl,rfl,?_⟩
  refine⟨_,rfl,_,_,_,_,rfl,rfl,ho.sq,rfl,_,rfl,_,_,_,_,rfl,rfl,hi.sq,rfl,_,_,rfl,rfl,_,_,rfl,rfl,?_⟩
  dsimp only [gName]
  have ex:(p:Int)-(l:Int)-1=((p-l-1:Nat):Int):=by omega
  have ey:(r:Int)-(q:Int)-1=((r-q-1:Nat):Int):=by omega
  rw [ex,ey]
  unfold Fs.single at k
  simp only at k
  have hxy:p-l-1+(r-q-1)<100:=by omega
  generalize p-l-1=x at k hxy
  generalize r-q-1=y at k hxy
  have exy:(x:Int)+(y:Int)=((x+y:Nat):Int):=by omega
  refine⟨_,rfl,_,rfl,_,_,rfl,rfl,rfl,_,rfl,?_⟩
  refine ite2 (fun c=>?_) (fun c=>?_)
  ·have c:(x:Int)+(y:Int)=0:=by
    have:=of_decide_eq_true c
    injection this
   rw [if_pos (by omega)] at k
   refine⟨_,rfl,ta,CT,dxt,_,_,rfl,e0,FT.cl,FT.no 0 _ rfl,rfl,?_⟩
   refine⟨_,rfl,_,rfl,_,_,_,_,rfl,rfl,ho.sq,rfl,_,rfl,_,_,_,_,rfl,rfl,ho.sq,rfl,sA,s,l,r,rfl,hs,by omega,h4,fun H1 s1=>⟨_,_,rfl,rfl,.inl (by decide),?_⟩⟩
   have hi1:Tup2 H1 iA ((p:Int),(q:Int)):=s1 _ _ hi
   refine⟨_,rfl,_,rfl,_,_,_,_,rfl,rfl,hi1.sq,rfl,_,rfl,_,_,_,_,rfl,rfl,hi1.sq,rfl,sA,s,p,q,rfl,s1.seq hs,by omega,by omega,fun H2 s2=>⟨_,_,rfl,rfl,?_⟩⟩
   have u1:=eS s l r
   have u2:=eS s p q
   exact⟨t1,_,_,_,rfl,rfl,SqL.of (s2 _ _ (s1 _ _ e1)),bq (i:=(6*Fs.aE s l r+Fs.aE s p q).toNat) (by omega) (by rw [hL.stacks];omega),k _ (s1.trans s2)⟩
  ·have c:¬(x:Int)+(y:Int)=0:=fun q=>c (decide_eq_true (by show V.int ((x:Int)+(y:Int))=V.int 0;rw [q]))
   rw [if_neg (by omega)] at k
   have k2:∀(b:Bool),b=decide (x=0\/y=0)->if b=true then tRet (tOp (rIxL K) (tFld K (tVar 0) "sides") (tOp (rI0 fun i j=>.int (i+j)) (tVar 4) (tVar 5))) {nx:=fun _ H'=>Q .non H',rt:=Q} [some (.ref ta),some (.ref sA),some (.ref oA),some (.ref iA),some (.int x),some (.int y)] H
     else tRet (tOp (rIxL K) (tFld K (tVar 0) "both_sides") (tOp (rI0 fun i j=>.int (i+j)) (tVar 4) (tVar 5))) {nx:=fun _ H'=>Q .non H',rt:=Q} [some (.ref ta),some (.ref sA),some (.ref oA),some (.ref iA),some (.int x),some (.int y)] H:=fun b hb=>by
    refine ite2 (fun d=>?_) (fun d=>?_)
    ·rw [d] at hb
     rw [if_pos (of_decide_eq_true hb.symm)] at k
     exact⟨_,rfl,ta,CT,dxt,_,_,rfl,e0,FT.cl,FT.no 2 _ rfl,rfl,_,rfl,_,rfl,_,_,rfl,rfl,t3,_,_,_,rfl,rfl,SqL.of e3,bq exy (by rw [hL.sides];exact hxy),k _ (Same.refl _)⟩
    ·have hb:false=decide (x=0\/y=0):=by rw [<-hb];exact (Bool.eq_false_iff.mpr d).symm
     rw [if_neg (of_decide_eq_false hb.symm)] at k
     exact⟨_,rfl,ta,CT,dxt,_,_,rfl,e0,FT.cl,FT.no 3 _ rfl,rfl,_,rfl,_,rfl,_,_,rfl,rfl,t4,_,_,_,rfl,rfl,SqL.of e4,bq exy (by rw [hL.both];exact hxy),k _ (Same.refl _)⟩
   refine⟨_,rfl,rfl,_,rfl,?_⟩
   refine ite2 (fun d=>?_) (fun d=>?_)
   ·have d:(x:Int)=0:=by
     have:=of_decide_eq_true d
     injection this
    exact k2 true (by rw [decide_eq_true (.inl (by omega))])
   ·have d:¬(x:Int)=0:=fun q=>d (decide_eq_true (by rw [q]))
    refine⟨_,rfl,rfl,_,rfl,k2 _ ?_⟩
    by_cases d2:y=0
    ·subst d2
     rw [decide_eq_true (by rfl),decide_eq_true (.inr rfl)]
    ·rw [decide_eq_false (by intro q;injection q with q;omega),decide_eq_false (by omega)]
abbrev sRight:Stmt:=top 35
inductive j6(K:PySem.W.Frag)(vs:List V)(H:Hp)(Q:VK):Prop
 |mk:∀(pA:Addr) (ps:List Int) (l:Nat) (a:Fs.T),(vs=[.ref pA,.int l])->(SqL K H pA (vi ps))->(l<ps.length)->(ps.length<=100)->(Fs.g ps l=((l+1+a.len:Nat):Int))->(Fs.Seg ps (l+1) a)->(∀(H':Hp) (q:Addr),Same H H'->H' q=some (.lst (vi (ni ((Fs.tops (l+1) a).map (·.1)))))->Q (.ref q) H')->j6 K vs H Q
def spRight(K:PySem.W.Frag):Sp:=fun vs H Q _=>j6 K vs H Q
theorem scRight:aB ["partners","left","starts","place"] ["partners","left"] (ax sRight):=⟨rfl,rfl,rfl,by decide+kernel,rfl,by decide+kernel,by decide+kernel⟩
theorem qS{f:Addr}{fd:FuncData}(F:Fun K "right_within" "right_within" sRight f fd)(T:Txt K mg aS aL aG):FnOk P w K mg base CX0 1 f fd ["partners","left"] (spRight K):=by
 refine F.ok scRight (fun vs H Q E h=>?_) (fun cdv A outer s H vs Q E hr h=>?_)
 ·obtain⟨_,_,_,_,rfl,_⟩:=h
  rfl
 ·obtain⟨pA,ps,l,a,rfl,hp,hl,h100,hg,hseg,k⟩:=h
  have nd:=scRight.nd
  refine⟨_,ab (aw (i:=2) nd rfl (Or.inl rfl) (aP ag))
   (ab (aw (i:=3) nd rfl (Or.inl rfl) (ao aF (pv 1) af))
   (ab (jr PassesOwn.never (aK dS (pv 3) (aq au (pv 0) (pv 1) (fun _ _=>rfl)) (aX _))
    (ab (br (aK sC (aq au (pv 0) (pv 3) (fun _ _=>rfl)) af (aX _))
     (ab (bx (gb PySem.F.plainAttrs_list PySem.F.slot_list_append PySem.F.type_list_append cb (pv 2) (aa (pv 3) ag)))
     (ak (aw (i:=3) nd rfl (Or.inl rfl) (aq au (pv 0) (pv 3) (fun _ _=>rfl))))) aQ)
    (ak (qP (i:=3) nd rfl (Or.inl rfl) af mX))))
   (ak (aC (pv 2))))),?_⟩
  refine⟨(by show 0<=sizeLine;decide),fun qA hq=>?_⟩
  dsimp only [gName]
  refine⟨_,rfl,_,_,rfl,rfl,?_⟩
  dsimp only [gName]
  have qfr:∀(b:Addr) (u:HO),H b=some u->b≠qA:=fun b u q z=>by rw [z,hq] at q;cases q
  refine iY (fun m σ H'=>∃(u:Fs.T) (p:Nat) (st:List Nat),m=u.len/\σ=[some (.ref pA),some (.int l),some (.ref qA),some (.int p)]/\Same H H'/\H' qA=some (.lst (vi (ni st)))/\Fs.Seg ps p u/\p+u.len=l+1+a.len/\st++(Fs.tops p u).map (·.1)=(Fs.tops (l+1) a).map (·.1)/\st.length<=p) a.len
   ⟨a,l+1,[],rfl,rfl,aj hq,ae,hseg,rfl,rfl,Nat.zero_le _⟩ ?_
  rintro m σ H1 ⟨u,p,st,rfl,rfl,sm,hqA,hu,hpu,hst,hsl⟩
  refine⟨_,rfl,_,rfl,_,rfl,pA,_,_,_,rfl,rfl,sm.seq hp,bC hl,_,_,rfl,rfl,_,rfl,?_⟩
  rw [hg]
  have hsg:=hu.len
  refine ite2 (fun c=>?_) (fun c=>?_)
  ·have c:(p:Int)<((l+1+a.len:Nat):Int):=of_decide_eq_true c
   refine⟨fun σ' H'=>∃m',m'<u.len/\∃(u:Fs.T) (p:Nat) (st:List Nat),m'=u.len/\σ'=[some (.ref pA),some (.int l),some (.ref qA),some (.int p)]/\Same H H'/\H' qA=some (.lst (vi (ni st)))/\Fs.Seg ps p u/\p+u.len=l+1+a.len/\st++(Fs.tops p u).map (·.1)=(Fs.tops (l+1) a).map (·.1)/\st.length<=p,fun _ _ z=>z,?_⟩
   have hpl:p<ps.length:=by omega
   refine⟨_,rfl,_,rfl,pA,_,_,_,rfl,rfl,sm.seq hp,bC (i:=p) hpl,_,_,rfl,rfl,_,rfl,?_⟩
   cases u with
   |nil=>simp only [Fs.T.len] at hpu;omega
   |dot u=>
    obtain⟨g1,g2⟩:=hu.dot
    rw [g1]
    refine⟨_,rfl,_,_,rfl,rfl,?_⟩
    simp only [Fs.T.len] at hpu ⊢
    exact⟨u.len,by omega,u,p+1,st,rfl,rfl,sm,hqA,g2,by omega,hst,by omega⟩
   |pr c b=>
    obtain⟨g1,g2,g3,g4⟩:=hu.pr
    rw [g1]
    rw [decide_eq_true (show (0:Int)<=((p+1+c.len:Nat):Int) by omega)]
    simp only [Fs.T.len] at hpu ⊢
    refine⟨_,rfl,.inl ⟨rfl,_,SqL.of hqA⟩,_,rfl,qA,_,_,rfl,rfl,hqA,small1000 (by rw [az,List.length_map];omega),?_⟩
    have sm2:Same H (upd H1 qA (.lst (vi (ni st)++[.int (p:Int)]))):=fun b u q=>ai (sm b u q) (qfr b u q)
    have hq2:(upd H1 qA (.lst (vi (ni st)++[.int (p:Int)]))) qA=some (.lst (vi (ni (st++[p])))):=by rw [ae];simp [vi,ni]
    dsimp only
    generalize upd H1 qA (.lst (vi (ni st)++[.int (p:Int)]))=H2 at sm2 hq2 ⊢
    refine⟨_,rfl,_,rfl,pA,_,_,_,rfl,rfl,sm2.seq hp,bC (i:=p) hpl,?_⟩
    rw [g1]
    refine⟨_,rfl,_,_,rfl,rfl,?_⟩
    refine⟨b.len,by omega,b,p+2+c.len,st++[p],rfl,?_,sm2,hq2,g4,by omega,?_,by simp only [List.length_append,List.length_cons,List.length_nil];omega⟩
    ·show [_,_,_,some (V.int (((p+1+c.len:Nat):Int)+1))]=_
     rw [show ((p+1+c.len:Nat):Int)+1=((p+2+c.len:Nat):Int) by omega]
    ·simp only [Fs.tops,List.map_cons] at hst
     rw [List.append_assoc];exact hst
  ·have c:¬(p:Int)<((l+1+a.len:Nat):Int):=fun z=>c (decide_eq_true z)
   have hz:u=.nil:=by
    cases u with
    |nil=>rfl
    |dot u=>simp only [Fs.T.len] at hpu;omega
    |pr c b=>simp only [Fs.T.len] at hpu;omega
   subst hz
   simp only [Fs.tops,List.map_nil,List.append_nil] at hst
   rw [hst] at hqA
   exact⟨_,rfl,k _ qA sm hqA⟩
abbrev sLoop:Stmt:=top 34
inductive lz(K:PySem.W.Frag)(CT:Addr)(vs:List V)(H:Hp)(Q:VK):Prop
 |mk:∀(ta sA pA:Addr) (s ps:List Int) (z:Fs.Prc) (l:Nat) (a:Fs.T),(vs=[.ref ta,.ref sA,.ref pA,.int l])->(TabAt CT H ta z.tab)->(TabLen z.tab)->(SqL K H sA (vi s))->(SqL K H pA (vi ps))->(s.length<=100)->(ps.length=s.length)->(Fs.g ps l=((l+1+a.len:Nat):Int))->(Fs.Seg ps (l+1) a)->(Fs.alOf s l (l+1+a.len))->(Fs.Ok (Fs.alOf s) (l+1) a)->(∀H':Hp,Same H H'->Q (.int (Fs.loopc (Fs.zOf s z) l a)) H')->lz K CT vs H Q
def spLoop(K:PySem.W.Frag)(CT:Addr):Sp:=fun vs H Q _=>lz K CT vs H Q
theorem scLoop:aB ["tables","strand","partners","left","right","inner","unpaired","start"] ["tables","strand","partners","left"] (ax sLoop):=⟨rfl,rfl,rfl,by decide+kernel,rfl,by decide+kernel,by decide+kernel⟩
theorem ko:∀t:Fs.T,t.ntop<=t.len
 |.nil=>Nat.le_refl _
 |.dot t=>by have:=ko t;simp only [Fs.T.ntop,Fs.T.len];omega
 |.pr a b=>by have:=ko b;simp only [Fs.T.ntop,Fs.T.len];omega
theorem kc:∀(l:List (Nat × Nat)) (ps:List Int),(∀q∈l,Fs.g ps q.1=(q.2:Int)/\q.1<q.2)->((ni (l.map (·.1))).map fun x=>Fs.g ps x.toNat-x+1).sum=(((l.map fun q=>q.2-q.1+1).sum:Nat):Int)
 |[],_,_=>rfl
 |q::l,ps,h=>by
  have h1:=h q (by simp)
  have ih:=kc l ps fun x hx=>h x (by simp [hx])
  simp only [List.map_cons,List.sum_cons,ni,Int.toNat_natCast,h1.1] at ih ⊢
  rw [ih]
  omega
theorem tL{f:Addr}{fd:FuncData}(F:Fun K "loop_cost" "loop_cost" sLoop f fd)(T:Txt K mg aS aL aG)(FT:ClsF K CT tabN)(FR:Fn P w K mg base 1 "right_within" ["partners","left"] (spRight K))(F1:Fn P w K mg base 2 "single_cost" ["tables","strand","outer","inner"] (spSngl K CT)):
  FnOk P w K mg base CX0 3 f fd ["tables","strand","partners","left"] (spLoop K CT):=by
 refine F.ok scLoop (fun vs H Q E h=>?_) (fun cdv A outer s H vs Q E hr h=>?_)
 ·obtain⟨_,_,_,_,_,_,_,_,rfl,_⟩:=h
  rfl
 ·obtain⟨ta,sA,pA,s,ps,z,l,a,rfl,hT,hL,hs,hp,h100,hlp,hg,hseg,hal,hok,k⟩:=h
  have nd:=scLoop.nd
  have hr1:Room 1 _:=hr.mono (by decide)
  refine⟨_,ab (aw (i:=4) nd rfl (Or.inl rfl) (aq au (pv 2) (pv 3) (fun _ _=>rfl)))
   (ab (aw (i:=5) nd rfl (Or.inl rfl) (aW FR hr1 (aa (pv 2) (aa (pv 3) ag))))
   (ab (aw (i:=6) nd rfl (Or.inl rfl) (ao aN (ao aN (ao aN (pv 4) (pv 3)) af) (bc (kZ rfl) rfl T.sum boot_sum (aa (gR (own:=[("start",7)]) rfl nd (cX (pv 5)) (bf (by kernel_rfl)) (fun _ _ _ _ _=>by exact bb (i:=7) nd rfl (Or.inl rfl)) (fun _ _ _ _ _=>by exact bG)
    (fun _ _ _ _ _=>by exact ao aF (ao aN (aq (cE K rfl) (pv 2) (pv 7) (fun _ _=>rfl)) (pv 7)) af)) ag))))
   (ab (br (dH (iS (pv 5) (fun _=>rfl))) (ak (aC (aq au (ah (pv 0) rfl) (pv 6) (fun _ _=>rfl)))) aQ)
   (ab (br (aK dv (bc aV rfl T.len PySem.boot_len (aa (pv 5) ag)) af (aX _))
    (ak (aC (aW F1 hr (aa (pv 0) (aa (pv 1) (aa (b0 (aa (pv 3) (aa (pv 4) ag))) (aa (b0 (aa (aq au (pv 5) af (fun _ _=>rfl)) (aa (aq au (pv 2) (aq au (pv 5) af (fun _ _=>rfl)) (fun _ _=>rfl)) ag))) ag))))))) aQ)
   (ak (aC (ao aF (ao aF (ah (pv 0) rfl) (ao c9 (ao aF (bc aV rfl T.len PySem.boot_len (aa (pv 5) ag)) af) (ah (pv 0) rfl))) (ao c9 (pv 6) (ah (pv 0) rfl))))))))),?_⟩
  have hll:l<ps.length:=by have:=hal.1;have:=hal.2.1;omega
  have hlen:=hseg.len
  have htp:=Fs.jn hseg
  have htl:=Fs.fW (l+1) a
  have hts:=Fs.fE (l+1) a
  have htn:a.ntop<=100:=by
   have:a.ntop<=a.len:=ko a
   omega
  refine⟨_,rfl,_,rfl,pA,_,_,_,rfl,rfl,hp,bC hll,?_⟩
  rw [hg]
  refine⟨_,rfl,_,rfl,pA,ps,l,a,rfl,hp,hll,by omega,hg,hseg,fun H1 iA s1 hiA=>?_⟩
  refine⟨_,rfl,_,rfl,_,_,rfl,rfl,_,_,rfl,rfl,_,rfl,iA,rfl,⟨_,SqL.of hiA⟩,fun D hD=>?_⟩
  refine dA (fun x=>Fs.g ps x.toNat-x+1) hD (SqL.of hiA) (by rw [List.length_map,List.length_map,htl];omega) (fun _=>rfl) (fun j x H' Q' hx sm q=>?_) (fun H2 s2 d2=>?_)
  ·obtain⟨y,hy,rfl⟩:=List.mem_map.mp (List.mem_of_getElem? hx)
   obtain⟨u,hu,rfl⟩:=List.mem_map.mp hy
   have:=htp u hu
   exact⟨_,rfl,_,rfl,pA,_,_,_,rfl,rfl,(s1.trans sm).seq hp,bq (i:=u.1) rfl (by omega),_,rfl,_,_,rfl,rfl,_,_,rfl,rfl,by simpa using q⟩
  refine⟨D,_,rfl,SqL.of d2,_,_,rfl,rfl,?_⟩
  rw [kc _ ps fun q hq=>⟨(htp q hq).1,(htp q hq).2.1⟩]
  have eu:((l+1+a.len:Nat):Int)-(l:Int)-1-(((Fs.tops (l+1) a).map fun q=>q.2-q.1+1).sum:Nat)=(a.ndot:Int):=by omega
  dsimp only [gName]
  rw [eu]
  have s12:=s1.trans s2
  have hi2:=s2 _ _ hiA
  have hnd:a.ndot<=99:=by have:=hal.2.1;omega
  obtain⟨dxt,t1,t2,t3,t4,e0,e1,e2,e3,e4⟩:=(hT.same s12).ex
  refine⟨_,rfl,_,.inl ⟨_,SqL.of hi2,rfl⟩,?_⟩
  unfold Fs.loopc at k
  by_cases c0:a.ntop=0
  ·rw [if_pos c0] at k
   have et:Fs.tops (l+1) a=[]:=List.length_eq_zero_iff.mp (by rw [htl,c0])
   rw [et]
   have el:a.ndot=a.len:=by rw [et] at hts;simpa using hts
   rw [el]
   exact⟨_,rfl,ta,CT,dxt,_,_,rfl,e0,FT.cl,FT.no 1 _ rfl,rfl,_,rfl,t2,_,_,_,rfl,rfl,SqL.of e2,bC (by rw [hL.ends];omega),k _ s12⟩
  ·rw [if_neg c0] at k
   have hne:(vi (ni ((Fs.tops (l+1) a).map (·.1)))).isEmpty=false:=by
    cases et:Fs.tops (l+1) a with
    |nil=>rw [et] at htl;simp at htl;omega
    |cons x y=>rfl
   rw [hne]
   refine⟨_,rfl,iA,_,rfl,.inl (SqL.of hi2),rfl,_,rfl,?_⟩
   have elen:(vi (ni ((Fs.tops (l+1) a).map (·.1)))).length=a.ntop:=by rw [az,List.length_map,List.length_map,htl]
   rw [elen]
   refine ite2 (fun c=>?_) (fun c=>?_)
   ·have c:a.ntop=1:=by
     have:=of_decide_eq_true c
     injection this with this
     omega
    rw [if_pos c] at k
    obtain⟨x,d,y,rfl⟩:=Fs.T.fV c
    rw [Fs.gi] at hi2 htp
    have htq:=htp (l+1+x,l+1+x+1+d.len) (by simp)
    rw [Fs.T.bV,Fs.T.ck,Fs.T.eU] at k
    have hi3:H2 iA=some (.lst (vi [((l+1+x:Nat):Int)])):=hi2
    simp only [Fs.T.bV] at hg hseg hal hlen htq
    refine⟨_,rfl,_,rfl,_,rfl,_,rfl,(by show 2<=sizeLine;decide),fun oA hoA=>?_⟩
    have s3:=aj (o:=.tup [.int (l:Int),.int ((l+1+(x+d.len+y+2):Nat):Int)]) hoA
    have ho3:Tup2 (upd H2 oA (.tup [.int (l:Int),.int ((l+1+(x+d.len+y+2):Nat):Int)])) oA ((l:Int),((l+1+(x+d.len+y+2):Nat):Int)):=ae
    rw [Fs.T.bV]
    generalize upd H2 oA (.tup [.int (l:Int),.int ((l+1+(x+d.len+y+2):Nat):Int)])=H3 at s3 ho3 ⊢
    have hi3:=s3 _ _ hi3
    have s13:=s12.trans s3
    refine⟨_,rfl,iA,_,_,_,rfl,rfl,SqL.of hi3,rfl,_,rfl,_,rfl,iA,_,_,_,rfl,rfl,SqL.of hi3,rfl,pA,_,_,_,rfl,rfl,s13.seq hp,bC (i:=l+1+x) (by omega),(by show 2<=sizeLine;decide),fun jA hjA=>?_⟩
    rw [htq.1]
    have s4:=aj (o:=.tup [.int ((l+1+x:Nat):Int),.int ((l+1+x+1+d.len:Nat):Int)]) hjA
    have s14:=s13.trans s4
    have hok2:Fs.alOf s (l+1+x) (l+1+x+1+d.len):=Fs.mD (q:=(l+1+x,l+1+x+1+d.len)) hok (Fs.kr (by rw [Fs.gi];simp))
    refine⟨ta,sA,oA,jA,s,z,l,l+1+(x+d.len+y+2),l+1+x,l+1+x+1+d.len,rfl,hT.same s14,hL,s14.seq hs,h100,s4 _ _ ho3,ae,by omega,by omega,by omega,hal.2.1,hal.2.2,hok2.2.2,fun H5 s5=>?_⟩
    have:=k H5 (s14.trans s5)
    rw [show l+1+(x+d.len+y+2)-1-(x+y-x)=l+1+x+1+d.len by omega] at this
    exact this
   ·have c:¬a.ntop=1:=fun q=>c (decide_eq_true (by rw [q];rfl))
    rw [if_neg c] at k
    refine⟨_,rfl,ta,CT,dxt,_,_,rfl,e0,FT.cl,FT.no 4 _ rfl,rfl,_,rfl,iA,_,rfl,.inl (SqL.of hi2),?_⟩
    rw [elen]
    exact⟨_,_,rfl,rfl,_,rfl,ta,CT,dxt,_,_,rfl,e0,FT.cl,FT.no 5 _ rfl,rfl,_,_,rfl,rfl,.inl ⟨by omega,by omega⟩,_,_,rfl,rfl,_,rfl,_,rfl,ta,CT,dxt,_,_,rfl,e0,FT.cl,FT.no 6 _ rfl,rfl,_,_,rfl,rfl,.inl ⟨by omega,by omega⟩,_,_,rfl,rfl,k _ s12⟩
abbrev sFold:Stmt:=top 33
inductive lP(K:PySem.W.Frag)(CT:Addr)(vs:List V)(H:Hp)(Q:VK):Prop
 |mk:∀(ta sA pA:Addr) (s ps:List Int) (z:Fs.Prc) (t:Fs.T),(vs=[.ref ta,.ref sA,.ref pA])->(TabAt CT H ta z.tab)->(TabLen z.tab)->(SqL K H sA (vi s))->(SqL K H pA (vi ps))->(s.length<=100)->(Fs.Rs (Fs.alOf s) s.length 0 t)->(ps=Fs.pt 0 t)->((∀l r,(Fs.zOf s z).ex l r=0))->(∀H':Hp,Same H H'->Q (.int (Fs.tcost (Fs.zOf s z) 0 t)) H')->lP K CT vs H Q
def spFold(K:PySem.W.Frag)(CT:Addr):Sp:=fun vs H Q _=>lP K CT vs H Q
theorem scFold:aB ["tables","strand","partners","total","place","partner"] ["tables","strand","partners"] (ax sFold):=⟨rfl,rfl,rfl,by decide+kernel,rfl,by decide+kernel,by decide+kernel⟩
theorem tO{f:Addr}{fd:FuncData}(F:Fun K "fold_cost" "fold_cost" sFold f fd)(T:Txt K mg aS aL aG)(FL:Fn P w K mg base 3 "loop_cost" ["tables","strand","partners","left"] (spLoop K CT)):FnOk P w K mg base CX0 4 f fd ["tables","strand","partners"] (spFold K CT):=by
 refine F.ok scFold (fun vs H Q E h=>?_) (fun cdv A outer s H vs Q E hr h=>?_)
 ·obtain⟨_,_,_,_,_,_,_,rfl,_⟩:=h
  rfl
 ·obtain⟨ta,sA,pA,s,ps,z,t,rfl,hT,hL,hs,hp,h100,hR,rfl,hex,k⟩:=h
  have nd:=scFold.nd
  refine⟨_,ab (aw (i:=3) nd rfl (Or.inl rfl) af)
   (ab (de PassesOwn.never rfl (kQ rfl T.enum (aa (pv 2) ag)) (dz (i:=4) (j:=5) K rfl rfl nd rfl rfl (Or.inl rfl) (Or.inl rfl) (.inr rfl) (.inr rfl))
    (ak (br (aK oz (pv 5) (pv 4) (aX _)) (ak (qP (i:=3) nd rfl (Or.inl rfl) (aW FL hr (aa (pv 0) (aa (pv 1) (aa (pv 2) (aa (pv 4) ag))))) mX)) aQ)))
   (ak (aC (pv 3)))),?_⟩
  have hseg:Fs.Seg (Fs.pt 0 t) 0 t:=⟨[],[],by simp,rfl⟩
  have hl2:=hR.2
  have hpl:(Fs.pt 0 t).length=s.length:=by rw [Fs.c8];omega
  dsimp only [gName]
  refine⟨_,rfl,pA,_,rfl,hp,?_⟩
  refine lj (K:=K) (a:=pA) (xs:=vi (Fs.pt 0 t)) (fun i σ H'=>∃(v4 v5:Option V),σ=[some (.ref ta),some (.ref sA),some (.ref pA),some (.int ((Fs.vl (Fs.zOf s z) 0 t).take i).sum),v4,v5]/\Same H H') ⟨_,_,rfl,Same.refl _⟩ (fun i σ H' _ ⟨_,_,_,sm⟩=>sm.seq hp) ?_ ?_
  ·rintro i x TT σ H' hx ⟨v4,v5,rfl,sm⟩ hTT
   obtain⟨c,hx2,rfl⟩:=cg hx
   have hi:i<t.len:=by have:=(List.getElem?_eq_some_iff.mp hx2).1;rw [Fs.c8] at this;exact this
   have hgc:Fs.g (Fs.pt 0 t) i=c:=by unfold Fs.g;rw [List.getD_eq_getElem?_getD,hx2];rfl
   have sT:=aj (o:=.tup [.int (i:Nat),.int c]) hTT
   have sm:=sm.trans sT
   refine⟨TT,_,rfl,SqT.of ae,rfl,_,_,rfl,_,_,rfl,rfl,?_⟩
   generalize upd H' TT (.tup [.int (i:Nat),.int c])=H1 at sT sm ⊢
   refine⟨_,rfl,_,rfl,_,_,rfl,rfl,_,rfl,?_⟩
   have hv:=Fs.oB (z:=Fs.zOf s z) hseg hR.1 i hi
   rw [Nat.zero_add] at hv
   rcases hv with⟨h1,h2⟩|⟨a,h1,h2,h3,h4,h5⟩
   ·refine ite2 (fun c1=>?_) (fun _=>?_)
    ·have c1:c > (i:Int):=of_decide_eq_true c1
     omega
    ·refine⟨some (.int i),some (.int c),?_,sm⟩
     have e:((Fs.vl (Fs.zOf s z) 0 t).take (i+1)).sum=((Fs.vl (Fs.zOf s z) 0 t).take i).sum:=by rw [take_snoc h2,Fs.sum_append];simp
     rw [e];rfl
   ·refine ite2 (fun _=>?_) (fun c1=>?_)
    ·refine⟨_,rfl,_,rfl,_,rfl,_,rfl,_,rfl,ta,sA,pA,s,_,z,i,a,rfl,hT.same sm,hL,sm.seq hs,sm.seq hp,h100,hpl,h1,h2,h3,h4,fun H2 s2=>⟨_,_,rfl,rfl,?_⟩⟩
     refine⟨some (.int i),some (.int c),?_,sm.trans s2⟩
     have e:((Fs.vl (Fs.zOf s z) 0 t).take (i+1)).sum=((Fs.vl (Fs.zOf s z) 0 t).take i).sum+Fs.loopc (Fs.zOf s z) i a:=by rw [take_snoc h5,Fs.sum_append];simp
     rw [e];rfl
    ·exact absurd (decide_eq_true (show c > (i:Int) by omega)) c1
  ·rintro σ H' ⟨v4,v5,rfl,sm⟩
   refine⟨_,rfl,?_⟩
   rw [List.take_of_length_le (by rw [Fs.gC,az,Fs.c8];exact Nat.le_refl _),Fs.mH hex]
   exact k _ sm
end
end Pg
end
section
namespace Pg
open PySem PySem.Spec PyProof.Rows L2 L3
abbrev lnF(cA:Addr)(p:Int)(nA:Addr):List (Str × V):=[("calls",.ref cA),("place",.int p),("numbers",.ref nA)]
abbrev lnN:List Str:=["calls","place","numbers"]
structure LnAt(K:PySem.W.Frag)(CL:Addr)(H:Hp)(lA cA:Addr)(l:List Int)(p:Nat)(nA:Addr)(ns:List Int):Prop where
 ob:∃dx,H lA=some (.ins CL dx (lnF cA p nA))
 cs:SqL K H cA (vi l)
 nm:SqL K H nA (vi ns)
structure NsOk(ns:List Int):Prop where
 len:ns.length=132
 bd:∀x∈ns,-10000<=x/\x<=10000
def aH(ns:List Int):Md22.Costs:=⟨ns.take 36,(ns.drop 36).take 31,(ns.drop 67).take 31,(ns.drop 98).take 31,ns.drop 129⟩
theorem NsOk.nums{ns:List Int}(h:NsOk ns):Fs.Nums ns (aH ns):=⟨h.len,h.bd,rfl⟩
theorem cY{s:List Int}(h:aY s=true):Fs.Good s:=by
 unfold aY at h
 simp only [Bool.and_eq_true,decide_eq_true_eq,List.all_eq_true] at h
 obtain⟨⟨h1,h2⟩,h3⟩:=h
 exact⟨fun x hx=>by have:=h3 x hx;omega,h1,h2⟩
def aCost(ns s f:List Int):List Int:=if aY s=true then (match Fs.bO s f with
 |none=>[-3]
 |some _=>[0,Md22.cost (aH ns) (Fs.nats s) (Fs.nats f)]) else [-1]
def aBest(ns s:List Int):List Int:=if aY s=true then 0::Fs.firstBest ns s else [-1]
def aCount(ns s:List Int):List Int:=if aY s=true then Fs.countFolds ns s else [-1]
def aPair(ns s:List Int)(x y:Int):List Int:=if aY s=true/\0<=x/\x<y/\y<s.length then Fs.countWithPair ns s x.toNat y.toNat else [-1]
section
variable {P:Program}{w:World}{K:PySem.W.Frag}{mg:Str->Option Value}{base:Heap}{aS aL aG CS CR CA CP CT CW CL:Addr}
theorem LnAt.same{H H':Hp}{lA cA nA:Addr}{l ns:List Int}{p:Nat}(h:LnAt K CL H lA cA l p nA ns)(s:Same H H'):LnAt K CL H' lA cA l p nA ns:=by
 obtain⟨dx,e⟩:=h.ob
 exact⟨⟨dx,s _ _ e⟩,s.seq h.cs,s.seq h.nm⟩
theorem Same.gr{H H':Hp}{p:Addr}(s:Same H H'):Grown p H H':=fun b o e _=>s b o e
theorem LnAt.put{H:Hp}{lA cA nA dx:Addr}{l ns:List Int}{p p':Nat}(h:LnAt K CL H lA cA l p nA ns)(e:H lA=some (.ins CL dx (lnF cA p nA))):LnAt K CL (upd H lA (.ins CL dx (lnF cA p' nA))) lA cA l p' nA ns:=
 ⟨⟨dx,ae⟩,eT Grown.upd e h.cs,eT Grown.upd e h.nm⟩
theorem LnAt.fr{H H':Hp}{lA cA nA a:Addr}{l ns:List Int}{p:Nat}(h:LnAt K CL H' lA cA l p nA ns)(g:Grown lA H H')(e:H' a=none):H a=none:=by
 obtain⟨dx,q⟩:=h.ob
 cases z:H a with
 |none=>rfl
 |some o=>
  have:=g a o z (fun y=>by rw [y,q] at e;cases e)
  rw [e] at this;cases this
abbrev sLnI:Stmt:=inClass (top 46) 0
inductive nP(K:PySem.W.Frag)(CL:Addr)(vs:List V)(H:Hp)(Q:VK):Prop
 |mk:∀(lA dx cA:Addr) (l:List Int),(vs=[.ref lA,.ref cA])->(H lA=some (.ins CL dx []))->(SqL K H cA (vi l))->(∀(H':Hp) (nA:Addr),LnAt K CL H' lA cA l 0 nA []->Grown lA H H'->H' nA=some (.lst [])->Q .non H')->nP K CL vs H Q
def spLnI(K:PySem.W.Frag)(CL:Addr):Sp:=fun vs H Q _=>nP K CL vs H Q
theorem scLnI:aB ["self","calls"] ["self","calls"] (ax sLnI):=⟨rfl,rfl,rfl,by decide+kernel,rfl,by decide+kernel,by decide+kernel⟩
theorem vj{f:Addr}{fd:FuncData}(F:Fun K "__init__" "Line.__init__" sLnI f fd)(FL:ClsF K CL lnN):FnOk P w K mg base CX0 1 f fd ["self","calls"] (spLnI K CL):=by
 refine F.ok scLnI (fun vs H Q E h=>?_) (fun cdv A outer s H vs Q E hr h=>?_)
 ·obtain⟨_,_,_,_,rfl,_⟩:=h
  rfl
 ·obtain⟨lA,dx,cA,l,rfl,hl,hc,k⟩:=h
  refine⟨_,ab (aT (pv 0) (pv 1) rfl) (ab (aT (pv 0) af rfl) (ak (aT (pv 0) (aP ag) rfl))),?_⟩
  refine⟨_,rfl,_,rfl,lA,CL,dx,_,rfl,hl,FL.cl,FL.no 0 _ rfl,(by show 0<1000;decide),?_⟩
  refine⟨_,rfl,lA,CL,dx,_,rfl,ae,FL.cl,FL.no 1 _ rfl,(by show 1<1000;decide),?_⟩
  have g1:Grown lA H (upd (upd H lA (.ins CL dx (putF "calls" (.ref cA) []))) lA (.ins CL dx (putF "place" (.int 0) (putF "calls" (.ref cA) [])))):=Grown.upd.trans Grown.upd
  have e1:(upd (upd H lA (.ins CL dx (putF "calls" (.ref cA) []))) lA (.ins CL dx (putF "place" (.int 0) (putF "calls" (.ref cA) [])))) lA=some (.ins CL dx [("calls",.ref cA),("place",.int 0)]):=by rw [ae];rfl
  dsimp only
  generalize upd (upd H lA (.ins CL dx (putF "calls" (.ref cA) []))) lA (.ins CL dx (putF "place" (.int 0) (putF "calls" (.ref cA) [])))=H1 at g1 e1 ⊢
  refine⟨(by show 0<=sizeLine;decide),fun nA hn=>⟨_,rfl,lA,CL,dx,_,rfl,aZ e1 hn,FL.cl,FL.no 2 _ rfl,(by show 2<1000;decide),?_⟩⟩
  have e2:upd H1 nA (.lst []) lA=some (.ins CL dx [("calls",.ref cA),("place",.int 0)]):=aZ e1 hn
  have g2:Grown lA H1 (upd (upd H1 nA (.lst [])) lA (.ins CL dx (lnF cA 0 nA))):=(Same.gr (aj hn)).trans Grown.upd
  have hnn:(upd (upd H1 nA (.lst [])) lA (.ins CL dx (lnF cA 0 nA))) nA=some (.lst []):=Grown.upd.lst e2 ae
  exact k _ nA ⟨⟨dx,ae⟩,eT (g1.trans g2) hl hc,SqL.of hnn⟩ (g1.trans g2) hnn
abbrev sReadN:Stmt:=inClass (top 46) 1
inductive jI(K:PySem.W.Frag)(CL:Addr)(vs:List V)(H:Hp)(Q:VK):Prop
 |mk:∀(lA cA nA:Addr) (l ns:List Int) (p:Nat),(vs=[.ref lA])->(LnAt K CL H lA cA l p nA ns)->(p<l.length)->(∀H':Hp,LnAt K CL H' lA cA l (p+1) nA ns->Grown lA H H'->Q (.int (Fs.g l p)) H')->jI K CL vs H Q
def spReadN(K:PySem.W.Frag)(CL:Addr):Sp:=fun vs H Q _=>jI K CL vs H Q
theorem scReadN:aB ["self","number"] ["self"] (ax sReadN):=⟨rfl,rfl,rfl,by decide+kernel,rfl,by decide+kernel,by decide+kernel⟩
theorem sZ{f:Addr}{fd:FuncData}(F:Fun K "read_number" "Line.read_number" sReadN f fd)(FL:ClsF K CL lnN):FnOk P w K mg base CX0 1 f fd ["self"] (spReadN K CL):=by
 refine F.ok scReadN (fun vs H Q E h=>?_) (fun cdv A outer s H vs Q E hr h=>?_)
 ·obtain⟨_,_,_,_,_,_,rfl,_⟩:=h
  rfl
 ·obtain⟨lA,cA,nA,l,ns,p,rfl,hA,hp,k⟩:=h
  have nd:=scReadN.nd
  obtain⟨dx,e⟩:=hA.ob
  refine⟨_,ab (aw (i:=1) nd rfl (Or.inl rfl) (aq au (ah (pv 0) rfl) (ah (pv 0) rfl) (fun _ _=>rfl)))
   (ab (kj (pv 0) af q0) (ak (aC (pv 1)))),?_⟩
  refine⟨_,rfl,lA,CL,dx,_,_,rfl,e,FL.cl,FL.no 0 _ rfl,rfl,_,rfl,lA,CL,dx,_,_,rfl,e,FL.cl,FL.no 1 _ rfl,rfl,cA,_,_,_,rfl,rfl,hA.cs,bC hp,?_⟩
  refine⟨_,rfl,lA,CL,dx,_,_,rfl,e,FL.cl,FL.no 1 _ rfl,rfl,_,_,rfl,rfl,dx,_,e,(by show 3<1000;decide),?_⟩
  exact⟨_,rfl,k _ (hA.put (p':=p+1) e) Grown.upd⟩
abbrev sReadR:Stmt:=inClass (top 46) 2
inductive j1(K:PySem.W.Frag)(CL:Addr)(vs:List V)(H:Hp)(Q:VK):Prop
 |mk:∀(lA cA nA:Addr) (l ns R:List Int) (p m:Nat),(vs=[.ref lA])->(LnAt K CL H lA cA l p nA ns)->(l.drop p=(m:Int)::R)->(m<=R.length)->(∀(H':Hp) (q:Addr),LnAt K CL H' lA cA l (p+1+m) nA ns->Grown lA H H'->H q=none->H' q=some (.lst (vi (R.take m)))->Q (.ref q) H')->j1 K CL vs H Q
def spReadR(K:PySem.W.Frag)(CL:Addr):Sp:=fun vs H Q _=>j1 K CL vs H Q
theorem scReadR:aB ["self","size","row"] ["self"] (ax sReadR):=⟨rfl,rfl,rfl,by decide+kernel,rfl,by decide+kernel,by decide+kernel⟩
theorem drop_cons{l:List Int}{p:Nat}{x:Int}{R:List Int}(h:l.drop p=x::R):p<l.length/\Fs.g l p=x/\l.drop (p+1)=R:=by
 have hp:p<l.length:=by
  refine Decidable.byContradiction fun c=>?_
  rw [List.drop_eq_nil_of_le (by omega)] at h;cases h
 rw [List.drop_eq_getElem_cons hp] at h
 injection h with h1 h2
 refine⟨hp,?_,h2⟩
 unfold Fs.g
 rw [List.getD_eq_getElem?_getD,List.getElem?_eq_getElem hp,h1];rfl
theorem qC{f:Addr}{fd:FuncData}(F:Fun K "read_row" "Line.read_row" sReadR f fd)(FL:ClsF K CL lnN)(MN:Mt P w K mg base 1 CL "read_number" ["self"] (spReadN K CL)):FnOk P w K mg base CX0 2 f fd ["self"] (spReadR K CL):=by
 refine F.ok scReadR (fun vs H Q E h=>?_) (fun cdv A outer s H vs Q E hr h=>?_)
 ·obtain⟨_,_,_,_,_,_,_,_,rfl,_⟩:=h
  rfl
 ·obtain⟨lA,cA,nA,l,ns,R,p,m,rfl,hA,hd,hm,k⟩:=h
  have nd:=scReadR.nd
  obtain⟨hp,hg,hd2⟩:=drop_cons hd
  obtain⟨dx,e⟩:=hA.ob
  refine⟨_,ab (aw (i:=1) nd rfl (Or.inl rfl) (cI MN hr (pv 0)))
   (ab (aw (i:=2) nd rfl (Or.inl rfl) (dq eO (ah (pv 0) rfl) (bM (ah (pv 0) rfl)) (bM (ao aF (ah (pv 0) rfl) (pv 1)))))
   (ab (kj (pv 0) (pv 1) q0) (ak (aC (pv 2))))),?_⟩
  refine⟨_,rfl,lA,dx,_,rfl,e,rfl,lA,cA,nA,l,ns,p,rfl,hA,hp,fun H1 hA1 g1=>?_⟩
  rw [hg]
  obtain⟨dx1,e1⟩:=hA1.ob
  have hlen:l.length=p+1+R.length:=by
   have:=congrArg List.length hd
   simp only [List.length_drop,List.length_cons] at this
   omega
  refine⟨_,rfl,lA,CL,dx1,_,_,rfl,e1,FL.cl,FL.no 0 _ rfl,rfl,_,rfl,lA,CL,dx1,_,_,rfl,e1,FL.cl,FL.no 1 _ rfl,rfl,_,rfl,_,rfl,lA,CL,dx1,_,_,rfl,e1,FL.cl,FL.no 1 _ rfl,rfl,_,rfl,_,_,rfl,rfl,_,rfl,cA,_,rfl,hA1.cs,fun q hq=>?_⟩
  rw [show ((p+1:Nat):Int)+(m:Int)=((p+1+m:Nat):Int) by omega,ja (by omega) (by omega),show p+1+m-(p+1)=m by omega,hd2]
  have s2:=aj (o:=.lst (vi (R.take m))) hq
  have d2:(upd H1 q (.lst (vi (R.take m)))) q=some (.lst (vi (R.take m))):=ae
  dsimp only [gName]
  generalize upd H1 q (.lst (vi (R.take m)))=H2 at s2 d2 ⊢
  have hA2:=hA1.same s2
  have e2:=s2 _ _ e1
  refine⟨_,rfl,lA,CL,dx1,_,_,rfl,e2,FL.cl,FL.no 1 _ rfl,rfl,_,rfl,_,_,rfl,rfl,dx1,_,e2,(by show 3<1000;decide),?_⟩
  rw [show ((p+1:Nat):Int)+(m:Int)=((p+1+m:Nat):Int) by omega]
  exact⟨_,rfl,k _ q (hA2.put (p':=p+1+m) e2) ((g1.trans (Same.gr s2)).trans Grown.upd) (hA1.fr g1 hq) (Grown.upd.lst e2 d2)⟩
abbrev sACosts:Stmt:=top 49
inductive iJ(K:PySem.W.Frag)(CL:Addr)(vs:List V)(H:Hp)(Q:VK):Prop
 |mk:∀(lA cA nA:Addr) (l ns R:List Int) (p m:Nat),(vs=[.ref lA])->(LnAt K CL H lA cA l p nA ns)->(l.drop p=(m:Int)::R)->(m<=R.length)->(m<=1000)->(∀(H':Hp) (q nA':Addr),LnAt K CL H' lA cA l (p+1+m) nA' (if aU (R.take m)=true then R.take m else ns)->Grown lA H H'->nA'=nA\/H nA'=none->H q=none->H' q=some (.lst (vi (if aU (R.take m)=true then [0] else [-1])))->Q (.ref q) H')->iJ K CL vs H Q
def spACosts(K:PySem.W.Frag)(CL:Addr):Sp:=fun vs H Q _=>iJ K CL vs H Q
theorem scACosts:aB ["line","numbers"] ["line"] (ax sACosts):=⟨rfl,rfl,rfl,by decide+kernel,rfl,by decide+kernel,by decide+kernel⟩
theorem pC{f:Addr}{fd:FuncData}(F:Fun K "answer_costs" "answer_costs" sACosts f fd)(FL:ClsF K CL lnN)(MR:Mt P w K mg base 2 CL "read_row" ["self"] (spReadR K CL))(FT:Fn P w K mg base 1 "are_tables" ["numbers"] (spAreTables K)):FnOk P w K mg base CX0 3 f fd ["line"] (spACosts K CL):=by
 refine F.ok scACosts (fun vs H Q E h=>?_) (fun cdv A outer s H vs Q E hr h=>?_)
 ·obtain⟨_,_,_,_,_,_,_,_,rfl,_⟩:=h
  rfl
 ·obtain⟨lA,cA,nA,l,ns,R,p,m,rfl,hA,hd,hm,hm2,k⟩:=h
  have nd:=scACosts.nd
  have hr1:Room 1 _:=hr.mono (by decide)
  obtain⟨dx,e⟩:=hA.ob
  refine⟨_,ab (aw (i:=1) nd rfl (Or.inl rfl) (cI MR hr (pv 0)))
   (ab (br (dH (iO (aW FT hr1 (aa (pv 1) ag)))) (ak (aC (aP (aa (cf bK af) ag)))) aQ)
   (ab (aT (pv 0) (pv 1) rfl) (ak (aC (aP (aa af ag)))))),?_⟩
  refine⟨_,rfl,lA,dx,_,rfl,e,rfl,lA,cA,nA,l,ns,R,p,m,rfl,hA,hd,hm,fun H1 q hA1 g1 hf1 hq=>?_⟩
  refine⟨_,rfl,q,R.take m,rfl,SqL.of hq,by rw [List.length_take];omega,fun H2 s2=>⟨_,rfl,?_⟩⟩
  have hA2:=hA1.same s2
  have hq2:=s2 _ _ hq
  have g2:=g1.trans (Same.gr s2)
  cases c:aU (R.take m) with
  |false=>
   rw [c] at k
   refine⟨_,rfl,(by show 1<=sizeLine;decide),fun a ha=>k _ a nA (hA2.same (aj ha)) (g2.trans (Same.gr (aj ha))) (.inl rfl) (hA2.fr g2 ha) ae⟩
  |true=>
   rw [c] at k
   obtain⟨dx2,e2⟩:=hA2.ob
   refine⟨_,rfl,_,rfl,lA,CL,dx2,_,rfl,e2,FL.cl,FL.no 2 _ rfl,(by show 3<1000;decide),?_⟩
   refine⟨(by show 1<=sizeLine;decide),fun a ha=>?_⟩
   have hA3:LnAt K CL (upd H2 lA (.ins CL dx2 (lnF cA (p+1+m:Nat) q))) lA cA l (p+1+m) q (R.take m):=⟨⟨dx2,ae⟩,eT Grown.upd e2 hA2.cs,SqL.of (Grown.upd.lst e2 hq2)⟩
   exact k _ a q (hA3.same (aj ha)) ((g2.trans Grown.upd).trans (Same.gr (aj ha))) (.inr hf1) (hA3.fr (g2.trans Grown.upd) ha) ae
abbrev sACost:Stmt:=top 50
inductive jY(K:PySem.W.Frag)(CL:Addr)(vs:List V)(H:Hp)(Q:VK):Prop
 |mk:∀(lA cA nA:Addr) (l ns R R2:List Int) (p m m2:Nat),(vs=[.ref lA])->(LnAt K CL H lA cA l p nA ns)->(NsOk ns)->(l.drop p=(m:Int)::R)->(m<=R.length)->(R.drop m=(m2:Int)::R2)->(m2<=R2.length)->(m2=m)->((∀c∈R2.take m2,0<=c))->(∀(H':Hp) (q:Addr),LnAt K CL H' lA cA l (p+1+m+1+m2) nA ns->Grown lA H H'->H q=none->H' q=some (.lst (vi (aCost ns (R.take m) (R2.take m2))))->Q (.ref q) H')->jY K CL vs H Q
def spACost(K:PySem.W.Frag)(CL:Addr):Sp:=fun vs H Q _=>jY K CL vs H Q
theorem scACost:aB ["line","strand","fold","partners"] ["line"] (ax sACost):=⟨rfl,rfl,rfl,by decide+kernel,rfl,by decide+kernel,by decide+kernel⟩
theorem qK{f:Addr}{fd:FuncData}(F:Fun K "answer_cost" "answer_cost" sACost f fd)(FL:ClsF K CL lnN)(MR:Mt P w K mg base 2 CL "read_row" ["self"] (spReadR K CL))(FI:Fn P w K mg base 1 "is_strand" ["letters"] (spIsStrand K))(FP:Fn P w K mg base 2 "partners_of" ["strand","fold"] (spParts K))
  (MT:Mc P w K mg base 2 "Tables" CT ["self","numbers","scale"] (spTabI K CT)) (FF:Fn P w K mg base 4 "fold_cost" ["tables","strand","partners"] (spFold K CT)):FnOk P w K mg base CX0 5 f fd ["line"] (spACost K CL):=by
 refine F.ok scACost (fun vs H Q E h=>?_) (fun cdv A outer s H vs Q E hr h=>?_)
 ·obtain⟨_,_,_,_,_,_,_,_,_,_,rfl,_⟩:=h
  rfl
 ·obtain⟨lA,cA,nA,l,ns,R,R2,p,m,m2,rfl,hA,hns,hd,hm,hd2,hm2,rfl,hnn,k⟩:=h
  have nd:=scACost.nd
  have hr1:Room 1 _:=hr.mono (by decide)
  have hr2:Room 2 _:=hr.mono (by decide)
  have hr3:Room 3 _:=hr.mono (by decide)
  obtain⟨dx,e⟩:=hA.ob
  refine⟨_,ab (aw (i:=1) nd rfl (Or.inl rfl) (cI MR hr2 (pv 0)))
   (ab (aw (i:=2) nd rfl (Or.inl rfl) (cI MR hr2 (pv 0)))
   (ab (br (dH (iO (aW FI hr1 (aa (pv 1) ag)))) (ak (aC (aP (aa (cf bK af) ag)))) aQ)
   (ab (aw (i:=3) nd rfl (Or.inl rfl) (aW FP hr2 (aa (pv 1) (aa (pv 2) ag))))
   (ab (br (uQ (uP (pv 3))) (ak (aC (aP (aa (cf bK af) ag)))) aQ)
   (ak (aC (aP (aa af (aa (aW FF hr (aa (fe MT hr3 (aa (ah (pv 0) rfl) (aa af ag))) (aa (pv 1) (aa (pv 3) ag)))) ag))))))))),?_⟩
  refine⟨_,rfl,lA,dx,_,rfl,e,rfl,lA,cA,nA,l,ns,R,p,m2,rfl,hA,hd,hm,fun H1 q1 hA1 g1 _ hq1=>?_⟩
  obtain⟨dx1,e1⟩:=hA1.ob
  have hd3:l.drop (p+1+m2)=(m2:Int)::R2:=by
   rw [<-hd2,<-(drop_cons hd).2.2,List.drop_drop]
  refine⟨_,rfl,lA,dx1,_,rfl,e1,rfl,lA,cA,nA,l,ns,R2,p+1+m2,m2,rfl,hA1,hd3,hm2,fun H2 q2 hA2 g2 _ hq2=>?_⟩
  have hq1:=g2.lst e1 hq1
  have g2:=g1.trans g2
  refine⟨_,rfl,q1,R.take m2,rfl,SqL.of hq1,fun H3 s3=>⟨_,rfl,?_⟩⟩
  have hA3:=hA2.same s3
  have hq1:=s3 _ _ hq1
  have hq2:=s3 _ _ hq2
  have g3:=g2.trans (Same.gr s3)
  have hsl:(R2.take m2).length=(R.take m2).length:=by rw [List.length_take,List.length_take];omega
  generalize R2.take m2=fo at hq2 k hsl hnn
  generalize R.take m2=st at hq1 k hsl
  unfold aCost at k
  cases c:aY st with
  |false=>
   rw [c,if_neg (by simp)] at k
   exact⟨_,rfl,(by show 1<=sizeLine;decide),fun a ha=>k _ a (hA3.same (aj ha)) (g3.trans (Same.gr (aj ha))) (hA3.fr g3 ha) ae⟩
  |true=>
   rw [c,if_pos rfl] at k
   have hG:=cY c
   refine⟨_,rfl,_,rfl,q1,q2,st,fo,rfl,SqL.of hq1,SqL.of hq2,hsl,hG.n100,fun en H4 s4=>?_,fun ps es H4 q4 s4 hq4=>?_⟩
   ·rw [en] at k
    refine⟨_,rfl,_,rfl,?_⟩
    have g4:=g3.trans (Same.gr s4)
    exact⟨_,rfl,(by show 1<=sizeLine;decide),fun a ha=>k _ a ((hA3.same s4).same (aj ha)) (g4.trans (Same.gr (aj ha))) ((hA3.same s4).fr g4 ha) ae⟩
   ·rw [es] at k
    refine⟨_,rfl,_,rfl,?_⟩
    have g4:=g3.trans (Same.gr s4)
    have hA4:=hA3.same s4
    obtain⟨dx4,e4⟩:=hA4.ob
    have hq1:=s4 _ _ hq1
    refine⟨_,rfl,lA,CL,dx4,_,_,rfl,e4,FL.cl,FL.no 2 _ rfl,rfl,?_⟩
    intro x dx nx ndx nex
    refine⟨x,dx,nA,ns,1,rfl,ae,((aj ndx).trans (aj (by rw [aM (Ne.symm nex)];exact nx))).seq hA4.nm,hns.len,hns.bd,fun H5 hT g5=>⟨rfl,?_⟩⟩
    have s5:=eV nx ndx g5
    obtain⟨t,hR,hrow,hps⟩:=Fs.jw hG.pos hnn hsl es
    have tl:=oj hns.len 1
    refine⟨_,rfl,_,rfl,x,q1,q4,st,ps,Fs.aO ns st none 1,t,rfl,hT,⟨tl.1,tl.2.1,tl.2.2.1,tl.2.2.2⟩,SqL.of (s5 _ _ hq1),SqL.of (s5 _ _ hq4),hG.n100,hR,hps,fun a b=>?_,fun H6 s6=>?_⟩
    ·show Fs.g (List.replicate st.length 0) _+Fs.g (List.replicate st.length 0) _=0
     rw [Fs.gA,Fs.gA];rfl
    ·rw [Fs.jh hns.nums hG (by decide) hR,<-hrow]
     have s56:=s5.trans s6
     exact⟨(by show 2<=sizeLine;decide),fun a ha=>k _ a ((hA4.same s56).same (aj ha)) ((g4.trans (Same.gr s56)).trans (Same.gr (aj ha))) ((hA4.same s56).fr (g4.trans (Same.gr s56)) ha) ae⟩
end
end Pg
end
section
namespace Pg
open PySem PySem.Spec PyProof.Rows L2 L3
section
variable {P:Program}{w:World}{K:PySem.W.Frag}{mg:Str->Option Value}{base:Heap}{aS aL aG CS CR CA CP CT CW CL:Addr}
abbrev sABest:Stmt:=top 51
inductive jT(K:PySem.W.Frag)(CL:Addr)(vs:List V)(H:Hp)(Q:VK):Prop
 |mk:∀(lA cA nA:Addr) (l ns R:List Int) (p m:Nat),(vs=[.ref lA])->(LnAt K CL H lA cA l p nA ns)->(NsOk ns)->(l.drop p=(m:Int)::R)->(m<=R.length)->(∀(H':Hp) (q:Addr),LnAt K CL H' lA cA l (p+1+m) nA ns->Grown lA H H'->H q=none->H' q=some (.lst (vi (aBest ns (R.take m))))->Q (.ref q) H')->jT K CL vs H Q
def spABest(K:PySem.W.Frag)(CL:Addr):Sp:=fun vs H Q _=>jT K CL vs H Q
theorem scABest:aB ["line","strand"] ["line"] (ax sABest):=⟨rfl,rfl,rfl,by decide+kernel,rfl,by decide+kernel,by decide+kernel⟩
theorem qT{f:Addr}{fd:FuncData}(F:Fun K "answer_best" "answer_best" sABest f fd)(FL:ClsF K CL lnN)(MR:Mt P w K mg base 2 CL "read_row" ["self"] (spReadR K CL))(FI:Fn P w K mg base 1 "is_strand" ["letters"] (spIsStrand K))(FB:Fn P w K mg base 6 "first_best" ["numbers","strand"] (spFirst K)):FnOk P w K mg base CX0 7 f fd ["line"] (spABest K CL):=by
 refine F.ok scABest (fun vs H Q E h=>?_) (fun cdv A outer s H vs Q E hr h=>?_)
 ·obtain⟨_,_,_,_,_,_,_,_,rfl,_⟩:=h
  rfl
 ·obtain⟨lA,cA,nA,l,ns,R,p,m,rfl,hA,hns,hd,hm,k⟩:=h
  have nd:=scABest.nd
  have hr1:Room 1 _:=hr.mono (by decide)
  have hr2:Room 2 _:=hr.mono (by decide)
  obtain⟨dx,e⟩:=hA.ob
  refine⟨_,ab (aw (i:=1) nd rfl (Or.inl rfl) (cI MR hr2 (pv 0)))
   (ab (br (dH (iO (aW FI hr1 (aa (pv 1) ag)))) (ak (aC (aP (aa (cf bK af) ag)))) aQ)
   (ak (aC (ao mG (aP (aa af ag)) (aW FB hr (aa (ah (pv 0) rfl) (aa (pv 1) ag))))))),?_⟩
  refine⟨_,rfl,lA,dx,_,rfl,e,rfl,lA,cA,nA,l,ns,R,p,m,rfl,hA,hd,hm,fun H1 q1 hA1 g1 _ hq1=>?_⟩
  refine⟨_,rfl,q1,R.take m,rfl,SqL.of hq1,fun H3 s3=>⟨_,rfl,?_⟩⟩
  have hA3:=hA1.same s3
  have hq1:=s3 _ _ hq1
  have g3:=g1.trans (Same.gr s3)
  generalize R.take m=st at hq1 k
  unfold aBest at k
  cases c:aY st with
  |false=>
   rw [c,if_neg (by simp)] at k
   exact⟨_,rfl,(by show 1<=sizeLine;decide),fun a ha=>k _ a (hA3.same (aj ha)) (g3.trans (Same.gr (aj ha))) (hA3.fr g3 ha) ae⟩
  |true=>
   rw [c,if_pos rfl] at k
   have hG:=cY c
   refine⟨(by show 1<=sizeLine;decide),fun a ha=>?_⟩
   have s4:=aj (o:=.lst [.int 0]) ha
   have d4:(upd H3 a (.lst [.int 0])) a=some (.lst [.int 0]):=ae
   generalize upd H3 a (.lst [.int 0])=H4 at s4 d4 ⊢
   have hA4:=hA3.same s4
   obtain⟨dx4,e4⟩:=hA4.ob
   refine⟨_,rfl,lA,CL,dx4,_,_,rfl,e4,FL.cl,FL.no 2 _ rfl,rfl,_,rfl,nA,q1,ns,st,rfl,hA4.nm,SqL.of (s4 _ _ hq1),hns.len,hns.bd,hG,fun H5 q5 s5 hq5=>?_⟩
   have hfl:(Fs.firstBest ns st).length<=101:=by
    have:=hG.n100
    have e:(Fs.firstBest ns st).length=st.length+1:=by unfold Fs.firstBest;simp [nG]
    omega
   refine⟨a,q5,_,_,rfl,rfl,s5 _ _ d4,hq5,?_,fun b hb=>?_⟩
   ·rw [az]
    exact line1000 (by show 1+_<=1000;omega)
   ·have s45:=s4.trans s5
    exact k _ b ((hA3.same s45).same (aj hb)) ((g3.trans (Same.gr s45)).trans (Same.gr (aj hb))) ((hA3.same s45).fr (g3.trans (Same.gr s45)) hb) ae
abbrev sACount:Stmt:=top 52
inductive iz(K:PySem.W.Frag)(CL:Addr)(vs:List V)(H:Hp)(Q:VK):Prop
 |mk:∀(lA cA nA:Addr) (l ns R:List Int) (p m:Nat),(vs=[.ref lA])->(LnAt K CL H lA cA l p nA ns)->(NsOk ns)->(l.drop p=(m:Int)::R)->(m<=R.length)->(∀(H':Hp) (q:Addr),LnAt K CL H' lA cA l (p+1+m) nA ns->Grown lA H H'->H q=none->H' q=some (.lst (vi (aCount ns (R.take m))))->Q (.ref q) H')->iz K CL vs H Q
def spACount(K:PySem.W.Frag)(CL:Addr):Sp:=fun vs H Q _=>iz K CL vs H Q
theorem scACount:aB ["line","strand"] ["line"] (ax sACount):=⟨rfl,rfl,rfl,by decide+kernel,rfl,by decide+kernel,by decide+kernel⟩
theorem pQ{f:Addr}{fd:FuncData}(F:Fun K "answer_count" "answer_count" sACount f fd)(FL:ClsF K CL lnN)(MR:Mt P w K mg base 2 CL "read_row" ["self"] (spReadR K CL))(FI:Fn P w K mg base 1 "is_strand" ["letters"] (spIsStrand K))(FB:Fn P w K mg base 7 "count_folds" ["numbers","strand"] (spCount K)):FnOk P w K mg base CX0 8 f fd ["line"] (spACount K CL):=by
 refine F.ok scACount (fun vs H Q E h=>?_) (fun cdv A outer s H vs Q E hr h=>?_)
 ·obtain⟨_,_,_,_,_,_,_,_,rfl,_⟩:=h
  rfl
 ·obtain⟨lA,cA,nA,l,ns,R,p,m,rfl,hA,hns,hd,hm,k⟩:=h
  have nd:=scACount.nd
  have hr1:Room 1 _:=hr.mono (by decide)
  have hr2:Room 2 _:=hr.mono (by decide)
  obtain⟨dx,e⟩:=hA.ob
  refine⟨_,ab (aw (i:=1) nd rfl (Or.inl rfl) (cI MR hr2 (pv 0)))
   (ab (br (dH (iO (aW FI hr1 (aa (pv 1) ag)))) (ak (aC (aP (aa (cf bK af) ag)))) aQ)
   (ak (aC (aW FB hr (aa (ah (pv 0) rfl) (aa (pv 1) ag)))))),?_⟩
  refine⟨_,rfl,lA,dx,_,rfl,e,rfl,lA,cA,nA,l,ns,R,p,m,rfl,hA,hd,hm,fun H1 q1 hA1 g1 _ hq1=>?_⟩
  refine⟨_,rfl,q1,R.take m,rfl,SqL.of hq1,fun H3 s3=>⟨_,rfl,?_⟩⟩
  have hA3:=hA1.same s3
  have hq1:=s3 _ _ hq1
  have g3:=g1.trans (Same.gr s3)
  generalize R.take m=st at hq1 k
  unfold aCount at k
  cases c:aY st with
  |false=>
   rw [c,if_neg (by simp)] at k
   exact⟨_,rfl,(by show 1<=sizeLine;decide),fun a ha=>k _ a (hA3.same (aj ha)) (g3.trans (Same.gr (aj ha))) (hA3.fr g3 ha) ae⟩
  |true=>
   rw [c,if_pos rfl] at k
   have hG:=cY c
   obtain⟨dx4,e4⟩:=hA3.ob
   exact⟨_,rfl,lA,CL,dx4,_,_,rfl,e4,FL.cl,FL.no 2 _ rfl,rfl,_,rfl,nA,q1,ns,st,rfl,hA3.nm,SqL.of hq1,hns.len,hns.bd,hG,fun H5 q5 s5 hf5 hq5=>k _ q5 (hA3.same s5) (g3.trans (Same.gr s5)) (hA3.fr g3 hf5) hq5⟩
abbrev sAPair:Stmt:=top 53
inductive kb(K:PySem.W.Frag)(CL:Addr)(vs:List V)(H:Hp)(Q:VK):Prop
 |mk:∀(lA cA nA:Addr) (l ns R:List Int) (p m:Nat) (x y:Int),(vs=[.ref lA])->(LnAt K CL H lA cA l p nA ns)->(NsOk ns)->(l.drop p=x::y::(m:Int)::R)->(m<=R.length)->(∀(H':Hp) (q:Addr),LnAt K CL H' lA cA l (p+3+m) nA ns->Grown lA H H'->H q=none->H' q=some (.lst (vi (aPair ns (R.take m) x y)))->Q (.ref q) H')->kb K CL vs H Q
def spAPair(K:PySem.W.Frag)(CL:Addr):Sp:=fun vs H Q _=>kb K CL vs H Q
theorem scAPair:aB ["line","left","right","strand"] ["line"] (ax sAPair):=⟨rfl,rfl,rfl,by decide+kernel,rfl,by decide+kernel,by decide+kernel⟩
theorem rp{f:Addr}{fd:FuncData}(F:Fun K "answer_pair" "answer_pair" sAPair f fd)(T:Txt K mg aS aL aG)(FL:ClsF K CL lnN)(MN:Mt P w K mg base 1 CL "read_number" ["self"] (spReadN K CL))(MR:Mt P w K mg base 2 CL "read_row" ["self"] (spReadR K CL))(FI:Fn P w K mg base 1 "is_strand" ["letters"] (spIsStrand K))(FB:Fn P w K mg base 7 "count_with_pair" ["numbers","strand","left","right"] (spPairC K)):FnOk P w K mg base CX0 8 f fd ["line"] (spAPair K CL):=by
 refine F.ok scAPair (fun vs H Q E h=>?_) (fun cdv A outer s H vs Q E hr h=>?_)
 ·obtain⟨_,_,_,_,_,_,_,_,_,_,rfl,_⟩:=h
  rfl
 ·obtain⟨lA,cA,nA,l,ns,R,p,m,x,y,rfl,hA,hns,hd,hm,k⟩:=h
  have nd:=scAPair.nd
  have hr1:Room 1 _:=hr.mono (by decide)
  have hr2:Room 2 _:=hr.mono (by decide)
  obtain⟨dx,e⟩:=hA.ob
  refine⟨_,ab (aw (i:=1) nd rfl (Or.inl rfl) (cI MN hr1 (pv 0)))
   (ab (aw (i:=2) nd rfl (Or.inl rfl) (cI MN hr1 (pv 0)))
   (ab (aw (i:=3) nd rfl (Or.inl rfl) (cI MR hr2 (pv 0)))
   (ab (br (PW.pt (qF (dH (iO (aW FI hr1 (aa (pv 3) ag)))) (mJ (dH (pM lI dS dS af (pv 1) (pv 2) (bc aV rfl T.len PySem.boot_len (aa (pv 3) ag))))))) (ak (aC (aP (aa (cf bK af) ag)))) aQ)
   (ak (aC (aW FB hr (aa (ah (pv 0) rfl) (aa (pv 3) (aa (pv 1) (aa (pv 2) ag)))))))))),?_⟩
  obtain⟨b1,b2,b3⟩:=drop_cons hd
  obtain⟨b4,b5,b6⟩:=drop_cons b3
  refine⟨_,rfl,lA,dx,_,rfl,e,rfl,lA,cA,nA,l,ns,p,rfl,hA,b1,fun H1 hA1 g1=>?_⟩
  rw [b2]
  obtain⟨dx1,e1⟩:=hA1.ob
  refine⟨_,rfl,lA,dx1,_,rfl,e1,rfl,lA,cA,nA,l,ns,p+1,rfl,hA1,b4,fun H2 hA2 g2=>?_⟩
  rw [b5]
  have g2:=g1.trans g2
  obtain⟨dx2,e2⟩:=hA2.ob
  refine⟨_,rfl,lA,dx2,_,rfl,e2,rfl,lA,cA,nA,l,ns,R,p+1+1,m,rfl,hA2,b6,hm,fun H3 q3 hA3 g3 _ hq3=>?_⟩
  have g3:=g2.trans g3
  refine⟨_,rfl,q3,R.take m,rfl,SqL.of hq3,fun H4 s4=>⟨_,rfl,?_⟩⟩
  have hA4:=hA3.same s4
  have hq4:=s4 _ _ hq3
  have g4:=g3.trans (Same.gr s4)
  rw [show p+1+1+1+m=p+3+m by omega] at hA4
  generalize R.take m=st at hq4 k
  unfold aPair at k
  cases c:aY st with
  |false=>
   rw [c,if_neg (by simp)] at k
   exact⟨_,rfl,(by show 1<=sizeLine;decide),fun a ha=>k _ a (hA4.same (aj ha)) (g4.trans (Same.gr (aj ha))) (hA4.fr g4 ha) ae⟩
  |true=>
   rw [c] at k
   have hG:=cY c
   have bad:¬(0<=x/\x<y/\y<st.length)->tRet (tLst (tCons (tUn (rU fun i=>V.int (-i)) (tC (V.int 1))) tNil)) {nx:=fun _ H'=>Q .non H',rt:=Q} [some (.ref lA),some (.int x),some (.int y),some (.ref q3)] H4:=fun hb=>by
    rw [if_neg (fun z=>hb z.2)] at k
    exact⟨_,rfl,(by show 1<=sizeLine;decide),fun a ha=>k _ a (hA4.same (aj ha)) (g4.trans (Same.gr (aj ha))) (hA4.fr g4 ha) ae⟩
   refine⟨_,rfl,_,_,rfl,rfl,_,rfl,?_⟩
   by_cases c1:0<=x
   ·rw [show decide ((0:Int)<=x)=true from decide_eq_true c1]
    refine⟨_,rfl,_,_,rfl,rfl,_,rfl,?_⟩
    by_cases c2:x<y
    ·rw [show decide (x<y)=true from decide_eq_true c2]
     refine⟨_,rfl,q3,_,rfl,.inl (SqL.of hq4),?_⟩
     rw [az]
     refine⟨_,_,rfl,rfl,_,rfl,?_⟩
     by_cases c3:y<(st.length:Int)
     ·rw [show decide (y<(st.length:Int))=true from decide_eq_true c3]
      rw [if_pos ⟨rfl,c1,c2,c3⟩] at k
      obtain⟨dx5,e5⟩:=hA4.ob
      have ex:x=(x.toNat:Int):=by omega
      have ey:y=(y.toNat:Int):=by omega
      refine⟨_,rfl,lA,CL,dx5,_,_,rfl,e5,FL.cl,FL.no 2 _ rfl,rfl,_,rfl,_,rfl,_,rfl,nA,q3,ns,st,x.toNat,y.toNat,by rw [<-ex,<-ey];rfl,hA4.nm,SqL.of hq4,hns.len,hns.bd,hG,by omega,by omega,fun H5 q5 s5 hf5 hq5=>k _ q5 (hA4.same s5) (g4.trans (Same.gr s5)) (hA4.fr g4 hf5) hq5⟩
     ·rw [show decide (y<(st.length:Int))=false from decide_eq_false c3]
      exact bad (fun z=>c3 z.2.2)
    ·rw [show decide (x<y)=false from decide_eq_false c2]
     exact bad (fun z=>c2 z.2.1)
   ·rw [show decide ((0:Int)<=x)=false from decide_eq_false c1]
    exact bad (fun z=>c1 z.1)
end
end Pg
end
section
namespace Pg
open PySem PySem.Spec PyProof.Rows L2 L3
def aOf(ns:List Int)(c:List (List Int)):List Int × List Int:=match c with
 |[[1],r]=>if aU r=true then ([0],r) else ([-1],ns)
 |[[2],s,f]=>(aCost ns s f,ns)
 |[[3],s]=>(aBest ns s,ns)
 |[[4],s]=>(aCount ns s,ns)
 |[[5,x,y],s]=>(aPair ns s x y,ns)
 |_=>([],ns)
theorem dr(ns r:List Int):aOf ns [[1],r]=if aU r=true then ([0],r) else ([-1],ns):=rfl
def isCosts(c:List (List Int)):Prop:=∃r,c=[[1],r]
section
variable {P:Program}{w:World}{K:PySem.W.Frag}{mg:Str->Option Value}{base:Heap}{aS aL aG CS CR CA CP CT CW CL:Addr}
abbrev sCall:Stmt:=top 48
inductive l0(K:PySem.W.Frag)(CL:Addr)(vs:List V)(H:Hp)(Q:VK):Prop
 |mk:∀(lA cA nA:Addr) (l ns t:List Int) (p:Nat) (c:List (List Int)),(vs=[.ref lA])->(LnAt K CL H lA cA l p nA ns)->(Fs.Kind (l.drop p) c t)->(Md22Neutral.asked1 (PyMd22.whole c)=true)->((NsOk ns\/isCosts c))->(∀(H':Hp) (q nA':Addr) (p':Nat),l.drop p'=t->p<p'->LnAt K CL H' lA cA l p' nA' (aOf ns c).2->Grown lA H H'->nA'=nA\/H nA'=none->H q=none->H' q=some (.lst (vi (aOf ns c).1))->Q (.ref q) H')->l0 K CL vs H Q
def spCall(K:PySem.W.Frag)(CL:Addr):Sp:=fun vs H Q _=>l0 K CL vs H Q
theorem scCall:aB ["line","call"] ["line"] (ax sCall):=⟨rfl,rfl,rfl,by decide+kernel,rfl,by decide+kernel,by decide+kernel⟩
theorem um{f:Addr}{fd:FuncData}(F:Fun K "answer_call" "answer_call" sCall f fd)(T:Txt K mg aS aL aG)(FL:ClsF K CL lnN)(MN:Mt P w K mg base 1 CL "read_number" ["self"] (spReadN K CL))(F1:Fn P w K mg base 3 "answer_costs" ["line"] (spACosts K CL))(F2:Fn P w K mg base 5 "answer_cost" ["line"] (spACost K CL))
  (F3:Fn P w K mg base 7 "answer_best" ["line"] (spABest K CL)) (F4:Fn P w K mg base 8 "answer_count" ["line"] (spACount K CL)) (F5:Fn P w K mg base 8 "answer_pair" ["line"] (spAPair K CL)):FnOk P w K mg base CX0 9 f fd ["line"] (spCall K CL):=by
 refine F.ok scCall (fun vs H Q E h=>?_) (fun cdv A outer s H vs Q E hr h=>?_)
 ·obtain⟨_,_,_,_,_,_,_,_,rfl,_⟩:=h
  rfl
 ·obtain⟨lA,cA,nA,l,ns,t,p,c,rfl,hA,hk,hq,hns,k⟩:=h
  have nd:=scCall.nd
  have hr1:Room 1 _:=hr.mono (by decide)
  have hr3:Room 3 _:=hr.mono (by decide)
  have hr5:Room 5 _:=hr.mono (by decide)
  have hr7:Room 7 _:=hr.mono (by decide)
  obtain⟨dx,e⟩:=hA.ob
  refine⟨_,ab (aw (i:=1) nd rfl (Or.inl rfl) (cI MN hr1 (pv 0)))
   (ab (br (aK dv (pv 1) (bh T.costs) (aX _)) (ak (aC (aW F1 hr3 (aa (pv 0) ag)))) aQ)
   (ab (br (aK dv (pv 1) (bh T.cost) (aX _)) (ak (aC (aW F2 hr5 (aa (pv 0) ag)))) aQ)
   (ab (br (aK dv (pv 1) (bh T.best) (aX _)) (ak (aC (aW F3 hr7 (aa (pv 0) ag)))) aQ)
   (ab (br (aK dv (pv 1) (bh T.count) (aX _)) (ak (aC (aW F4 hr (aa (pv 0) ag)))) aQ)
   (ak (aC (aW F5 hr (aa (pv 0) ag)))))))),?_⟩
  have nso:¬isCosts c->NsOk ns:=fun h=>hns.resolve_right h
  generalize hL:l.drop p=L at hk
  cases hk with
  |costs m R hm=>
   obtain⟨b1,b2,b3⟩:=drop_cons hL
   have hl:=Fs.cG hq
   rw [List.length_take] at hl
   have em:m=132:=by omega
   refine⟨_,rfl,lA,dx,_,rfl,e,rfl,lA,cA,nA,l,ns,p,rfl,hA,b1,fun H1 hA1 g1=>?_⟩
   rw [b2]
   refine⟨_,rfl,rfl,_,rfl,?_⟩
   refine⟨_,rfl,lA,cA,nA,l,ns,R,p+1,m,rfl,hA1,b3,hm,by omega,fun H2 q nA' hA2 g2 hn2 hf2 hq2=>?_⟩
   have ea:aOf ns [[1],R.take m]=(if aU (R.take m)=true then [0] else [-1],if aU (R.take m)=true then R.take m else ns):=by
    rw [dr]
    split <;> rfl
   refine k H2 q nA' (p+1+1+m) ?_ (by omega) (by rw [ea];exact hA2) (g1.trans g2) (hn2.imp id (hA1.fr g1)) (hA1.fr g1 hf2) (by rw [ea];exact hq2)
   rw [<-(drop_cons b3).2.2,List.drop_drop]
  |cost m R m2 R2 hm hd hm2=>
   obtain⟨b1,b2,b3⟩:=drop_cons hL
   obtain⟨a1,a2,a3⟩:=Fs.iL hq
   rw [List.length_take,List.length_take] at a1
   refine⟨_,rfl,lA,dx,_,rfl,e,rfl,lA,cA,nA,l,ns,p,rfl,hA,b1,fun H1 hA1 g1=>?_⟩
   rw [b2]
   refine⟨_,rfl,rfl,_,rfl,?_⟩
   refine⟨_,rfl,rfl,_,rfl,?_⟩
   refine⟨_,rfl,lA,cA,nA,l,ns,R,R2,p+1,m,m2,rfl,hA1,nso (fun ⟨r,z⟩=>by cases z),b3,hm,hd,hm2,by omega,a3,fun H2 q hA2 g2 hf2 hq2=>?_⟩
   refine k H2 q nA (p+1+1+m+1+m2) ?_ (by omega) hA2 (g1.trans g2) (.inl rfl) (hA1.fr g1 hf2) hq2
   have e1:l.drop (p+1+1+m)=(m2:Int)::R2:=by rw [<-hd,<-(drop_cons b3).2.2,List.drop_drop]
   rw [<-(drop_cons e1).2.2,List.drop_drop]
  |best m R hm=>
   obtain⟨b1,b2,b3⟩:=drop_cons hL
   refine⟨_,rfl,lA,dx,_,rfl,e,rfl,lA,cA,nA,l,ns,p,rfl,hA,b1,fun H1 hA1 g1=>?_⟩
   rw [b2]
   refine⟨_,rfl,rfl,_,rfl,?_⟩
   refine⟨_,rfl,rfl,_,rfl,?_⟩
   refine⟨_,rfl,rfl,_,rfl,?_⟩
   refine⟨_,rfl,lA,cA,nA,l,ns,R,p+1,m,rfl,hA1,nso (fun ⟨r,z⟩=>by cases z),b3,hm,fun H2 q hA2 g2 hf2 hq2=>?_⟩
   refine k H2 q nA (p+1+1+m) ?_ (by omega) hA2 (g1.trans g2) (.inl rfl) (hA1.fr g1 hf2) hq2
   rw [<-(drop_cons b3).2.2,List.drop_drop]
  |count m R hm=>
   obtain⟨b1,b2,b3⟩:=drop_cons hL
   refine⟨_,rfl,lA,dx,_,rfl,e,rfl,lA,cA,nA,l,ns,p,rfl,hA,b1,fun H1 hA1 g1=>?_⟩
   rw [b2]
   refine⟨_,rfl,rfl,_,rfl,?_⟩
   refine⟨_,rfl,rfl,_,rfl,?_⟩
   refine⟨_,rfl,rfl,_,rfl,?_⟩
   refine⟨_,rfl,rfl,_,rfl,?_⟩
   refine⟨_,rfl,lA,cA,nA,l,ns,R,p+1,m,rfl,hA1,nso (fun ⟨r,z⟩=>by cases z),b3,hm,fun H2 q hA2 g2 hf2 hq2=>?_⟩
   refine k H2 q nA (p+1+1+m) ?_ (by omega) hA2 (g1.trans g2) (.inl rfl) (hA1.fr g1 hf2) hq2
   rw [<-(drop_cons b3).2.2,List.drop_drop]
  |pair x y m R hm=>
   obtain⟨b1,b2,b3⟩:=drop_cons hL
   refine⟨_,rfl,lA,dx,_,rfl,e,rfl,lA,cA,nA,l,ns,p,rfl,hA,b1,fun H1 hA1 g1=>?_⟩
   rw [b2]
   refine⟨_,rfl,rfl,_,rfl,?_⟩
   refine⟨_,rfl,rfl,_,rfl,?_⟩
   refine⟨_,rfl,rfl,_,rfl,?_⟩
   refine⟨_,rfl,rfl,_,rfl,?_⟩
   refine⟨_,rfl,lA,cA,nA,l,ns,R,p+1,m,x,y,rfl,hA1,nso (fun ⟨r,z⟩=>by cases z),b3,hm,fun H2 q hA2 g2 hf2 hq2=>?_⟩
   refine k H2 q nA (p+1+3+m) ?_ (by omega) hA2 (g1.trans g2) (.inl rfl) (hA1.fr g1 hf2) hq2
   obtain⟨_,_,b4⟩:=drop_cons b3
   obtain⟨_,_,b5⟩:=drop_cons b4
   obtain⟨_,_,b6⟩:=drop_cons b5
   rw [<-b6,List.drop_drop]
def run(ns:List Int):List (List (List Int))->List (List Int)
 |[]=>[]
 |c::cs=>(aOf ns c).1::run (aOf ns c).2 cs
def Begun(ns:List Int):List (List (List Int))->Prop
 |[]=>True
 |c::_=>NsOk ns\/∃r,c=[[1],r]/\aU r=true/\r.length=132
theorem cJ{r:List Int}(h:aU r=true)(hl:r.length=132):NsOk r:=by
 refine⟨hl,fun x hx=>?_⟩
 unfold aU at h
 rw [List.all_eq_true] at h
 exact of_decide_eq_true (h x hx)
theorem rg{ns L t:List Int}{c:List (List Int)}(hk:Fs.Kind L c t)(hq:Md22Neutral.asked1 (PyMd22.whole c)=true)(h:NsOk ns\/∃r,c=[[1],r]/\aU r=true/\r.length=132):NsOk (aOf ns c).2:=by
 rcases h with h |⟨r,rfl,h1,h2⟩
 ·cases hk with
  |costs m R hm=>
   rw [dr]
   by_cases c:aU (R.take m)=true
   ·rw [if_pos c];exact cJ c (Fs.cG hq)
   ·rw [if_neg c];exact h
  |cost=>exact h
  |best=>exact h
  |count=>exact h
  |pair=>exact h
 ·rw [dr]
  rw [if_pos h1]
  exact cJ h1 h2
abbrev sAns:Stmt:=top 47
inductive oy(K:PySem.W.Frag)(vs:List V)(H:Hp)(Q:VK):Prop
 |mk:∀(cA:Addr) (l:List Int) (cs:List (List (List Int))) (f:Nat),(vs=[.ref cA])->(SqL K H cA (vi l))->(PyFlat.calls PyMd22.shape f l=some cs)->((∀c∈cs,Md22Neutral.asked1 (PyMd22.whole c)=true))->(Begun [] cs)->((PyFlat.told (run [] cs)).length<=2000000)->(∀(H':Hp) (q:Addr),Same H H'->H' q=some (.lst (vi (PyFlat.told (run [] cs))))->Q (.ref q) H')->oy K vs H Q
def spAns(K:PySem.W.Frag):Sp:=fun vs H Q _=>oy K vs H Q
theorem scAns:aB ["calls","line","answered","answer"] ["calls"] (ax sAns):=⟨rfl,rfl,rfl,by decide+kernel,rfl,by decide+kernel,by decide+kernel⟩
theorem fm{f:Nat}{L:List Int}{cs:List (List (List Int))}(h:PyFlat.calls PyMd22.shape f L=some cs)(hL:L≠[]):∃f' c t cs',Fs.Kind L c t/\PyFlat.calls PyMd22.shape f' t=some cs'/\cs=c::cs':=by
 cases L with
 |nil=>exact absurd rfl hL
 |cons p r=>
  cases f with
  |zero=>cases h
  |succ f=>
   unfold PyFlat.calls at h
   cases e:PyFlat.call PyMd22.shape (p::r) with
   |none=>rw [e] at h;cases h
   |some y=>
    rw [e] at h
    simp only at h
    cases e2:PyFlat.calls PyMd22.shape f y.2 with
    |none=>rw [e2] at h;cases h
    |some cs'=>
     rw [e2] at h
     exact⟨f,y.1,y.2,cs',Fs.pR e,e2,(Option.some.inj h).symm⟩
theorem gj{f:Nat}{cs:List (List (List Int))}(h:PyFlat.calls PyMd22.shape f []=some cs):cs=[]:=by
 unfold PyFlat.calls at h
 cases f <;> exact (Option.some.inj h).symm
theorem n6{H:Hp}{a b:Addr}{o:HO}{xs:List V}(h:SqL K H a xs)(hn:a≠b):SqL K (upd H b o) a xs:=by
 rcases h with (h |⟨u,h⟩)|h
 ·exact .inl (.inl (ai h hn))
 ·exact .inl (.inr ⟨u,ai h hn⟩)
 ·exact .inr h
theorem uZ{f:Addr}{fd:FuncData}(F:Fun K "answers" "answers" sAns f fd)(T:Txt K mg aS aL aG)(FL:ClsF K CL lnN)(ML:Mc P w K mg base 1 "Line" CL ["self","calls"] (spLnI K CL))(FC:Fn P w K mg base 9 "answer_call" ["line"] (spCall K CL)):FnOk P w K mg base CX0 10 f fd ["calls"] (spAns K):=by
 refine F.ok scAns (fun vs H Q E h=>?_) (fun cdv A outer s H vs Q E hr h=>?_)
 ·obtain⟨_,_,_,_,rfl,_⟩:=h
  rfl
 ·obtain⟨cA,l,cs0,f0,rfl,hc,hcalls,hask,hbeg,htot,k⟩:=h
  have nd:=scAns.nd
  have hr2:Room 2 _:=hr.mono (by decide)
  refine⟨_,ab (aw (i:=1) nd rfl (Or.inl rfl) (fe ML hr2 (aa (pv 0) ag)))
   (ab (aw (i:=2) nd rfl (Or.inl rfl) (aP ag))
   (ab (jr PassesOwn.never (aK dS (ah (pv 1) rfl) (bc aV rfl T.len PySem.boot_len (aa (pv 0) ag)) (aX _))
    (ab (aw (i:=3) nd rfl (Or.inl rfl) (aW FC hr (aa (pv 1) ag)))
    (ab (bx (gb PySem.F.plainAttrs_list PySem.F.slot_list_append PySem.F.type_list_append cb (pv 2) (aa (bc aV rfl T.len PySem.boot_len (aa (pv 3) ag)) ag)))
    (ak (bx (gb PySem.F.plainAttrs_list PySem.F.slot_list_extend PySem.F.type_list_extend pL (pv 2) (aa (pv 3) ag)))))))
   (ak (aC (pv 2))))),?_⟩
  refine⟨_,rfl,?_⟩
  intro lA dx nx ndx nex
  refine⟨lA,dx,cA,l,rfl,ae,((aj ndx).trans (aj (by rw [aM (Ne.symm nex)];exact nx))).seq hc,fun H1 nA hA1 g1 hnl=>⟨rfl,?_⟩⟩
  have s1:=eV nx ndx g1
  refine⟨(by show 0<=sizeLine;decide),fun aA haA=>?_⟩
  have s2:=aj (o:=.lst []) haA
  have hA2:=hA1.same s2
  have d2:(upd H1 aA (.lst [])) aA=some (.lst (vi [])):=ae
  have f0a:H aA=none:=s1.free haA
  have s12:=s1.trans s2
  dsimp only [gName]
  generalize upd H1 aA (.lst [])=H2 at s2 hA2 d2 s12 ⊢
  refine iY (fun m σ H'=>∃(p:Nat) (nA:Addr) (ns acc:List Int) (cs:List (List (List Int))) (f:Nat) (v3:Option V),m=cs.length/\σ=[some (.ref cA),some (.ref lA),some (.ref aA),v3]/\Same H H'/\LnAt K CL H' lA cA l p nA ns/\H' aA=some (.lst (vi acc))/\nA≠aA/\
   PyFlat.calls PyMd22.shape f (l.drop p)=some cs/\(∀c∈cs,Md22Neutral.asked1 (PyMd22.whole c)=true)/\Begun ns cs/\acc++PyFlat.told (run ns cs)=PyFlat.told (run [] cs0)) cs0.length
   ⟨0,nA,[],[],cs0,f0,none,rfl,rfl,s12,hA2,d2,fun z=>(by rw [z,haA] at hnl;cases hnl),hcalls,hask,hbeg,rfl⟩ ?_
  rintro m σ H3 ⟨p,nA3,ns,acc,cs,f,v3,rfl,rfl,s3,hA3,d3,hna3,hcs,hask3,hb3,hacc⟩
  obtain⟨dx3,e3⟩:=hA3.ob
  refine⟨_,rfl,lA,CL,dx3,_,_,rfl,e3,FL.cl,FL.no 1 _ rfl,rfl,_,rfl,cA,_,rfl,.inl hA3.cs,?_⟩
  rw [az]
  refine⟨_,_,rfl,rfl,_,rfl,?_⟩
  refine ite2 (fun c=>?_) (fun c=>?_)
  ·have c:(p:Int)<(l.length:Int):=of_decide_eq_true c
   refine⟨fun σ' H'=>∃m',m'<cs.length/\∃(p:Nat) (nA:Addr) (ns acc:List Int) (cs:List (List (List Int))) (f:Nat) (v3:Option V),m'=cs.length/\σ'=[some (.ref cA),some (.ref lA),some (.ref aA),v3]/\Same H H'/\LnAt K CL H' lA cA l p nA ns/\H' aA=some (.lst (vi acc))/\nA≠aA/\
    PyFlat.calls PyMd22.shape f (l.drop p)=some cs/\(∀c∈cs,Md22Neutral.asked1 (PyMd22.whole c)=true)/\Begun ns cs/\acc++PyFlat.told (run ns cs)=PyFlat.told (run [] cs0),fun _ _ z=>z,?_⟩
   obtain⟨f',cc,t,cs',hk,hcs',rfl⟩:=fm hcs (by
    intro z
    have:=List.drop_eq_nil_iff.mp z
    omega)
   have hq:=hask3 cc (by simp)
   have hb4:NsOk ns\/∃r,cc=[[1],r]/\aU r=true/\r.length=132:=hb3
   have hok:=rg hk hq hb4
   refine⟨_,rfl,lA,cA,nA3,l,ns,t,p,cc,rfl,hA3,hk,hq,hb4.imp id (fun ⟨r,z,_⟩=>⟨r,z⟩),fun H4 q nA4 p' hp' _ hA4 g4 hn4 hf4 hq4=>?_⟩
   have lna:∀{xs:List V} {Hh:Hp} {lC:Addr} {fs:List (Str × V)},Hh aA=some (.lst xs)->Hh lA=some (.ins CL lC fs)->lA≠aA:=fun h1 h2 z=>by rw [z,h1] at h2;cases h2
   have la:=lna d3 e3
   have d4:H4 aA=some (.lst (vi acc)):=g4 _ _ d3 (Ne.symm la)
   have hrun:PyFlat.told (run ns (cc::cs'))=((aOf ns cc).1.length:Int)::((aOf ns cc).1++PyFlat.told (run (aOf ns cc).2 cs')):=rfl
   have hbound:acc.length+((aOf ns cc).1.length+1)<=2000000:=by
    have:=congrArg List.length hacc
    rw [hrun] at this
    simp only [List.length_append,List.length_cons] at this
    omega
   have hln:sizeLine=16777216:=sizeLine_eq
   have s4:Same H H4:=fun b u z=>g4 _ _ (s3 b u z) (fun y=>by rw [y,nx] at z;cases z)
   obtain⟨dx4,e4⟩:=hA4.ob
   refine⟨_,rfl,.inl ⟨rfl,_,SqL.of d4⟩,_,rfl,q,_,rfl,.inl (SqL.of hq4),?_⟩
   rw [az]
   refine⟨aA,_,_,rfl,rfl,d4,(by rw [az];omega),?_⟩
   have qd:q≠aA:=fun z=>by rw [z,d3] at hf4;cases hf4
   have laq:lA≠aA:=lna d4 e4
   have s5:Same H (upd H4 aA (.lst (vi acc++[.int ((aOf ns cc).1.length:Int)]))):=fun b u z=>ai (s4 b u z) (fun y=>by rw [y,f0a] at z;cases z)
   have hq5:(upd H4 aA (.lst (vi acc++[.int ((aOf ns cc).1.length:Int)]))) q=some (.lst (vi (aOf ns cc).1)):=ai hq4 qd
   have d5:(upd H4 aA (.lst (vi acc++[.int ((aOf ns cc).1.length:Int)]))) aA=some (.lst (vi acc++[.int ((aOf ns cc).1.length:Int)])):=ae
   have hna4:nA4≠aA:=by
    rcases hn4 with rfl |z
    ·exact hna3
    ·intro y;rw [y,d3] at z;cases z
   dsimp only
   refine⟨_,rfl,.inl ⟨rfl,_,SqL.of d5⟩,_,rfl,aA,q,_,_,rfl,rfl,d5,hq5,?_,?_⟩
   ·simp only [List.length_append,az,List.length_cons,List.length_nil];omega
   refine⟨cs'.length,by simp,p',nA4,(aOf ns cc).2,acc++((aOf ns cc).1.length:Int)::(aOf ns cc).1,cs',f',_,rfl,rfl,fun b u z=>ai (s5 b u z) (fun y=>by rw [y,f0a] at z;cases z),⟨⟨dx4,ai (ai e4 laq) laq⟩,?_,n6 (n6 hA4.nm hna4) hna4⟩,?_,hna4,by rw [hp'];exact hcs',fun c hc=>hask3 c (by simp [hc]),?_,?_⟩
   ·refine Same.seq (H:=H) (fun b u z=>ai (s5 b u z) (fun y=>by rw [y,f0a] at z;cases z)) hc
   ·rw [ae]
    simp [vi]
   ·cases cs' with
    |nil=>trivial
    |cons c2 cs2=>exact .inl hok
   ·rw [<-hacc,hrun]
    simp
  ·have c:¬(p:Int)<(l.length:Int):=fun z=>c (decide_eq_true z)
   have:l.drop p=[]:=List.drop_eq_nil_of_le (by omega)
   rw [this] at hcs
   have:=gj hcs
   subst this
   have hacc:acc++[]=_:=hacc
   rw [List.append_nil] at hacc
   rw [hacc] at d3
   exact⟨_,rfl,k _ aA s3 d3⟩
end
end Pg
end
section
namespace Pg
open Fs T
def dg(c:Nat):Int:=if c=40 then 0 else if c=41 then 1 else 2
def rank:List Nat->Int
 |[]=>0
 |c::f=>dg c*3^f.length+rank f
theorem qg(c:Nat):0<=dg c/\dg c<=2:=by unfold dg;split <;> (try split) <;> omega
theorem cQ:∀f:List Nat,0<=rank f/\rank f<3^f.length
 |[]=>by simp [rank]
 |c::f=>by
  have ih:=cQ f
  have h:=qg c
  simp only [rank,List.length_cons,Int.pow_succ]
  have p:=bN f.length
  have e1:0<=dg c*3^f.length:=Int.mul_nonneg h.1 (by omega)
  have e2:dg c*3^f.length<=2*3^f.length:=Int.mul_le_mul_of_nonneg_right h.2 (by omega)
  omega
theorem uA{x y:Nat}(hx:sign x)(hy:sign y):x<y↔dg x<dg y:=by
 rcases hx with rfl |rfl |rfl <;> rcases hy with rfl |rfl |rfl <;> decide
theorem g8:∀(f g:List Nat),f.length=g.length->(∀c∈f,sign c)->(∀c∈g,sign c)->(Md22.before f g=true↔rank f<rank g)
 |[],[],_,_,_=>by simp [Md22.before,rank]
 |[],_::_,h,_,_=>by simp at h
 |_::_,[],h,_,_=>by simp at h
 |x::f,y::g,h,hf,hg=>by
  have hl:f.length=g.length:=by simpa using h
  have ih:=g8 f g hl (fun c hc=>hf c (by simp [hc])) (fun c hc=>hg c (by simp [hc]))
  have d:=uA (hf x (by simp)) (hg y (by simp))
  have d2:=uA (hg y (by simp)) (hf x (by simp))
  have r1:=cQ f
  have r2:=cQ g
  rw [<-hl] at r2
  have p:=bN f.length
  simp only [Md22.before,rank,Bool.or_eq_true,decide_eq_true_eq,Bool.and_eq_true,beq_iff_eq,<-hl]
  rw [ih]
  generalize (3:Int)^f.length=W at*
  by_cases c1:x<y
  ·have:=d.mp c1
   have e:(dg x+1)*W<=dg y*W:=Int.mul_le_mul_of_nonneg_right (by omega) (by omega)
   rw [Int.add_mul] at e
   constructor
   ·intro _;omega
   ·intro _;exact .inl c1
  ·by_cases c2:x=y
   ·subst c2
    constructor
    ·rintro (h |h)
     ·omega
     ·omega
    ·intro h
     exact .inr ⟨rfl,by omega⟩
   ·have:=d2.mp (by omega)
    have e:(dg y+1)*W<=dg x*W:=Int.mul_le_mul_of_nonneg_right (by omega) (by omega)
    rw [Int.add_mul] at e
    constructor
    ·rintro (h |h)
     ·omega
     ·exact absurd h.1 c2
    ·intro h;omega
def rk(n:Nat):Nat->List Nat->Int
 |_,[]=>0
 |i,c::f=>dg c*3^(n-1-i)+rk n (i+1) f
theorem jE(n:Nat):∀(f g:List Nat) (i:Nat),rk n i (f++g)=rk n i f+rk n (i+f.length) g
 |[],g,i=>by simp [rk]
 |c::f,g,i=>by
  simp only [List.cons_append,rk,jE n f g (i+1),List.length_cons]
  rw [show i+1+f.length=i+(f.length+1) by omega];omega
theorem k0(n:Nat):∀(f:List Nat) (i:Nat),i+f.length=n->rk n i f=rank f
 |[],i,_=>rfl
 |c::f,i,h=>by
  simp only [List.length_cons] at h
  simp only [rk,rank,k0 n f (i+1) (by omega)]
  rw [show n-1-i=f.length by omega]
theorem ka:∀n,rank (List.replicate n 46)=3^n-1
 |0=>rfl
 |n+1=>by
  simp only [List.replicate_succ,rank,ka n,List.length_replicate,Int.pow_succ]
  have:dg 46=2:=rfl
  rw [this];omega
theorem oT(a b:Nat)(x:Nat):List.replicate (a+b+2) x=x::(List.replicate a x++x::List.replicate b x):=by
 rw [show a+b+2=(a+(b+1))+1 by omega,List.replicate_succ,<-List.replicate_append_replicate,List.replicate_succ]
theorem ic{z:Pz}{n:Nat}(hz:∀l r,l<n->r<n->z.ex l r=-2*3^(n-1-l)+ -1*3^(n-1-r)):∀(t:T) (i:Nat),i+t.len<=n->rk n i (rowOf t)=rk n i (List.replicate t.len 46)+exs z i t
 |.nil,i,_=>rfl
 |.dot t,i,h=>by
  simp only [T.len] at h
  have ih:=ic hz t (i+1) (by omega)
  show dg 46*3^(n-1-i)+rk n (i+1) (rowOf t)=_
  rw [ih]
  simp only [T.len,List.replicate_succ,rk]
  show _=_+exs z (i+1) t
  omega
 |.pr a b,i,h=>by
  simp only [T.len] at h
  have ia:=ic hz a (i+1) (by omega)
  have ib:=ic hz b (i+2+a.len) (by omega)
  have h4:exs z i (.pr a b)=exs z (i+1) a+(z.ex i (i+1+a.len)+exs z (i+2+a.len) b):=by
   unfold exs
   simp only [pl,List.map_append,List.map_cons]
   rw [sum_append,List.sum_cons]
  have d0:dg 40=0:=rfl
  have d1:dg 41=1:=rfl
  have d2:dg 46=2:=rfl
  show rk n i (40::(rowOf a++41::rowOf b))=rk n i (List.replicate (a.len+b.len+2) 46)+_
  rw [oT,h4,hz i (i+1+a.len) (by omega) (by omega)]
  simp only [rk,jE,bI,List.length_replicate]
  rw [ia,show i+1+a.len+1=i+2+a.len by omega,ib,d0,d1,d2]
  omega
def sg(d:Int):Int:=if d=0 then 40 else if d=1 then 41 else 46
theorem vF{c:Nat}(h:sign c):sg (dg c)=(c:Int):=by rcases h with rfl |rfl |rfl <;> rfl
theorem ua(n:Nat):ay (n+1)=3^n::ay n:=by
 unfold ay
 rw [List.range_succ,List.map_append,List.reverse_append];rfl
theorem digs:∀(f:List Nat),(∀c∈f,sign c)->(ay f.length).map (fun v=>sg (rank f/v%3))=f.map fun c:Nat=>(c:Int)
 |[],_=>rfl
 |c::f,h=>by
  have ih:=digs f fun x hx=>h x (by simp [hx])
  have hc:=h c (by simp)
  have r:=cQ f
  have d:=qg c
  have p:=bN f.length
  rw [List.length_cons,ua,List.map_cons,List.map_cons,<-ih]
  congr 1
  ·have e:rank (c::f)/3^f.length=dg c:=by
    simp only [rank]
    rw [Int.add_comm,Int.mul_comm,Int.add_mul_ediv_left _ _ (by omega),Int.ediv_eq_zero_of_lt r.1 r.2];omega
   rw [e,Int.emod_eq_of_lt d.1 (by omega),vF hc]
  ·refine List.map_congr_left fun v hv=>?_
   unfold ay at hv
   rw [List.mem_reverse,List.mem_map] at hv
   obtain⟨k,hk,rfl⟩:=hv
   have hk:=List.mem_range.mp hk
   have pk:=bN k
   congr 1
   simp only [rank]
   have e:dg c*3^f.length=3^k*(3*(dg c*3^(f.length-k-1))):=by
    have:(3:Int)^f.length=3^k*(3*3^(f.length-k-1)):=by
     rw [Int.mul_comm 3,<-Int.pow_succ,<-Int.pow_add]
     congr 1
     omega
    rw [this,Int.mul_left_comm,Int.mul_left_comm (dg c) 3]
   rw [e,Int.add_comm,Int.add_mul_ediv_left _ _ (by omega),Int.add_mul_emod_self_left]
theorem dI{s f:List Nat}(h:f∈Md22.foldsOf s):f.length=s.length/\∀c∈f,sign c:=by
 obtain⟨t,ht,rfl⟩:=(cB s f).mp h
 exact⟨by rw [bI];have:=ht.2;omega,cM t⟩
def key(C:Md22.Costs)(s:List Nat)(f:List Nat):Int:=3^s.length*Md22.cost C s f+rank f
theorem vh{C:Md22.Costs}{s f g:List Nat}(hf:f∈Md22.foldsOf s)(hg:g∈Md22.foldsOf s):(Md22.cost C s f<Md22.cost C s g\/(Md22.cost C s f=Md22.cost C s g/\Md22.before f g=true))↔key C s f<key C s g:=by
 obtain⟨lf,sf⟩:=dI hf
 obtain⟨lg,sg'⟩:=dI hg
 rw [g8 f g (by omega) sf sg']
 have r1:=cQ f
 have r2:=cQ g
 rw [lf] at r1
 rw [lg] at r2
 unfold key
 have p:=bN s.length
 generalize (3:Int)^s.length=W at*
 generalize Md22.cost C s f=a
 generalize Md22.cost C s g=b
 by_cases c1:a<b
 ·have e:W*(a+1)<=W*b:=Int.mul_le_mul_of_nonneg_left (by omega) (by omega)
  rw [Int.mul_add] at e
  constructor
  ·intro _;omega
  ·intro _;exact .inl c1
 ·by_cases c2:a=b
  ·subst c2
   constructor
   ·rintro (h |h) <;> omega
   ·intro h;exact .inr ⟨rfl,by omega⟩
  ·have e:W*(b+1)<=W*a:=Int.mul_le_mul_of_nonneg_left (by omega) (by omega)
   rw [Int.mul_add] at e
   constructor
   ·rintro (h |h) <;> omega
   ·intro h;omega
theorem mr{C:Md22.Costs}{s:List Nat}:Md22.best C s∈Md22.foldsOf s/\∀f∈Md22.foldsOf s,key C s (Md22.best C s)<=key C s f:=by
 have ne:=fN s
 unfold Md22.best
 cases e:Md22.foldsOf s with
 |nil=>exact (ne e).elim
 |cons f l=>
  simp only
  have:∀(l:List (List Nat)) (b:List Nat),(∀f∈b::l,f∈Md22.foldsOf s)->(l.foldl (fun (b g:List Nat)=>if Md22.cost C s g<Md22.cost C s b\/(Md22.cost C s g=Md22.cost C s b/\Md22.before g b=true) then g else b) b∈b::l)/\
    ∀f∈b::l,key C s (l.foldl (fun (b g:List Nat)=>if Md22.cost C s g<Md22.cost C s b\/(Md22.cost C s g=Md22.cost C s b/\Md22.before g b=true) then g else b) b)<=key C s f:=by
   intro l
   induction l with
   |nil=>intro b _;simp
   |cons x l ih=>
    intro b hm
    rw [List.foldl_cons]
    have kx:=vh (C:=C) (hm x (by simp)) (hm b (by simp))
    split
    ·rename_i c
     have c:=kx.mp c
     obtain⟨i1,i2⟩:=ih x (fun f hf=>hm f (by rcases List.mem_cons.mp hf with rfl |hf <;> simp_all))
     refine⟨List.mem_cons_of_mem _ i1,fun f hf=>?_⟩
     rcases List.mem_cons.mp hf with rfl |hf
     ·have:=i2 x (by simp)
      omega
     ·exact i2 f hf
    ·rename_i c
     have c:¬key C s x<key C s b:=fun z=>c (kx.mpr z)
     obtain⟨i1,i2⟩:=ih b (fun f hf=>hm f (by rcases List.mem_cons.mp hf with rfl |hf <;> simp_all))
     refine⟨?_,fun f hf=>?_⟩
     ·rcases List.mem_cons.mp i1 with i1 |i1
      ·rw [i1];simp
      ·simp [i1]
     ·have i3:=i2 b (by simp)
      rcases List.mem_cons.mp hf with rfl |hf
      ·exact i3
      ·rcases List.mem_cons.mp hf with rfl |hf
       ·omega
       ·exact i2 f (by simp [hf])
  exact this l f (fun g hg=>by rw [e];exact hg)
theorem ki{ns s:List Int}{C:Md22.Costs}(N:Nums ns C)(hs:Good s){t:T}(ht:Rs (alOf s) s.length 0 t):tcost (zOf s (rankP ns s)) 0 t+(scl s.length-1)=key C (nats s) (rowOf t):=by
 have hl:=ht.2
 have h1:=hs.n1
 have h100:=hs.n100
 rw [dn (rD N hs (kG h1)) ht.1 (by omega),<-mh]
 unfold key
 rw [bP,iV h1]
 have hr:=ic (z:=zOf s (rankP ns s)) (n:=s.length) (fun l r h1 h2=>by
  show g ((ay s.length).map (-2*·)) l+g ((ay s.length).map (-1*·)) r=_
  rw [ij,ij,tT _ _ h1,tT _ _ h2]) t 0 (by omega)
 rw [k0 _ (rowOf t) 0 (by rw [bI];omega),k0 _ _ 0 (by rw [List.length_replicate];omega),ka,show t.len=s.length by omega] at hr
 omega
theorem mY{ns s:List Int}{C:Md22.Costs}(N:Nums ns C)(hs:Good s):(least s (rankP ns s)).1+(scl s.length-1)=key C (nats s) (Md22.best C (nats s)):=by
 have PO:=kG (ns:=ns) hs.n1
 obtain⟨L,e,sm⟩:=lW (qy N hs PO) (lT N PO) hs.n100
 obtain⟨b1,b2⟩:=mr (C:=C) (s:=nats s)
 obtain⟨u,hu,eu⟩:=(cB _ _).mp b1
 have hu:=(nu hs.pos u).mpr hu
 have h2:=sm.le _ (List.mem_map.mpr ⟨u,(e.mem u).mpr hu,rfl⟩)
 have ne:(L.map fun t=>(tcost (zOf s (rankP ns s)) 0 t,wt (zOf s (rankP ns s)) 0 t))≠[]:=fun q=>by
  have:=List.map_eq_nil_iff.mp q
  have hm:=(e.mem u).mpr hu
  rw [this] at hm;cases hm
 obtain⟨x,hx,ex⟩:=sm.at_ ne
 obtain⟨t,ht,rfl⟩:=List.mem_map.mp hx
 have ht:=(e.mem t).mp ht
 have k1:=ki N hs ht
 have k2:=ki N hs hu
 have h1:=b2 (rowOf t) ((cB _ _).mpr ⟨t,(nu hs.pos t).mp ht,rfl⟩)
 rw [eu] at h1 ⊢
 simp only at h2 ex
 omega
theorem sR{ns s:List Int}{C:Md22.Costs}(N:Nums ns C)(hs:Good s):firstBest ns s=Md22.cost C (nats s) (Md22.best C (nats s))::(Md22.best C (nats s)).map fun c:Nat=>(c:Int):=by
 have h:=mY N hs
 obtain⟨b1,_⟩:=mr (C:=C) (s:=nats s)
 obtain⟨bl,bs⟩:=dI b1
 have r:=cQ (Md22.best C (nats s))
 rw [bl,bP] at r
 have p:=bN s.length
 have e0:firstBest ns s=(((least s (rankP ns s)).1+(scl s.length-1))/scl s.length)::(ay s.length).map fun v=>sg (((least s (rankP ns s)).1+(scl s.length-1))%scl s.length/v%3):=rfl
 rw [e0,h,iV hs.n1]
 unfold key
 rw [bP]
 have e1:(3^s.length*Md22.cost C (nats s) (Md22.best C (nats s))+rank (Md22.best C (nats s)))/3^s.length=Md22.cost C (nats s) (Md22.best C (nats s)):=by
  rw [Int.add_comm,Int.add_mul_ediv_left _ _ (by omega),Int.ediv_eq_zero_of_lt r.1 r.2];omega
 have e2:(3^s.length*Md22.cost C (nats s) (Md22.best C (nats s))+rank (Md22.best C (nats s)))%3^s.length=rank (Md22.best C (nats s)):=by
  rw [Int.add_comm,Int.add_mul_emod_self_left,Int.emod_eq_of_lt r.1 r.2]
 rw [e1,e2]
 congr 1
 have:=digs (Md22.best C (nats s)) bs
 rw [bl,bP] at this
 exact this
end Pg
end
section
namespace Pg
open Fs
theorem nO{r:List Int}(h:aU r=true)(hl:r.length=132):Md22.read r=some (aH r):=by
 unfold Md22.read
 have:(r.all fun z=>decide (-Md22.MOST<=z) && decide (z<=Md22.MOST))=true:=by
  rw [List.all_eq_true]
  intro x hx
  have:=(cJ h hl).bd x hx
  simp only [Bool.and_eq_true,Md22.MOST]
  exact⟨decide_eq_true this.1,decide_eq_true this.2⟩
 rw [if_pos ⟨hl,this⟩]
 rfl
theorem ml{r:List Int}(h:¬aU r=true):Md22.read r=none:=by
 unfold Md22.read
 rw [if_neg]
 rintro⟨_,c⟩
 apply h
 unfold aU
 rw [List.all_eq_true] at c ⊢
 intro x hx
 have:=c x hx
 simp only [Bool.and_eq_true,Md22.MOST] at this
 exact decide_eq_true ⟨of_decide_eq_true this.1,of_decide_eq_true this.2⟩
theorem dR{s:List Int}(h:∀z∈s,0<=z):(Md22.between (s.length:Int) 1 Md22.LONG=false\/Md22.strand (nats s)=false)↔¬aY s=true:=by
 have e1:Md22.between (s.length:Int) 1 Md22.LONG=decide (1<=s.length/\s.length<=100):=by
  unfold Md22.between Md22.LONG
  rw [Bool.eq_iff_iff]
  simp only [Bool.and_eq_true,decide_eq_true_eq]
  omega
 have e2:Md22.strand (nats s)=s.all fun x=>decide (x=65\/x=67\/x=71\/x=85):=by
  unfold Md22.strand nats
  rw [List.all_map]
  induction s with
  |nil=>rfl
  |cons x s ih=>
   rw [List.all_cons,List.all_cons,ih (fun z hz=>h z (by simp [hz])) (by
    unfold Md22.between Md22.LONG
    rw [Bool.eq_iff_iff]
    simp only [Bool.and_eq_true,decide_eq_true_eq]
    omega)]
   congr 1
   have hx:=h x (by simp)
   rw [Bool.eq_iff_iff]
   simp only [Function.comp,Bool.or_eq_true,beq_iff_eq,decide_eq_true_eq]
   omega
 rw [e1,e2]
 unfold aY
 cases decide (1<=s.length/\s.length<=100) <;> cases (s.all fun x=>decide (x=65\/x=67\/x=71\/x=85)) <;> simp
theorem step_eq{ns L t:List Int}{c:List (List Int)}(hk:Kind L c t)(hq:Md22Neutral.asked1 (PyMd22.whole c)=true)(hn:NsOk ns):
  Md22Neutral.step (some (aH ns)) (PyMd22.whole c)=(some (aH (aOf ns c).2),(aOf ns c).1):=by
 have N:=hn.nums
 cases hk with
 |costs m R hm=>
  have hl:=cG hq
  generalize R.take m=r at*
  have e:Md22Neutral.step (some (aH ns)) (PyMd22.whole [[1],r])=((Md22.answer (some (aH ns)) (.costs r)).1,(Md22.answer (some (aH ns)) (.costs r)).2.value::((Md22.answer (some (aH ns)) (.costs r)).2.nums++(Md22.answer (some (aH ns)) (.costs r)).2.bytes.map fun (b:Nat)=>(b:Int))):=rfl
  rw [e]
  rw [dr]
  by_cases c:aU r=true
  ·rw [if_pos c]
   unfold Md22.answer
   simp only [nO c hl]
   rfl
  ·rw [if_neg c]
   unfold Md22.answer
   simp only [ml c]
   rfl
 |cost m R m2 R2 hm hd hm2=>
  obtain⟨a1,a2,a3⟩:=iL hq
  generalize R.take m=s at*
  generalize R2.take m2=f at*
  have iff:=dR a2
  have e:Md22Neutral.step (some (aH ns)) (PyMd22.whole [[2],s,f])=((Md22.answer (some (aH ns)) (.cost (nats s) (s.length:Int) (nats f))).1,(Md22.answer (some (aH ns)) (.cost (nats s) (s.length:Int) (nats f))).2.value::((Md22.answer (some (aH ns)) (.cost (nats s) (s.length:Int) (nats f))).2.nums++(Md22.answer (some (aH ns)) (.cost (nats s) (s.length:Int) (nats f))).2.bytes.map fun (b:Nat)=>(b:Int))):=rfl
  rw [e]
  show _=(some (aH ns),aCost ns s f)
  unfold Md22.answer aCost
  simp only
  by_cases c:aY s=true
  ·rw [if_neg (fun z=>iff.mp z c),if_pos c]
   have hG:=cY c
   cases ep:bO s f with
   |none=>rw [if_pos (mL hG.pos a3 a1 ep)];rfl
   |some ps=>rw [if_neg (by rw [m5 hG.pos a3 a1 ep];simp)];rfl
  ·rw [if_pos (iff.mpr c),if_neg c];rfl
 |best m R hm=>
  have a2:=m8 hq
  generalize R.take m=s at*
  have iff:=dR a2
  have e:Md22Neutral.step (some (aH ns)) (PyMd22.whole [[3],s])=((Md22.answer (some (aH ns)) (.best (nats s) (s.length:Int))).1,(Md22.answer (some (aH ns)) (.best (nats s) (s.length:Int))).2.value::((Md22.answer (some (aH ns)) (.best (nats s) (s.length:Int))).2.nums++(Md22.answer (some (aH ns)) (.best (nats s) (s.length:Int))).2.bytes.map fun (b:Nat)=>(b:Int))):=rfl
  rw [e]
  show _=(some (aH ns),aBest ns s)
  unfold Md22.answer aBest
  simp only
  by_cases c:aY s=true
  ·rw [if_neg (fun z=>iff.mp z c),if_pos c,sR N (cY c)];rfl
  ·rw [if_pos (iff.mpr c),if_neg c];rfl
 |count m R hm=>
  have a2:=mi hq
  generalize R.take m=s at*
  have iff:=dR a2
  have e:Md22Neutral.step (some (aH ns)) (PyMd22.whole [[4],s])=((Md22.answer (some (aH ns)) (.count (nats s) (s.length:Int))).1,(Md22.answer (some (aH ns)) (.count (nats s) (s.length:Int))).2.value::((Md22.answer (some (aH ns)) (.count (nats s) (s.length:Int))).2.nums++(Md22.answer (some (aH ns)) (.count (nats s) (s.length:Int))).2.bytes.map fun (b:Nat)=>(b:Int))):=rfl
  rw [e]
  show _=(some (aH ns),aCount ns s)
  unfold Md22.answer aCount
  simp only
  by_cases c:aY s=true
  ·rw [if_neg (fun z=>iff.mp z c),if_pos c,count_eq N (cY c)];rfl
  ·rw [if_pos (iff.mpr c),if_neg c];rfl
 |pair x y m R hm=>
  have a2:=nv hq
  generalize R.take m=s at*
  have iff:=dR a2
  have e:Md22Neutral.step (some (aH ns)) (PyMd22.whole [[5,x,y],s])=((Md22.answer (some (aH ns)) (.pair (nats s) (s.length:Int) x y)).1,(Md22.answer (some (aH ns)) (.pair (nats s) (s.length:Int) x y)).2.value::((Md22.answer (some (aH ns)) (.pair (nats s) (s.length:Int) x y)).2.nums++(Md22.answer (some (aH ns)) (.pair (nats s) (s.length:Int) x y)).2.bytes.map fun (b:Nat)=>(b:Int))):=rfl
  rw [e]
  show _=(some (aH ns),aPair ns s x y)
  unfold Md22.answer aPair
  simp only
  by_cases c:aY s=true/\0<=x/\x<y/\y<s.length
  ·obtain⟨c1,c2,c3,c4⟩:=c
   rw [if_neg,if_pos ⟨c1,c2,c3,c4⟩,tV N (cY c1)]
   ·rfl
   ·rintro (z |z |z |z |z)
    ·exact iff.mp (.inl z) c1
    ·exact iff.mp (.inr z) c1
    ·omega
    ·omega
    ·omega
  ·rw [if_pos,if_neg c]
   ·rfl
   ·by_cases c1:aY s=true
    ·refine .inr (.inr ?_)
     have:¬(0<=x/\x<y/\y<s.length):=fun z=>c ⟨c1,z⟩
     omega
    ·rcases iff.mpr c1 with z |z
     ·exact .inl z
     ·exact .inr (.inl z)
theorem run_eq:∀{f:Nat} {L ns:List Int} {cs:List (List (List Int))},PyFlat.calls PyMd22.shape f L=some cs->(∀c∈cs,Md22Neutral.asked1 (PyMd22.whole c)=true)->NsOk ns->PyFlat.played Md22Neutral.step (some (aH ns)) (cs.map PyMd22.whole)=run ns cs:=by
 intro f L ns cs
 induction cs generalizing f L ns with
 |nil=>intro _ _ _;rfl
 |cons c cs ih=>
  intro h ha hn
  have hL:L≠[]:=fun z=>by rw [z] at h;have:=gj h;cases this
  obtain⟨f',c',t,cs',hk,hc,e⟩:=fm h hL
  injection e with e1 e2
  subst e1 e2
  have hq:=ha c (by simp)
  have st:=step_eq hk hq hn
  show (Md22Neutral.step (some (aH ns)) (PyMd22.whole c)).2::PyFlat.played Md22Neutral.step (Md22Neutral.step (some (aH ns)) (PyMd22.whole c)).1 (cs.map PyMd22.whole)=(aOf ns c).1::run (aOf ns c).2 cs
  rw [st,ih hc (fun x hx=>ha x (by simp [hx])) (rg hk hq (.inl hn))]
theorem lr:∀(cs:List (List (List Int))) (n:Nat) (st:Md22Neutral.S),Md22Neutral.few n st cs=true->n+(PyFlat.told (PyFlat.played Md22Neutral.step st cs)).length<1000000+cs.length
 |[],n,st,h=>by
  unfold Md22Neutral.few at h
  have:=of_decide_eq_true h
  simp [PyFlat.played,PyFlat.told];omega
 |c::cs,n,st,h=>by
  have ih:=lr cs (n+(Md22Neutral.step st c).2.length) (Md22Neutral.step st c).1 h
  show n+(PyFlat.told ((Md22Neutral.step st c).2::PyFlat.played Md22Neutral.step (Md22Neutral.step st c).1 cs)).length<_
  have:PyFlat.told ((Md22Neutral.step st c).2::PyFlat.played Md22Neutral.step (Md22Neutral.step st c).1 cs)=((Md22Neutral.step st c).2.length:Int)::((Md22Neutral.step st c).2++PyFlat.told (PyFlat.played Md22Neutral.step (Md22Neutral.step st c).1 cs)):=rfl
  rw [this]
  simp only [List.length_cons,List.length_append]
  omega
theorem mT{l:List Int}(h:PyMd22.answers_asked l=true):∃(cs:List (List (List Int))),PyFlat.calls PyMd22.shape l.length l=some cs/\(∀c∈cs,Md22Neutral.asked1 (PyMd22.whole c)=true)/\Begun [] cs/\(PyFlat.told (run [] cs)).length<=2000000/\PyFlat.told (run [] cs)=PyMd22.answers l:=by
 unfold PyMd22.answers_asked at h
 unfold PyMd22.answers
 have ec:PyMd22.calls l=match PyFlat.calls PyMd22.shape l.length l with
  |none=>none
  |some cs=>some (cs.map PyMd22.whole):=rfl
 cases e:PyFlat.calls PyMd22.shape l.length l with
 |none=>
  rw [e] at ec
  rw [ec] at h;cases h
 |some cs=>
  rw [e] at ec
  simp only at ec
  rw [ec] at h ⊢
  simp only [Bool.and_eq_true] at h ⊢
  obtain⟨h1,h2⟩:=h
  unfold Md22Neutral.asked at h2
  simp only [Bool.and_eq_true] at h2
  obtain⟨⟨h3,h4⟩,h5⟩:=h2
  have ha:∀c∈cs,Md22Neutral.asked1 (PyMd22.whole c)=true:=fun c hc=>List.all_eq_true.mp h3 _ (List.mem_map.mpr ⟨c,hc,rfl⟩)
  have hlen:cs.length<=300:=by
   unfold PyFlat.atMost at h1
   have:=of_decide_eq_true h1
   rwa [List.length_map] at this
  have ft:=lr _ _ _ h5
  rw [List.length_map] at ft
  cases cs with
  |nil=>exact⟨[],rfl,ha,trivial,by simp [run,PyFlat.told],rfl⟩
  |cons c cs=>
   have hL:l≠[]:=fun z=>by rw [z] at e;have:=gj e;cases this
   obtain⟨f',c',t,cs',hk,hc,ee⟩:=fm e hL
   injection ee with e1 e2
   subst e1 e2
   have hq:=ha c (by simp)
   have hb:Md22Neutral.begins (PyMd22.whole c)=true:=h4
   have:∃r,c=[[1],r]/\aU r=true/\r.length=132:=by
    cases hk with
    |costs m R hm=>
     refine⟨_,rfl,?_,cG hq⟩
     have hl:=cG hq
     generalize R.take m=r at*
     refine Decidable.byContradiction fun z=>?_
     have hb:decide ((Md22Neutral.step Md22Neutral.start [[1],r]).2=[0])=true:=hb
     have hb:=of_decide_eq_true hb
     have e:Md22Neutral.step Md22Neutral.start [[1],r]=((Md22.answer none (.costs r)).1,(Md22.answer none (.costs r)).2.value::((Md22.answer none (.costs r)).2.nums++(Md22.answer none (.costs r)).2.bytes.map fun (b:Nat)=>(b:Int))):=rfl
     rw [e] at hb
     unfold Md22.answer at hb
     simp only [ml z,Md22.only] at hb
     cases hb
    |cost=>cases hb
    |best=>cases hb
    |count=>cases hb
    |pair=>cases hb
   obtain⟨r,rfl,ht,hr⟩:=this
   have hok:=cJ ht hr
   have ea:aOf [] [[1],r]=([0],r):=by rw [dr,if_pos ht]
   have es:Md22Neutral.step Md22Neutral.start (PyMd22.whole [[1],r])=(some (aH r),[0]):=by
    have e:Md22Neutral.step Md22Neutral.start (PyMd22.whole [[1],r])=((Md22.answer none (.costs r)).1,(Md22.answer none (.costs r)).2.value::((Md22.answer none (.costs r)).2.nums++(Md22.answer none (.costs r)).2.bytes.map fun (b:Nat)=>(b:Int))):=rfl
    rw [e]
    unfold Md22.answer
    simp only [nO ht hr]
    rfl
   have hrun:PyFlat.played Md22Neutral.step Md22Neutral.start (([[1],r]::cs).map PyMd22.whole)=run [] ([[1],r]::cs):=by
    show (Md22Neutral.step Md22Neutral.start (PyMd22.whole [[1],r])).2::PyFlat.played Md22Neutral.step (Md22Neutral.step Md22Neutral.start (PyMd22.whole [[1],r])).1 (cs.map PyMd22.whole)=(aOf [] [[1],r]).1::run (aOf [] [[1],r]).2 cs
    rw [es,ea]
    simp only
    rw [run_eq hc (fun x hx=>ha x (by simp [hx])) hok]
   refine⟨_,rfl,ha,.inr ⟨r,rfl,ht,hr⟩,?_,?_⟩
   ·rw [<-hrun]
    simp only [List.length_cons] at hlen ft
    omega
   ·rw [<-hrun]
end Pg
end
section
namespace Pg
open PySem PySem.Spec PyProof.Rows L2 L3
open PySem.W (nsIn findIn isFn codeIn keepIn plainGet hasDictIn plainOver makesIn mg_of mg_none_of)
def tup4(a b c d:Int)(t u v w:Tok):Obj:={cls:=.type "tuple",data:=.seq #[.int a t,.int b u,.int c v,.int d w]}
theorem of0{p:List Value->Prop}(h:Unit->p [])(us:List Value)(e:us.length=0):p us:=by cases us with |nil=>exact h ()|cons=>cases e
theorem ofS{n:Nat}{p:List Value->Prop}(h:∀(a:Value) (us:List Value),us.length=n->p (a::us))(us:List Value)(e:us.length=n+1):p us:=by
 cases us with
 |nil=>cases e
 |cons a t=>exact h a t (Nat.succ.inj e)
theorem of1{p:List Value->Prop}(h:∀a0:Value,p [a0]):∀us:List Value,us.length=1->p us:=ofS fun a=>of0 (p:=fun t=>p (a::t)) fun _=>h a
theorem of2{p:List Value->Prop}(h:∀a0 a1:Value,p [a0,a1]):∀us:List Value,us.length=2->p us:=ofS fun a=>of1 (p:=fun t=>p (a::t)) (h a)
theorem of3{p:List Value->Prop}(h:∀a0 a1 a2:Value,p [a0,a1,a2]):∀us:List Value,us.length=3->p us:=ofS fun a=>of2 (p:=fun t=>p (a::t)) (h a)
theorem of4{p:List Value->Prop}(h:∀a0 a1 a2 a3:Value,p [a0,a1,a2,a3]):∀us:List Value,us.length=4->p us:=ofS fun a=>of3 (p:=fun t=>p (a::t)) (h a)
theorem of5{p:List Value->Prop}(h:∀a0 a1 a2 a3 a4:Value,p [a0,a1,a2,a3,a4]):∀us:List Value,us.length=5->p us:=ofS fun a=>of4 (p:=fun t=>p (a::t)) (h a)
theorem of6{p:List Value->Prop}(h:∀a0 a1 a2 a3 a4 a5:Value,p [a0,a1,a2,a3,a4,a5]):∀us:List Value,us.length=6->p us:=ofS fun a=>of5 (p:=fun t=>p (a::t)) (h a)
theorem of7{p:List Value->Prop}(h:∀a0 a1 a2 a3 a4 a5 a6:Value,p [a0,a1,a2,a3,a4,a5,a6]):∀us:List Value,us.length=7->p us:=ofS fun a=>of6 (p:=fun t=>p (a::t)) (h a)
def fob(x q:Str)(st:Stmt)(oc:Value)(od:Option Addr)(cd kV dc pm ct:Value)(an:Option Addr)(sl:Array (Option Value)):Obj:=⟨oc,od,.func (PySem.W.fnOf x q (defArgs st) (defBody st) (ax st) .none kV dc pm an cd ct),sl⟩
def tup3(a b c:Int)(t u v:Tok):Obj:={cls:=.type "tuple",data:=.seq #[.int a t,.int b u,.int c v]}
theorem all_mk{P:Program}{w:World}{K:PySem.W.Frag}{h:Heap}{mg:Str->Option Value}{fa aS aL aG q1 q2 q3 q4 q5 q6 CA CR CW CT CP CS CL fSortOf fMerged fOffered fIsStrand fAreTables fStretched fWgt fAll fBestF fCount fPairC fParts fFold fLoop fRight fSngl fPlace fFirst fCall fACosts fACost fABest fACount fAPair fAns fArcsI fArcsP fRowI fWinI fWiden fTabI fPrcI fSrI fLeast fRelease fFillP fNear fSingle fKeep fFillM fLast fFillR fLnI fReadN fReadR:Addr}(X:K.In h)(G:h.Ns mainGlobals mg)(hfa:mg "answers"=some (.ref fa))
  {tLONGEST tNEAREST tFAR tLARGEST tMODULUS tOPENED tCLOSED tDOT tCOSTS tCOST tBEST tCOUNT t1 t2 t3 t4 t5 t6 u1 u2 u3 u4 u5 u6 v1 v2 v3 v4 v5 v6 w1 w2 w3 w4 w5 w6 w7:Tok} {o0 e0 i0 r0 z0 d0 o1 e1 i1 r1 z1 d1 o2 e2 i2 r2 z2 d2 o3 e3 i3 r3 z3 d3 o4 e4 i4 r4 z4 d4 o5 e5 i5 r5 z5 d5 o6 e6 i6 r6 z6 d6 o7 e7 i7 r7 z7 d7 o8 e8 i8 r8 z8 d8 o9 e9 i9 r9 z9 d9 o10 e10 i10 r10 z10 d10 o11 e11 i11 r11 z11 d11 o12 e12 i12 r12 z12 d12 o13 e13 i13 r13 z13 d13 o14 e14 i14 r14 z14 d14 o15 e15 i15 r15 z15 d15 o16 e16 i16 r16 z16 d16 o17 e17 i17 r17 z17 d17 o18 e18 i18 r18 z18 d18 o19 e19 i19 r19 z19 d19 o20 e20 i20 r20 z20 d20 o21 e21 i21 r21 z21 d21 o22 e22 i22 r22 z22 d22 o23 e23 i23 r23 z23 d23 o24 e24 i24 r24 z24 d24 o25 e25 i25 r25 z25 d25 o26 e26 i26 r26 z26 d26 o27 e27 i27 r27 z27 d27 o28 e28 i28 r28 z28 d28 o29 e29 i29 r29 z29 d29 o30 e30 i30 r30 z30 d30 o31 e31 i31 r31 z31 d31 o32 e32 i32 r32 z32 d32 o33 e33 i33 r33 z33 d33 o34 e34 i34 r34 z34 d34 o35 e35 i35 r35 z35 d35 o36 e36 i36 r36 z36 d36 o37 e37 i37 r37 z37 d37 o38 e38 i38 r38 z38 d38 o39 e39 i39 r39 z39 d39 o40 e40 i40 r40 z40 d40 o41 e41 i41 r41 z41 d41 o42 e42 i42 r42 z42 d42 o43 e43 i43 r43 z43 d43 o44 e44 i44 r44 z44 d44:Value} {p0 y0 p1 y1 p2 y2 p3 y3 p4 y4 p5 y5 p6 y6 p7 y7 p8 y8 p9 y9 p10 y10 p11 y11 p12 y12 p13 y13 p14 y14 p15 y15 p16 y16 p17 y17 p18 y18 p19 y19 p20 y20 p21 y21 p22 y22 p23 y23 p24 y24 p25 y25 p26 y26 p27 y27 p28 y28 p29 y29 p30 y30 p31 y31 p32 y32 p33 y33 p34 y34 p35 y35 p36 y36 p37 y37 p38 y38 p39 y39 p40 y40 p41 y41 p42 y42 p43 y43 p44 y44:Option Addr} {x0 x1 x2 x3 x4 x5 x6 x7 x8 x9 x10 x11 x12 x13 x14 x15 x16 x17 x18 x19 x20 x21 x22 x23 x24 x25 x26 x27 x28 x29 x30 x31 x32 x33 x34 x35 x36 x37 x38 x39 x40 x41 x42 x43 x44:Array (Option Value)}
  (nLONGEST:nsIn K mainGlobals "LONGEST"=some (some (.int 100 tLONGEST)))
  (nNEAREST:nsIn K mainGlobals "NEAREST"=some (some (.int 4 tNEAREST)))
  (nFAR:nsIn K mainGlobals "FAR"=some (some (.int 1000000000 tFAR)))
  (nLARGEST:nsIn K mainGlobals "LARGEST"=some (some (.int 10000 tLARGEST)))
  (nMODULUS:nsIn K mainGlobals "MODULUS"=some (some (.int 1000000007 tMODULUS)))
  (nOPENED:nsIn K mainGlobals "OPENED"=some (some (.int 40 tOPENED)))
  (nCLOSED:nsIn K mainGlobals "CLOSED"=some (some (.int 41 tCLOSED)))
  (nDOT:nsIn K mainGlobals "DOT"=some (some (.int 46 tDOT)))
  (nCOSTS:nsIn K mainGlobals "COSTS"=some (some (.int 1 tCOSTS)))
  (nCOST:nsIn K mainGlobals "COST"=some (some (.int 2 tCOST)))
  (nBEST:nsIn K mainGlobals "BEST"=some (some (.int 3 tBEST)))
  (nCOUNT:nsIn K mainGlobals "COUNT"=some (some (.int 4 tCOUNT)))
  (blen:nsIn K mainGlobals "len"=some none)
  (ball:nsIn K mainGlobals "all"=some none)
  (bsum:nsIn K mainGlobals "sum"=some none)
  (bmin:nsIn K mainGlobals "min"=some none)
  (brange:nsIn K mainGlobals "range"=some none)
  (bzip:nsIn K mainGlobals "zip"=some none)
  (benumerate:nsIn K mainGlobals "enumerate"=some none)
  (aSo:nsIn K mainGlobals "SORTS"=some (some (.ref aS)))
  (lSo:K.lookup aS=some (sortsObj q1 q2 q3 q4 q5 q6 t1 t2 t3 t4 t5 t6))
  (lq1:K.lookup q1=some (tupObj 65 85 u1 v1))
  (lq2:K.lookup q2=some (tupObj 67 71 u2 v2))
  (lq3:K.lookup q3=some (tupObj 71 67 u3 v3))
  (lq4:K.lookup q4=some (tupObj 71 85 u4 v4))
  (lq5:K.lookup q5=some (tupObj 85 65 u5 v5))
  (lq6:K.lookup q6=some (tupObj 85 71 u6 v6))
  (sSy:(aS==sysModules)=false)
  (aLe:nsIn K mainGlobals "LETTERS"=some (some (.ref aL)))
  (lLe:K.lookup aL=some (tup4 65 67 71 85 w1 w2 w3 w4))
  (aSg:nsIn K mainGlobals "SIGNS"=some (some (.ref aG)))
  (lSg:K.lookup aG=some (tup3 40 41 46 w5 w6 w7))
  (aCA:nsIn K mainGlobals "Arcs"=some (some (.ref CA)))
  (aCR:nsIn K mainGlobals "Row"=some (some (.ref CR)))
  (aCW:nsIn K mainGlobals "Window"=some (some (.ref CW)))
  (aCT:nsIn K mainGlobals "Tables"=some (some (.ref CT)))
  (aCP:nsIn K mainGlobals "Prices"=some (some (.ref CP)))
  (aCS:nsIn K mainGlobals "Search"=some (some (.ref CS)))
  (aCL:nsIn K mainGlobals "Line"=some (some (.ref CL)))
  (aSortOf:nsIn K mainGlobals "sort_of"=some (some (.ref fSortOf)))
  (lSortOf:K.lookup fSortOf=some (fob "sort_of" "sort_of" sSortOf o0 p0 d0 e0 i0 r0 z0 y0 x0))
  (cSortOf:codeIn K d0 "sort_of"=true)
  (kSortOf:keepIn K (.ref fSortOf)=true)
  (aMerged:nsIn K mainGlobals "merged"=some (some (.ref fMerged)))
  (lMerged:K.lookup fMerged=some (fob "merged" "merged" sMerged o1 p1 d1 e1 i1 r1 z1 y1 x1))
  (cMerged:codeIn K d1 "merged"=true)
  (kMerged:keepIn K (.ref fMerged)=true)
  (aOffered:nsIn K mainGlobals "offered"=some (some (.ref fOffered)))
  (lOffered:K.lookup fOffered=some (fob "offered" "offered" sOffered o2 p2 d2 e2 i2 r2 z2 y2 x2))
  (cOffered:codeIn K d2 "offered"=true)
  (kOffered:keepIn K (.ref fOffered)=true)
  (aIsStrand:nsIn K mainGlobals "is_strand"=some (some (.ref fIsStrand)))
  (lIsStrand:K.lookup fIsStrand=some (fob "is_strand" "is_strand" sIsStrand o3 p3 d3 e3 i3 r3 z3 y3 x3))
  (cIsStrand:codeIn K d3 "is_strand"=true)
  (kIsStrand:keepIn K (.ref fIsStrand)=true)
  (aAreTables:nsIn K mainGlobals "are_tables"=some (some (.ref fAreTables)))
  (lAreTables:K.lookup fAreTables=some (fob "are_tables" "are_tables" sAreTables o4 p4 d4 e4 i4 r4 z4 y4 x4))
  (cAreTables:codeIn K d4 "are_tables"=true)
  (kAreTables:keepIn K (.ref fAreTables)=true)
  (aStretched:nsIn K mainGlobals "stretched"=some (some (.ref fStretched)))
  (lStretched:K.lookup fStretched=some (fob "stretched" "stretched" sStretched o5 p5 d5 e5 i5 r5 z5 y5 x5))
  (cStretched:codeIn K d5 "stretched"=true)
  (kStretched:keepIn K (.ref fStretched)=true)
  (aWgt:nsIn K mainGlobals "weight_of_mark"=some (some (.ref fWgt)))
  (lWgt:K.lookup fWgt=some (fob "weight_of_mark" "weight_of_mark" sWgt o6 p6 d6 e6 i6 r6 z6 y6 x6))
  (cWgt:codeIn K d6 "weight_of_mark"=true)
  (kWgt:keepIn K (.ref fWgt)=true)
  (aAll:nsIn K mainGlobals "all_folds"=some (some (.ref fAll)))
  (lAll:K.lookup fAll=some (fob "all_folds" "all_folds" sAll o7 p7 d7 e7 i7 r7 z7 y7 x7))
  (cAll:codeIn K d7 "all_folds"=true)
  (kAll:keepIn K (.ref fAll)=true)
  (aBestF:nsIn K mainGlobals "best_folds"=some (some (.ref fBestF)))
  (lBestF:K.lookup fBestF=some (fob "best_folds" "best_folds" sBestF o8 p8 d8 e8 i8 r8 z8 y8 x8))
  (cBestF:codeIn K d8 "best_folds"=true)
  (kBestF:keepIn K (.ref fBestF)=true)
  (aCount:nsIn K mainGlobals "count_folds"=some (some (.ref fCount)))
  (lCount:K.lookup fCount=some (fob "count_folds" "count_folds" sCount o9 p9 d9 e9 i9 r9 z9 y9 x9))
  (cCount:codeIn K d9 "count_folds"=true)
  (kCount:keepIn K (.ref fCount)=true)
  (aPairC:nsIn K mainGlobals "count_with_pair"=some (some (.ref fPairC)))
  (lPairC:K.lookup fPairC=some (fob "count_with_pair" "count_with_pair" sPairC o10 p10 d10 e10 i10 r10 z10 y10 x10))
  (cPairC:codeIn K d10 "count_with_pair"=true)
  (kPairC:keepIn K (.ref fPairC)=true)
  (aParts:nsIn K mainGlobals "partners_of"=some (some (.ref fParts)))
  (lParts:K.lookup fParts=some (fob "partners_of" "partners_of" sParts o11 p11 d11 e11 i11 r11 z11 y11 x11))
  (cParts:codeIn K d11 "partners_of"=true)
  (kParts:keepIn K (.ref fParts)=true)
  (aFold:nsIn K mainGlobals "fold_cost"=some (some (.ref fFold)))
  (lFold:K.lookup fFold=some (fob "fold_cost" "fold_cost" sFold o12 p12 d12 e12 i12 r12 z12 y12 x12))
  (cFold:codeIn K d12 "fold_cost"=true)
  (kFold:keepIn K (.ref fFold)=true)
  (aLoop:nsIn K mainGlobals "loop_cost"=some (some (.ref fLoop)))
  (lLoop:K.lookup fLoop=some (fob "loop_cost" "loop_cost" sLoop o13 p13 d13 e13 i13 r13 z13 y13 x13))
  (cLoop:codeIn K d13 "loop_cost"=true)
  (kLoop:keepIn K (.ref fLoop)=true)
  (aRight:nsIn K mainGlobals "right_within"=some (some (.ref fRight)))
  (lRight:K.lookup fRight=some (fob "right_within" "right_within" sRight o14 p14 d14 e14 i14 r14 z14 y14 x14))
  (cRight:codeIn K d14 "right_within"=true)
  (kRight:keepIn K (.ref fRight)=true)
  (aSngl:nsIn K mainGlobals "single_cost"=some (some (.ref fSngl)))
  (lSngl:K.lookup fSngl=some (fob "single_cost" "single_cost" sSngl o15 p15 d15 e15 i15 r15 z15 y15 x15))
  (cSngl:codeIn K d15 "single_cost"=true)
  (kSngl:keepIn K (.ref fSngl)=true)
  (aPlace:nsIn K mainGlobals "place_values"=some (some (.ref fPlace)))
  (lPlace:K.lookup fPlace=some (fob "place_values" "place_values" sPlace o16 p16 d16 e16 i16 r16 z16 y16 x16))
  (cPlace:codeIn K d16 "place_values"=true)
  (kPlace:keepIn K (.ref fPlace)=true)
  (aFirst:nsIn K mainGlobals "first_best"=some (some (.ref fFirst)))
  (lFirst:K.lookup fFirst=some (fob "first_best" "first_best" sFirst o17 p17 d17 e17 i17 r17 z17 y17 x17))
  (cFirst:codeIn K d17 "first_best"=true)
  (kFirst:keepIn K (.ref fFirst)=true)
  (aCall:nsIn K mainGlobals "answer_call"=some (some (.ref fCall)))
  (lCall:K.lookup fCall=some (fob "answer_call" "answer_call" sCall o18 p18 d18 e18 i18 r18 z18 y18 x18))
  (cCall:codeIn K d18 "answer_call"=true)
  (kCall:keepIn K (.ref fCall)=true)
  (aACosts:nsIn K mainGlobals "answer_costs"=some (some (.ref fACosts)))
  (lACosts:K.lookup fACosts=some (fob "answer_costs" "answer_costs" sACosts o19 p19 d19 e19 i19 r19 z19 y19 x19))
  (cACosts:codeIn K d19 "answer_costs"=true)
  (kACosts:keepIn K (.ref fACosts)=true)
  (aACost:nsIn K mainGlobals "answer_cost"=some (some (.ref fACost)))
  (lACost:K.lookup fACost=some (fob "answer_cost" "answer_cost" sACost o20 p20 d20 e20 i20 r20 z20 y20 x20))
  (cACost:codeIn K d20 "answer_cost"=true)
  (kACost:keepIn K (.ref fACost)=true)
  (aABest:nsIn K mainGlobals "answer_best"=some (some (.ref fABest)))
  (lABest:K.lookup fABest=some (fob "answer_best" "answer_best" sABest o21 p21 d21 e21 i21 r21 z21 y21 x21))
  (cABest:codeIn K d21 "answer_best"=true)
  (kABest:keepIn K (.ref fABest)=true)
  (aACount:nsIn K mainGlobals "answer_count"=some (some (.ref fACount)))
  (lACount:K.lookup fACount=some (fob "answer_count" "answer_count" sACount o22 p22 d22 e22 i22 r22 z22 y22 x22))
  (cACount:codeIn K d22 "answer_count"=true)
  (kACount:keepIn K (.ref fACount)=true)
  (aAPair:nsIn K mainGlobals "answer_pair"=some (some (.ref fAPair)))
  (lAPair:K.lookup fAPair=some (fob "answer_pair" "answer_pair" sAPair o23 p23 d23 e23 i23 r23 z23 y23 x23))
  (cAPair:codeIn K d23 "answer_pair"=true)
  (kAPair:keepIn K (.ref fAPair)=true)
  (aAns:nsIn K mainGlobals "answers"=some (some (.ref fAns)))
  (lAns:K.lookup fAns=some (fob "answers" "answers" sAns o24 p24 d24 e24 i24 r24 z24 y24 x24))
  (cAns:codeIn K d24 "answers"=true)
  (kAns:keepIn K (.ref fAns)=true)
  (aArcsI:findIn K (.ref CA) "__init__"=some (some (.ref fArcsI)))
  (iArcsI:isFn K (.ref fArcsI)=true)
  (lArcsI:K.lookup fArcsI=some (fob "__init__" "Arcs.__init__" sArcsI o25 p25 d25 e25 i25 r25 z25 y25 x25))
  (cArcsI:codeIn K d25 "Arcs.__init__"=true)
  (kArcsI:keepIn K (.ref fArcsI)=true)
  (aArcsP:findIn K (.ref CA) "put"=some (some (.ref fArcsP)))
  (iArcsP:isFn K (.ref fArcsP)=true)
  (lArcsP:K.lookup fArcsP=some (fob "put" "Arcs.put" sArcsP o26 p26 d26 e26 i26 r26 z26 y26 x26))
  (cArcsP:codeIn K d26 "Arcs.put"=true)
  (kArcsP:keepIn K (.ref fArcsP)=true)
  (aRowI:findIn K (.ref CR) "__init__"=some (some (.ref fRowI)))
  (iRowI:isFn K (.ref fRowI)=true)
  (lRowI:K.lookup fRowI=some (fob "__init__" "Row.__init__" sRowI o27 p27 d27 e27 i27 r27 z27 y27 x27))
  (cRowI:codeIn K d27 "Row.__init__"=true)
  (kRowI:keepIn K (.ref fRowI)=true)
  (aWinI:findIn K (.ref CW) "__init__"=some (some (.ref fWinI)))
  (iWinI:isFn K (.ref fWinI)=true)
  (lWinI:K.lookup fWinI=some (fob "__init__" "Window.__init__" sWinI o28 p28 d28 e28 i28 r28 z28 y28 x28))
  (cWinI:codeIn K d28 "Window.__init__"=true)
  (kWinI:keepIn K (.ref fWinI)=true)
  (aWiden:findIn K (.ref CW) "widen"=some (some (.ref fWiden)))
  (iWiden:isFn K (.ref fWiden)=true)
  (lWiden:K.lookup fWiden=some (fob "widen" "Window.widen" sWiden o29 p29 d29 e29 i29 r29 z29 y29 x29))
  (cWiden:codeIn K d29 "Window.widen"=true)
  (kWiden:keepIn K (.ref fWiden)=true)
  (aTabI:findIn K (.ref CT) "__init__"=some (some (.ref fTabI)))
  (iTabI:isFn K (.ref fTabI)=true)
  (lTabI:K.lookup fTabI=some (fob "__init__" "Tables.__init__" sTabI o30 p30 d30 e30 i30 r30 z30 y30 x30))
  (cTabI:codeIn K d30 "Tables.__init__"=true)
  (kTabI:keepIn K (.ref fTabI)=true)
  (aPrcI:findIn K (.ref CP) "__init__"=some (some (.ref fPrcI)))
  (iPrcI:isFn K (.ref fPrcI)=true)
  (lPrcI:K.lookup fPrcI=some (fob "__init__" "Prices.__init__" sPrcI o31 p31 d31 e31 i31 r31 z31 y31 x31))
  (cPrcI:codeIn K d31 "Prices.__init__"=true)
  (kPrcI:keepIn K (.ref fPrcI)=true)
  (aSrI:findIn K (.ref CS) "__init__"=some (some (.ref fSrI)))
  (iSrI:isFn K (.ref fSrI)=true)
  (lSrI:K.lookup fSrI=some (fob "__init__" "Search.__init__" sSrI o32 p32 d32 e32 i32 r32 z32 y32 x32))
  (cSrI:codeIn K d32 "Search.__init__"=true)
  (kSrI:keepIn K (.ref fSrI)=true)
  (aLeast:findIn K (.ref CS) "least"=some (some (.ref fLeast)))
  (iLeast:isFn K (.ref fLeast)=true)
  (lLeast:K.lookup fLeast=some (fob "least" "Search.least" sLeast o33 p33 d33 e33 i33 r33 z33 y33 x33))
  (cLeast:codeIn K d33 "Search.least"=true)
  (kLeast:keepIn K (.ref fLeast)=true)
  (aRelease:findIn K (.ref CS) "release"=some (some (.ref fRelease)))
  (iRelease:isFn K (.ref fRelease)=true)
  (lRelease:K.lookup fRelease=some (fob "release" "Search.release" sRelease o34 p34 d34 e34 i34 r34 z34 y34 x34))
  (cRelease:codeIn K d34 "Search.release"=true)
  (kRelease:keepIn K (.ref fRelease)=true)
  (aFillP:findIn K (.ref CS) "fill_pairs"=some (some (.ref fFillP)))
  (iFillP:isFn K (.ref fFillP)=true)
  (lFillP:K.lookup fFillP=some (fob "fill_pairs" "Search.fill_pairs" sFillP o35 p35 d35 e35 i35 r35 z35 y35 x35))
  (cFillP:codeIn K d35 "Search.fill_pairs"=true)
  (kFillP:keepIn K (.ref fFillP)=true)
  (aNear:findIn K (.ref CS) "offer_near"=some (some (.ref fNear)))
  (iNear:isFn K (.ref fNear)=true)
  (lNear:K.lookup fNear=some (fob "offer_near" "Search.offer_near" sNear o36 p36 d36 e36 i36 r36 z36 y36 x36))
  (cNear:codeIn K d36 "Search.offer_near"=true)
  (kNear:keepIn K (.ref fNear)=true)
  (aSingle:findIn K (.ref CS) "offer_single"=some (some (.ref fSingle)))
  (iSingle:isFn K (.ref fSingle)=true)
  (lSingle:K.lookup fSingle=some (fob "offer_single" "Search.offer_single" sSingle o37 p37 d37 e37 i37 r37 z37 y37 x37))
  (cSingle:codeIn K d37 "Search.offer_single"=true)
  (kSingle:keepIn K (.ref fSingle)=true)
  (aKeep:findIn K (.ref CS) "keep_pair"=some (some (.ref fKeep)))
  (iKeep:isFn K (.ref fKeep)=true)
  (lKeep:K.lookup fKeep=some (fob "keep_pair" "Search.keep_pair" sKeep o38 p38 d38 e38 i38 r38 z38 y38 x38))
  (cKeep:codeIn K d38 "Search.keep_pair"=true)
  (kKeep:keepIn K (.ref fKeep)=true)
  (aFillM:findIn K (.ref CS) "fill_many"=some (some (.ref fFillM)))
  (iFillM:isFn K (.ref fFillM)=true)
  (lFillM:K.lookup fFillM=some (fob "fill_many" "Search.fill_many" sFillM o39 p39 d39 e39 i39 r39 z39 y39 x39))
  (cFillM:codeIn K d39 "Search.fill_many"=true)
  (kFillM:keepIn K (.ref fFillM)=true)
  (aLast:findIn K (.ref CS) "last_of_two"=some (some (.ref fLast)))
  (iLast:isFn K (.ref fLast)=true)
  (lLast:K.lookup fLast=some (fob "last_of_two" "Search.last_of_two" sLast o40 p40 d40 e40 i40 r40 z40 y40 x40))
  (cLast:codeIn K d40 "Search.last_of_two"=true)
  (kLast:keepIn K (.ref fLast)=true)
  (aFillR:findIn K (.ref CS) "fill_rest"=some (some (.ref fFillR)))
  (iFillR:isFn K (.ref fFillR)=true)
  (lFillR:K.lookup fFillR=some (fob "fill_rest" "Search.fill_rest" sFillR o41 p41 d41 e41 i41 r41 z41 y41 x41))
  (cFillR:codeIn K d41 "Search.fill_rest"=true)
  (kFillR:keepIn K (.ref fFillR)=true)
  (aLnI:findIn K (.ref CL) "__init__"=some (some (.ref fLnI)))
  (iLnI:isFn K (.ref fLnI)=true)
  (lLnI:K.lookup fLnI=some (fob "__init__" "Line.__init__" sLnI o42 p42 d42 e42 i42 r42 z42 y42 x42))
  (cLnI:codeIn K d42 "Line.__init__"=true)
  (kLnI:keepIn K (.ref fLnI)=true)
  (aReadN:findIn K (.ref CL) "read_number"=some (some (.ref fReadN)))
  (iReadN:isFn K (.ref fReadN)=true)
  (lReadN:K.lookup fReadN=some (fob "read_number" "Line.read_number" sReadN o43 p43 d43 e43 i43 r43 z43 y43 x43))
  (cReadN:codeIn K d43 "Line.read_number"=true)
  (kReadN:keepIn K (.ref fReadN)=true)
  (aReadR:findIn K (.ref CL) "read_row"=some (some (.ref fReadR)))
  (iReadR:isFn K (.ref fReadR)=true)
  (lReadR:K.lookup fReadR=some (fob "read_row" "Line.read_row" sReadR o44 p44 d44 e44 i44 r44 z44 y44 x44))
  (cReadR:codeIn K d44 "Line.read_row"=true)
  (kReadR:keepIn K (.ref fReadR)=true)
  (pgCA:plainGet K CA Str.empty=true)
  (hdCA:hasDictIn K CA=true)
  (poCA:plainOver K CA=true)
  (saCA:findIn K (.ref CA) "__setattr__"=some (some (.builtin "object.__setattr__")))
  (mkCA:makesIn K CA=true)
  (kcCA:keepIn K (.ref CA)=true)
  (xCA0:findIn K (.ref CA) "places"=some none)
  (xCA1:findIn K (.ref CA) "costs"=some none)
  (xCA2:findIn K (.ref CA) "ways"=some none)
  (pgCR:plainGet K CR Str.empty=true)
  (hdCR:hasDictIn K CR=true)
  (poCR:plainOver K CR=true)
  (saCR:findIn K (.ref CR) "__setattr__"=some (some (.builtin "object.__setattr__")))
  (mkCR:makesIn K CR=true)
  (kcCR:keepIn K (.ref CR)=true)
  (xCR0:findIn K (.ref CR) "left"=some none)
  (xCR1:findIn K (.ref CR) "pair_costs"=some none)
  (xCR2:findIn K (.ref CR) "pair_ways"=some none)
  (xCR3:findIn K (.ref CR) "one_costs"=some none)
  (xCR4:findIn K (.ref CR) "one_ways"=some none)
  (xCR5:findIn K (.ref CR) "two_costs"=some none)
  (xCR6:findIn K (.ref CR) "two_ways"=some none)
  (pgCW:plainGet K CW Str.empty=true)
  (hdCW:hasDictIn K CW=true)
  (poCW:plainOver K CW=true)
  (saCW:findIn K (.ref CW) "__setattr__"=some (some (.builtin "object.__setattr__")))
  (mkCW:makesIn K CW=true)
  (kcCW:keepIn K (.ref CW)=true)
  (xCW0:findIn K (.ref CW) "low_costs"=some none)
  (xCW1:findIn K (.ref CW) "low_ways"=some none)
  (pgCT:plainGet K CT Str.empty=true)
  (hdCT:hasDictIn K CT=true)
  (poCT:plainOver K CT=true)
  (saCT:findIn K (.ref CT) "__setattr__"=some (some (.builtin "object.__setattr__")))
  (mkCT:makesIn K CT=true)
  (kcCT:keepIn K (.ref CT)=true)
  (xCT0:findIn K (.ref CT) "stacks"=some none)
  (xCT1:findIn K (.ref CT) "ends"=some none)
  (xCT2:findIn K (.ref CT) "sides"=some none)
  (xCT3:findIn K (.ref CT) "both_sides"=some none)
  (xCT4:findIn K (.ref CT) "many_once"=some none)
  (xCT5:findIn K (.ref CT) "many_pair"=some none)
  (xCT6:findIn K (.ref CT) "many_letter"=some none)
  (pgCP:plainGet K CP Str.empty=true)
  (hdCP:hasDictIn K CP=true)
  (poCP:plainOver K CP=true)
  (saCP:findIn K (.ref CP) "__setattr__"=some (some (.builtin "object.__setattr__")))
  (mkCP:makesIn K CP=true)
  (kcCP:keepIn K (.ref CP)=true)
  (xCP0:findIn K (.ref CP) "tables"=some none)
  (xCP1:findIn K (.ref CP) "far"=some none)
  (xCP2:findIn K (.ref CP) "opening"=some none)
  (xCP3:findIn K (.ref CP) "closing"=some none)
  (xCP4:findIn K (.ref CP) "mark"=some none)
  (xCP5:findIn K (.ref CP) "weight"=some none)
  (xCP6:findIn K (.ref CP) "both_down"=some none)
  (pgCS:plainGet K CS Str.empty=true)
  (hdCS:hasDictIn K CS=true)
  (poCS:plainOver K CS=true)
  (saCS:findIn K (.ref CS) "__setattr__"=some (some (.builtin "object.__setattr__")))
  (mkCS:makesIn K CS=true)
  (kcCS:keepIn K (.ref CS)=true)
  (xCS0:findIn K (.ref CS) "strand"=some none)
  (xCS1:findIn K (.ref CS) "size"=some none)
  (xCS2:findIn K (.ref CS) "prices"=some none)
  (xCS3:findIn K (.ref CS) "rows"=some none)
  (xCS4:findIn K (.ref CS) "arcs"=some none)
  (xCS5:findIn K (.ref CS) "rest_costs"=some none)
  (xCS6:findIn K (.ref CS) "rest_ways"=some none)
  (pgCL:plainGet K CL Str.empty=true)
  (hdCL:hasDictIn K CL=true)
  (poCL:plainOver K CL=true)
  (saCL:findIn K (.ref CL) "__setattr__"=some (some (.builtin "object.__setattr__")))
  (mkCL:makesIn K CL=true)
  (kcCL:keepIn K (.ref CL)=true)
  (xCL0:findIn K (.ref CL) "calls"=some none)
  (xCL1:findIn K (.ref CL) "place"=some none)
  (xCL2:findIn K (.ref CL) "numbers"=some none)
  :∃fd:FuncData,(∀(s:Shared) (us:List Value),us.length=(["calls"]:List Str).length->BindsTo s fd ⟨us,[]⟩ ((["calls"]:List Str).zip us))/\∀base:Heap,K.In base->base.Ns mainGlobals mg->FnOk P w K mg base CX0 10 fa fd ["calls"] (spAns K):=by
 have e:=hfa.symm.trans (mg_of X G aAns)
 cases e
 have T:Txt K mg aS aL aG:=⟨⟨_,mg_of X G nLONGEST⟩,⟨_,mg_of X G nNEAREST⟩,⟨_,mg_of X G nFAR⟩,⟨_,mg_of X G nLARGEST⟩,⟨_,mg_of X G nMODULUS⟩,⟨_,mg_of X G nOPENED⟩,⟨_,mg_of X G nCLOSED⟩,⟨_,mg_of X G nDOT⟩,⟨_,mg_of X G nCOSTS⟩,⟨_,mg_of X G nCOST⟩,⟨_,mg_of X G nBEST⟩,⟨_,mg_of X G nCOUNT⟩,mg_of X G aSo,⟨⟨q1,q2,q3,q4,q5,q6,t1,t2,t3,t4,t5,t6,u1,u2,u3,u4,u5,u6,v1,v2,v3,v4,v5,v6,lSo,lq1,lq2,lq3,lq4,lq5,lq6⟩,sSy⟩,mg_of X G aLe,fun H=>.inr ⟨_,_,_,lLe,rfl,rfl,(by show 4<=sizeLine;decide),.cons ⟨_,rfl⟩ (.cons ⟨_,rfl⟩ (.cons ⟨_,rfl⟩ (.cons ⟨_,rfl⟩ .nil)))⟩,mg_of X G aSg,fun H=>.inr ⟨_,_,_,lSg,rfl,rfl,(by show 3<=sizeLine;decide),.cons ⟨_,rfl⟩ (.cons ⟨_,rfl⟩ (.cons ⟨_,rfl⟩ .nil))⟩,mg_none_of X G blen,mg_none_of X G ball,mg_none_of X G bsum,mg_none_of X G bmin,mg_none_of X G brange,mg_none_of X G bzip,mg_none_of X G benumerate⟩
 have XCA:ClsF K CA arcN:=⟨⟨pgCA,hdCA,poCA,saCA⟩,fun i f e=>match i,f,e with |0,f,e=>by cases e;exact xCA0 |1,f,e=>by cases e;exact xCA1 |2,f,e=>by cases e;exact xCA2⟩
 have XCR:ClsF K CR rowN:=⟨⟨pgCR,hdCR,poCR,saCR⟩,fun i f e=>match i,f,e with |0,f,e=>by cases e;exact xCR0 |1,f,e=>by cases e;exact xCR1 |2,f,e=>by cases e;exact xCR2 |3,f,e=>by cases e;exact xCR3 |4,f,e=>by cases e;exact xCR4 |5,f,e=>by cases e;exact xCR5 |6,f,e=>by cases e;exact xCR6⟩
 have XCW:ClsF K CW winN:=⟨⟨pgCW,hdCW,poCW,saCW⟩,fun i f e=>match i,f,e with |0,f,e=>by cases e;exact xCW0 |1,f,e=>by cases e;exact xCW1⟩
 have XCT:ClsF K CT tabN:=⟨⟨pgCT,hdCT,poCT,saCT⟩,fun i f e=>match i,f,e with |0,f,e=>by cases e;exact xCT0 |1,f,e=>by cases e;exact xCT1 |2,f,e=>by cases e;exact xCT2 |3,f,e=>by cases e;exact xCT3 |4,f,e=>by cases e;exact xCT4 |5,f,e=>by cases e;exact xCT5 |6,f,e=>by cases e;exact xCT6⟩
 have XCP:ClsF K CP prcN:=⟨⟨pgCP,hdCP,poCP,saCP⟩,fun i f e=>match i,f,e with |0,f,e=>by cases e;exact xCP0 |1,f,e=>by cases e;exact xCP1 |2,f,e=>by cases e;exact xCP2 |3,f,e=>by cases e;exact xCP3 |4,f,e=>by cases e;exact xCP4 |5,f,e=>by cases e;exact xCP5 |6,f,e=>by cases e;exact xCP6⟩
 have XCS:ClsF K CS srN:=⟨⟨pgCS,hdCS,poCS,saCS⟩,fun i f e=>match i,f,e with |0,f,e=>by cases e;exact xCS0 |1,f,e=>by cases e;exact xCS1 |2,f,e=>by cases e;exact xCS2 |3,f,e=>by cases e;exact xCS3 |4,f,e=>by cases e;exact xCS4 |5,f,e=>by cases e;exact xCS5 |6,f,e=>by cases e;exact xCS6⟩
 have XCL:ClsF K CL lnN:=⟨⟨pgCL,hdCL,poCL,saCL⟩,fun i f e=>match i,f,e with |0,f,e=>by cases e;exact xCL0 |1,f,e=>by cases e;exact xCL1 |2,f,e=>by cases e;exact xCL2⟩
 have FSortOf:=aI (st:=sSortOf) lSortOf cSortOf kSortOf
 have BSortOf:=FSortOf.binds (ps:=["strand","left","right"]) fun _ _ _ _ _ _ us hl=>of3 (p:=fun us=>bindArgs _ ⟨us,[]⟩=pure (List.zip _ us)) (fun _ _ _=>rfl) us hl
 have FMerged:=aI (st:=sMerged) lMerged cMerged kMerged
 have BMerged:=FMerged.binds (ps:=["cost","ways","other_cost","other_ways"]) fun _ _ _ _ _ _ us hl=>of4 (p:=fun us=>bindArgs _ ⟨us,[]⟩=pure (List.zip _ us)) (fun _ _ _ _=>rfl) us hl
 have FOffered:=aI (st:=sOffered) lOffered cOffered kOffered
 have BOffered:=FOffered.binds (ps:=["found","costs","ways"]) fun _ _ _ _ _ _ us hl=>of3 (p:=fun us=>bindArgs _ ⟨us,[]⟩=pure (List.zip _ us)) (fun _ _ _=>rfl) us hl
 have FIsStrand:=aI (st:=sIsStrand) lIsStrand cIsStrand kIsStrand
 have BIsStrand:=FIsStrand.binds (ps:=["letters"]) fun _ _ _ _ _ _ us hl=>of1 (p:=fun us=>bindArgs _ ⟨us,[]⟩=pure (List.zip _ us)) (fun _=>rfl) us hl
 have FAreTables:=aI (st:=sAreTables) lAreTables cAreTables kAreTables
 have BAreTables:=FAreTables.binds (ps:=["numbers"]) fun _ _ _ _ _ _ us hl=>of1 (p:=fun us=>bindArgs _ ⟨us,[]⟩=pure (List.zip _ us)) (fun _=>rfl) us hl
 have FStretched:=aI (st:=sStretched) lStretched cStretched kStretched
 have BStretched:=FStretched.binds (ps:=["numbers"]) fun _ _ _ _ _ _ us hl=>of1 (p:=fun us=>bindArgs _ ⟨us,[]⟩=pure (List.zip _ us)) (fun _=>rfl) us hl
 have FWgt:=aI (st:=sWgt) lWgt cWgt kWgt
 have BWgt:=FWgt.binds (ps:=[]) fun _ _ _ _ _ _ us hl=>of0 (p:=fun us=>bindArgs _ ⟨us,[]⟩=pure (List.zip _ us)) (fun _=>rfl) us hl
 have FAll:=aI (st:=sAll) lAll cAll kAll
 have BAll:=FAll.binds (ps:=["strand","mark","weight"]) fun _ _ _ _ _ _ us hl=>of3 (p:=fun us=>bindArgs _ ⟨us,[]⟩=pure (List.zip _ us)) (fun _ _ _=>rfl) us hl
 have FBestF:=aI (st:=sBestF) lBestF cBestF kBestF
 have BBestF:=FBestF.binds (ps:=["numbers","strand","mark","weight"]) fun _ _ _ _ _ _ us hl=>of4 (p:=fun us=>bindArgs _ ⟨us,[]⟩=pure (List.zip _ us)) (fun _ _ _ _=>rfl) us hl
 have FCount:=aI (st:=sCount) lCount cCount kCount
 have BCount:=FCount.binds (ps:=["numbers","strand"]) fun _ _ _ _ _ _ us hl=>of2 (p:=fun us=>bindArgs _ ⟨us,[]⟩=pure (List.zip _ us)) (fun _ _=>rfl) us hl
 have FPairC:=aI (st:=sPairC) lPairC cPairC kPairC
 have BPairC:=FPairC.binds (ps:=["numbers","strand","left","right"]) fun _ _ _ _ _ _ us hl=>of4 (p:=fun us=>bindArgs _ ⟨us,[]⟩=pure (List.zip _ us)) (fun _ _ _ _=>rfl) us hl
 have FParts:=aI (st:=sParts) lParts cParts kParts
 have BParts:=FParts.binds (ps:=["strand","fold"]) fun _ _ _ _ _ _ us hl=>of2 (p:=fun us=>bindArgs _ ⟨us,[]⟩=pure (List.zip _ us)) (fun _ _=>rfl) us hl
 have FFold:=aI (st:=sFold) lFold cFold kFold
 have BFold:=FFold.binds (ps:=["tables","strand","partners"]) fun _ _ _ _ _ _ us hl=>of3 (p:=fun us=>bindArgs _ ⟨us,[]⟩=pure (List.zip _ us)) (fun _ _ _=>rfl) us hl
 have FLoop:=aI (st:=sLoop) lLoop cLoop kLoop
 have BLoop:=FLoop.binds (ps:=["tables","strand","partners","left"]) fun _ _ _ _ _ _ us hl=>of4 (p:=fun us=>bindArgs _ ⟨us,[]⟩=pure (List.zip _ us)) (fun _ _ _ _=>rfl) us hl
 have FRight:=aI (st:=sRight) lRight cRight kRight
 have BRight:=FRight.binds (ps:=["partners","left"]) fun _ _ _ _ _ _ us hl=>of2 (p:=fun us=>bindArgs _ ⟨us,[]⟩=pure (List.zip _ us)) (fun _ _=>rfl) us hl
 have FSngl:=aI (st:=sSngl) lSngl cSngl kSngl
 have BSngl:=FSngl.binds (ps:=["tables","strand","outer","inner"]) fun _ _ _ _ _ _ us hl=>of4 (p:=fun us=>bindArgs _ ⟨us,[]⟩=pure (List.zip _ us)) (fun _ _ _ _=>rfl) us hl
 have FPlace:=aI (st:=sPlace) lPlace cPlace kPlace
 have BPlace:=FPlace.binds (ps:=["size"]) fun _ _ _ _ _ _ us hl=>of1 (p:=fun us=>bindArgs _ ⟨us,[]⟩=pure (List.zip _ us)) (fun _=>rfl) us hl
 have FFirst:=aI (st:=sFirst) lFirst cFirst kFirst
 have BFirst:=FFirst.binds (ps:=["numbers","strand"]) fun _ _ _ _ _ _ us hl=>of2 (p:=fun us=>bindArgs _ ⟨us,[]⟩=pure (List.zip _ us)) (fun _ _=>rfl) us hl
 have FCall:=aI (st:=sCall) lCall cCall kCall
 have BCall:=FCall.binds (ps:=["line"]) fun _ _ _ _ _ _ us hl=>of1 (p:=fun us=>bindArgs _ ⟨us,[]⟩=pure (List.zip _ us)) (fun _=>rfl) us hl
 have FACosts:=aI (st:=sACosts) lACosts cACosts kACosts
 have BACosts:=FACosts.binds (ps:=["line"]) fun _ _ _ _ _ _ us hl=>of1 (p:=fun us=>bindArgs _ ⟨us,[]⟩=pure (List.zip _ us)) (fun _=>rfl) us hl
 have FACost:=aI (st:=sACost) lACost cACost kACost
 have BACost:=FACost.binds (ps:=["line"]) fun _ _ _ _ _ _ us hl=>of1 (p:=fun us=>bindArgs _ ⟨us,[]⟩=pure (List.zip _ us)) (fun _=>rfl) us hl
 have FABest:=aI (st:=sABest) lABest cABest kABest
 have BABest:=FABest.binds (ps:=["line"]) fun _ _ _ _ _ _ us hl=>of1 (p:=fun us=>bindArgs _ ⟨us,[]⟩=pure (List.zip _ us)) (fun _=>rfl) us hl
 have FACount:=aI (st:=sACount) lACount cACount kACount
 have BACount:=FACount.binds (ps:=["line"]) fun _ _ _ _ _ _ us hl=>of1 (p:=fun us=>bindArgs _ ⟨us,[]⟩=pure (List.zip _ us)) (fun _=>rfl) us hl
 have FAPair:=aI (st:=sAPair) lAPair cAPair kAPair
 have BAPair:=FAPair.binds (ps:=["line"]) fun _ _ _ _ _ _ us hl=>of1 (p:=fun us=>bindArgs _ ⟨us,[]⟩=pure (List.zip _ us)) (fun _=>rfl) us hl
 have FAns:=aI (st:=sAns) lAns cAns kAns
 have BAns:=FAns.binds (ps:=["calls"]) fun _ _ _ _ _ _ us hl=>of1 (p:=fun us=>bindArgs _ ⟨us,[]⟩=pure (List.zip _ us)) (fun _=>rfl) us hl
 have FArcsI:=aI (st:=sArcsI) lArcsI cArcsI kArcsI
 have BArcsI:=FArcsI.binds (ps:=["self"]) fun _ _ _ _ _ _ us hl=>of1 (p:=fun us=>bindArgs _ ⟨us,[]⟩=pure (List.zip _ us)) (fun _=>rfl) us hl
 have FArcsP:=aI (st:=sArcsP) lArcsP cArcsP kArcsP
 have BArcsP:=FArcsP.binds (ps:=["self","place","cost","ways"]) fun _ _ _ _ _ _ us hl=>of4 (p:=fun us=>bindArgs _ ⟨us,[]⟩=pure (List.zip _ us)) (fun _ _ _ _=>rfl) us hl
 have FRowI:=aI (st:=sRowI) lRowI cRowI kRowI
 have BRowI:=FRowI.binds (ps:=["self","left","size","far"]) fun _ _ _ _ _ _ us hl=>of4 (p:=fun us=>bindArgs _ ⟨us,[]⟩=pure (List.zip _ us)) (fun _ _ _ _=>rfl) us hl
 have FWinI:=aI (st:=sWinI) lWinI cWinI kWinI
 have BWinI:=FWinI.binds (ps:=["self","size","far"]) fun _ _ _ _ _ _ us hl=>of3 (p:=fun us=>bindArgs _ ⟨us,[]⟩=pure (List.zip _ us)) (fun _ _ _=>rfl) us hl
 have FWiden:=aI (st:=sWiden) lWiden cWiden kWiden
 have BWiden:=FWiden.binds (ps:=["self","arcs","right"]) fun _ _ _ _ _ _ us hl=>of3 (p:=fun us=>bindArgs _ ⟨us,[]⟩=pure (List.zip _ us)) (fun _ _ _=>rfl) us hl
 have FTabI:=aI (st:=sTabI) lTabI cTabI kTabI
 have BTabI:=FTabI.binds (ps:=["self","numbers","scale"]) fun _ _ _ _ _ _ us hl=>of3 (p:=fun us=>bindArgs _ ⟨us,[]⟩=pure (List.zip _ us)) (fun _ _ _=>rfl) us hl
 have FPrcI:=aI (st:=sPrcI) lPrcI cPrcI kPrcI
 have BPrcI:=FPrcI.binds (ps:=["self","tables","far","opening","closing","mark","weight"]) fun _ _ _ _ _ _ us hl=>of7 (p:=fun us=>bindArgs _ ⟨us,[]⟩=pure (List.zip _ us)) (fun _ _ _ _ _ _ _=>rfl) us hl
 have FSrI:=aI (st:=sSrI) lSrI cSrI kSrI
 have BSrI:=FSrI.binds (ps:=["self","strand","prices"]) fun _ _ _ _ _ _ us hl=>of3 (p:=fun us=>bindArgs _ ⟨us,[]⟩=pure (List.zip _ us)) (fun _ _ _=>rfl) us hl
 have FLeast:=aI (st:=sLeast) lLeast cLeast kLeast
 have BLeast:=FLeast.binds (ps:=["self"]) fun _ _ _ _ _ _ us hl=>of1 (p:=fun us=>bindArgs _ ⟨us,[]⟩=pure (List.zip _ us)) (fun _=>rfl) us hl
 have FRelease:=aI (st:=sRelease) lRelease cRelease kRelease
 have BRelease:=FRelease.binds (ps:=["self","row"]) fun _ _ _ _ _ _ us hl=>of2 (p:=fun us=>bindArgs _ ⟨us,[]⟩=pure (List.zip _ us)) (fun _ _=>rfl) us hl
 have FFillP:=aI (st:=sFillP) lFillP cFillP kFillP
 have BFillP:=FFillP.binds (ps:=["self","row"]) fun _ _ _ _ _ _ us hl=>of2 (p:=fun us=>bindArgs _ ⟨us,[]⟩=pure (List.zip _ us)) (fun _ _=>rfl) us hl
 have FNear:=aI (st:=sNear) lNear cNear kNear
 have BNear:=FNear.binds (ps:=["self","left","right","outer"]) fun _ _ _ _ _ _ us hl=>of4 (p:=fun us=>bindArgs _ ⟨us,[]⟩=pure (List.zip _ us)) (fun _ _ _ _=>rfl) us hl
 have FSingle:=aI (st:=sSingle) lSingle cSingle kSingle
 have BSingle:=FSingle.binds (ps:=["self","found","left","right","shorter","window"]) fun _ _ _ _ _ _ us hl=>of6 (p:=fun us=>bindArgs _ ⟨us,[]⟩=pure (List.zip _ us)) (fun _ _ _ _ _ _=>rfl) us hl
 have FKeep:=aI (st:=sKeep) lKeep cKeep kKeep
 have BKeep:=FKeep.binds (ps:=["self","row","right","found"]) fun _ _ _ _ _ _ us hl=>of4 (p:=fun us=>bindArgs _ ⟨us,[]⟩=pure (List.zip _ us)) (fun _ _ _ _=>rfl) us hl
 have FFillM:=aI (st:=sFillM) lFillM cFillM kFillM
 have BFillM:=FFillM.binds (ps:=["self","row"]) fun _ _ _ _ _ _ us hl=>of2 (p:=fun us=>bindArgs _ ⟨us,[]⟩=pure (List.zip _ us)) (fun _ _=>rfl) us hl
 have FLast:=aI (st:=sLast) lLast cLast kLast
 have BLast:=FLast.binds (ps:=["self","right","some_costs","some_ways"]) fun _ _ _ _ _ _ us hl=>of4 (p:=fun us=>bindArgs _ ⟨us,[]⟩=pure (List.zip _ us)) (fun _ _ _ _=>rfl) us hl
 have FFillR:=aI (st:=sFillR) lFillR cFillR kFillR
 have BFillR:=FFillR.binds (ps:=["self","row"]) fun _ _ _ _ _ _ us hl=>of2 (p:=fun us=>bindArgs _ ⟨us,[]⟩=pure (List.zip _ us)) (fun _ _=>rfl) us hl
 have FLnI:=aI (st:=sLnI) lLnI cLnI kLnI
 have BLnI:=FLnI.binds (ps:=["self","calls"]) fun _ _ _ _ _ _ us hl=>of2 (p:=fun us=>bindArgs _ ⟨us,[]⟩=pure (List.zip _ us)) (fun _ _=>rfl) us hl
 have FReadN:=aI (st:=sReadN) lReadN cReadN kReadN
 have BReadN:=FReadN.binds (ps:=["self"]) fun _ _ _ _ _ _ us hl=>of1 (p:=fun us=>bindArgs _ ⟨us,[]⟩=pure (List.zip _ us)) (fun _=>rfl) us hl
 have FReadR:=aI (st:=sReadR) lReadR cReadR kReadR
 have BReadR:=FReadR.binds (ps:=["self"]) fun _ _ _ _ _ _ us hl=>of1 (p:=fun us=>bindArgs _ ⟨us,[]⟩=pure (List.zip _ us)) (fun _=>rfl) us hl
 refine⟨PySem.W.fnOf "answers" "answers" (defArgs sAns) (defBody sAns) (ax sAns) .none e24 i24 r24 y24 d24 z24,fun s us hu=>of1 (p:=fun us=>BindsTo s _ ⟨us,[]⟩ (List.zip _ us)) (fun _=>.of_eq rfl) us hu,fun base _ _=>?_⟩
 have fc:SrC K CS CR CA CP CT:=⟨XCS,XCR,XCA,XCP,XCT⟩
 have NSortOf:Fn P w K mg base 1 "sort_of" ["strand","left","right"] (spSortOf K):=⟨fSortOf,_,mg_of X G aSortOf,kSortOf,BSortOf,oZ FSortOf T⟩
 have NMerged:Fn P w K mg base 1 "merged" ["cost","ways","other_cost","other_ways"] spMerged:=⟨fMerged,_,mg_of X G aMerged,kMerged,BMerged,oS FMerged⟩
 have NOffered:Fn P w K mg base 2 "offered" ["found","costs","ways"] (spOffered K):=⟨fOffered,_,mg_of X G aOffered,kOffered,BOffered,mI FOffered T NMerged⟩
 have NIsStrand:Fn P w K mg base 1 "is_strand" ["letters"] (spIsStrand K):=⟨fIsStrand,_,mg_of X G aIsStrand,kIsStrand,BIsStrand,lN FIsStrand T⟩
 have NAreTables:Fn P w K mg base 1 "are_tables" ["numbers"] (spAreTables K):=⟨fAreTables,_,mg_of X G aAreTables,kAreTables,BAreTables,kI FAreTables T⟩
 have NStretched:Fn P w K mg base 1 "stretched" ["numbers"] spStretched:=⟨fStretched,_,mg_of X G aStretched,kStretched,BStretched,kH FStretched T⟩
 have NArcsI:Mc P w K mg base 1 "Arcs" CA ["self"] (spArcsI CA):=⟨mg_of X G aCA,fArcsI,_,⟨mkCA,aArcsI,iArcsI,kcCA⟩,BArcsI,rV FArcsI XCA⟩
 have NArcsP:Mt P w K mg base 1 CA "put" ["self","place","cost","ways"] (spArcsP CA):=⟨XCA.cl,fArcsP,_,⟨aArcsP,iArcsP,kArcsP⟩,BArcsP,rX FArcsP XCA⟩
 have NRowI:Mc P w K mg base 1 "Row" CR ["self","left","size","far"] (spRowI CR):=⟨mg_of X G aCR,fRowI,_,⟨mkCR,aRowI,iRowI,kcCR⟩,BRowI,tY FRowI XCR⟩
 have NWinI:Mc P w K mg base 1 "Window" CW ["self","size","far"] (spWinI CW):=⟨mg_of X G aCW,fWinI,_,⟨mkCW,aWinI,iWinI,kcCW⟩,BWinI,tF FWinI XCW⟩
 have NWiden:Mt P w K mg base 1 CW "widen" ["self","arcs","right"] (spWiden CW CA):=⟨XCW.cl,fWiden,_,⟨aWiden,iWiden,kWiden⟩,BWiden,qL FWiden T XCW XCA⟩
 have NTabI:Mc P w K mg base 2 "Tables" CT ["self","numbers","scale"] (spTabI K CT):=⟨mg_of X G aCT,fTabI,_,⟨mkCT,aTabI,iTabI,kcCT⟩,BTabI,tZ FTabI T XCT NStretched⟩
 have NPrcI:Mc P w K mg base 1 "Prices" CP ["self","tables","far","opening","closing","mark","weight"] (spPrcI CP CT):=⟨mg_of X G aCP,fPrcI,_,⟨mkCP,aPrcI,iPrcI,kcCP⟩,BPrcI,tM FPrcI T XCP XCT⟩
 have NRelease:Mt P w K mg base 2 CS "release" ["self","row"] (spRelease CS CR CA):=⟨XCS.cl,fRelease,_,⟨aRelease,iRelease,kRelease⟩,BRelease,mW FRelease T XCS XCR NArcsP⟩
 have NNear:Mt P w K mg base 2 CS "offer_near" ["self","left","right","outer"] (spNear K CS CR CA CP CT):=⟨XCS.cl,fNear,_,⟨aNear,iNear,kNear⟩,BNear,uh FNear T fc NMerged NSortOf⟩
 have NKeep:Mt P w K mg base 1 CS "keep_pair" ["self","row","right","found"] (spKeep K CS CR CA CP CT):=⟨XCS.cl,fKeep,_,⟨aKeep,iKeep,kKeep⟩,BKeep,uv FKeep fc⟩
 have NSingle:Mt P w K mg base 3 CS "offer_single" ["self","found","left","right","shorter","window"] (spSingle K CS CR CA CP CT CW):=⟨XCS.cl,fSingle,_,⟨aSingle,iSingle,kSingle⟩,BSingle,pd FSingle T fc XCW NOffered⟩
 have NFillP:Mt P w K mg base 4 CS "fill_pairs" ["self","row"] (spFillP K CS CR CA CP CT):=⟨XCS.cl,fFillP,_,⟨aFillP,iFillP,kFillP⟩,BFillP,sU FFillP T fc NWinI NArcsI NWiden NArcsP NSortOf NNear NKeep NSingle⟩
 have NLast:Mt P w K mg base 1 CS "last_of_two" ["self","right","some_costs","some_ways"] (spLast K CS CR CA CP CT):=⟨XCS.cl,fLast,_,⟨aLast,iLast,kLast⟩,BLast,uf FLast T fc⟩
 have NFillM:Mt P w K mg base 2 CS "fill_many" ["self","row"] (spFillM K CS CR CA CP CT):=⟨XCS.cl,fFillM,_,⟨aFillM,iFillM,kFillM⟩,BFillM,qx FFillM T fc NMerged NLast⟩
 have NFillR:Mt P w K mg base 2 CS "fill_rest" ["self","row"] (spFillR CS CR CA):=⟨XCS.cl,fFillR,_,⟨aFillR,iFillR,kFillR⟩,BFillR,sP FFillR T XCS XCR NMerged⟩
 have NLeast:Mt P w K mg base 5 CS "least" ["self"] (spLeast K CS CR CA CP CT):=⟨XCS.cl,fLeast,_,⟨aLeast,iLeast,kLeast⟩,BLeast,qe FLeast T XCS NRelease NFillP NFillM NFillR⟩
 have NSrI:Mc P w K mg base 3 "Search" CS ["self","strand","prices"] (spSrI K CS CR CA CP CT):=⟨mg_of X G aCS,fSrI,_,⟨mkCS,aSrI,iSrI,kcCS⟩,BSrI,uS FSrI T fc NRowI NArcsI⟩
 have NWgt:Fn P w K mg base 1 "weight_of_mark" [] spWgt:=⟨fWgt,_,mg_of X G aWgt,kWgt,BWgt,uL FWgt⟩
 have NAll:Fn P w K mg base 2 "all_folds" ["strand","mark","weight"] (spAll K):=⟨fAll,_,mg_of X G aAll,kAll,BAll,ok_all FAll T NSortOf⟩
 have NBestF:Fn P w K mg base 6 "best_folds" ["numbers","strand","mark","weight"] (spBestF K):=⟨fBestF,_,mg_of X G aBestF,kBestF,BBestF,qt FBestF T NPrcI NTabI NSrI NLeast⟩
 have NCount:Fn P w K mg base 7 "count_folds" ["numbers","strand"] (spCount K):=⟨fCount,_,mg_of X G aCount,kCount,BCount,sL FCount T NAll NBestF⟩
 have NPairC:Fn P w K mg base 7 "count_with_pair" ["numbers","strand","left","right"] (spPairC K):=⟨fPairC,_,mg_of X G aPairC,kPairC,BPairC,rO FPairC T NSortOf NWgt NAll NBestF⟩
 have NParts:Fn P w K mg base 2 "partners_of" ["strand","fold"] (spParts K):=⟨fParts,_,mg_of X G aParts,kParts,BParts,qZ FParts T NSortOf⟩
 have NRight:Fn P w K mg base 1 "right_within" ["partners","left"] (spRight K):=⟨fRight,_,mg_of X G aRight,kRight,BRight,qS FRight T⟩
 have NSngl:Fn P w K mg base 2 "single_cost" ["tables","strand","outer","inner"] (spSngl K CT):=⟨fSngl,_,mg_of X G aSngl,kSngl,BSngl,uj FSngl T XCT NSortOf⟩
 have NLoop:Fn P w K mg base 3 "loop_cost" ["tables","strand","partners","left"] (spLoop K CT):=⟨fLoop,_,mg_of X G aLoop,kLoop,BLoop,tL FLoop T XCT NRight NSngl⟩
 have NFold:Fn P w K mg base 4 "fold_cost" ["tables","strand","partners"] (spFold K CT):=⟨fFold,_,mg_of X G aFold,kFold,BFold,tO FFold T NLoop⟩
 have NPlace:Fn P w K mg base 1 "place_values" ["size"] spPlace:=⟨fPlace,_,mg_of X G aPlace,kPlace,BPlace,qQ FPlace T⟩
 have NFirst:Fn P w K mg base 6 "first_best" ["numbers","strand"] (spFirst K):=⟨fFirst,_,mg_of X G aFirst,kFirst,BFirst,sr FFirst T NPlace NPrcI NTabI NSrI NLeast⟩
 have NLnI:Mc P w K mg base 1 "Line" CL ["self","calls"] (spLnI K CL):=⟨mg_of X G aCL,fLnI,_,⟨mkCL,aLnI,iLnI,kcCL⟩,BLnI,vj FLnI XCL⟩
 have NReadN:Mt P w K mg base 1 CL "read_number" ["self"] (spReadN K CL):=⟨XCL.cl,fReadN,_,⟨aReadN,iReadN,kReadN⟩,BReadN,sZ FReadN XCL⟩
 have NReadR:Mt P w K mg base 2 CL "read_row" ["self"] (spReadR K CL):=⟨XCL.cl,fReadR,_,⟨aReadR,iReadR,kReadR⟩,BReadR,qC FReadR XCL NReadN⟩
 have NACosts:Fn P w K mg base 3 "answer_costs" ["line"] (spACosts K CL):=⟨fACosts,_,mg_of X G aACosts,kACosts,BACosts,pC FACosts XCL NReadR NAreTables⟩
 have NACost:Fn P w K mg base 5 "answer_cost" ["line"] (spACost K CL):=⟨fACost,_,mg_of X G aACost,kACost,BACost,qK FACost XCL NReadR NIsStrand NParts NTabI NFold⟩
 have NABest:Fn P w K mg base 7 "answer_best" ["line"] (spABest K CL):=⟨fABest,_,mg_of X G aABest,kABest,BABest,qT FABest XCL NReadR NIsStrand NFirst⟩
 have NACount:Fn P w K mg base 8 "answer_count" ["line"] (spACount K CL):=⟨fACount,_,mg_of X G aACount,kACount,BACount,pQ FACount XCL NReadR NIsStrand NCount⟩
 have NAPair:Fn P w K mg base 8 "answer_pair" ["line"] (spAPair K CL):=⟨fAPair,_,mg_of X G aAPair,kAPair,BAPair,rp FAPair T XCL NReadN NReadR NIsStrand NPairC⟩
 have NCall:Fn P w K mg base 9 "answer_call" ["line"] (spCall K CL):=⟨fCall,_,mg_of X G aCall,kCall,BCall,um FCall T XCL NReadN NACosts NACost NABest NACount NAPair⟩
 exact uZ FAns T XCL NLnI NCall
end Pg
end
section
inductive PySem.W.Fast
|tw1674577758709484985|tw6661969753739983928|tw10291122935631021086|tw14155949356437732245|tw8873949307757215155|tw13840602505381322255|tw16193389874015040507|tw4934440498687516909|tw5441935930050562138|tw10891845092365239821|tw17787913436848486492|tw8508025030598302599|tw6980456464740869543|tw17572455583145244136|tw11515324494119155328|tw9105712707105688157|tw18323093947027680774|tw11078924632612319774|tw10736636426308607689|tw10585286959947110768|tw2364593391669543249|tw5900994593134554929|tw16867776882250480545|tw1640373416042721389|tw4977754188629136384|tw15653150833279455796|tw12896558318834936895|tw8535800902875310714|tw11812042571701273235|tw4500076401025583773|tw16665958354183323474|tw10409517633624774340|tw5572780177446157257|tw11116415465632358885|tw15423833172226265018|tw7991207345729604648|tw6880265859779778382|tw8874764996621358441|tw4552806285365456075|tw11833971358734377325|tw8015582058467983300|tw17623656340212108013|tw4220149222418661031|tw13187478451524673167|tw16636586027439127750|tw4122604231046186099|tw14616056471016666260|tw6250894372550545059|tw15558749075776998780|tw7069487356973092699|tw787569361386563603|tw5574963262795441551|tw13456797055306875829|tw14491739549871246211|tw4175670133155248159|tw15107722938561652833|tw172792281919311541|tw7909993739573600443|tw16508381888600030874|tw15471906542690125300|tw2596583852939134592|tw14319721544048674150|tw16925149744965016980|tw14581610236465863655|tw13826863097820991618|tw17484462584355969978|tw12889849446705525105|tw1579268829163236139|tw3640719317359616504|tw8164991893721128290|tw1821920963887366120|tw231946086009810534|tw3874325061254100992|tw9703092468487723815|tw161208504347378154|tw13331770309963547049|tw15335998056796847333|tw4469828828635913691|tw3994731350235539595|tw9905285087620737580|tw11275134384064810427|tw13922415280424952539|tw4774836915140168575|tw14498764822427844090|tw5160610671367770459|tw17848139675696585250|tw15684275659635345002|tw7054041631611658574|tw5418552600483257332|tw2081967772405793268|tw14161183384245629973|tw15797917601811948697|tw7599493424051715938|tw6467171220647364308|tw8080561276280516232|tw8742401779250659724|tw8139096000603712103|tw10702871250415189564|tw6863322819073461562|tw12315838161288570848|tw10008674513849537445|tw6591927108940369084|tw4825688097533759613|tw13177650413497058693|tw5969706109304745393|tw2259743666559080769|tw602858448396906581|tw2072890887506300781|tw18088556078478453311|tw3785892315899689850|tw5882490573389748241|tw8552470118069592729|tw11892117799868880235|tw4610145756838030224|tw13359048778451625848|tw1972075283847933277|tw3271961308957283721|tw4029685961916524201|tw13677476547703651362|tw16441848235037955865|tw3435462250274988478|tw6254586388515117928|tw9504416963936810691|tw4669036591714212204|tw183209940335085984|tw16779261338583903012|tw1165153386913783845|tw1264539181979979386|tw11762703091786017850|tw1291916407899919354|tw3505268494974625548|tw347813933941390783|tw6797557451013018512|tw17324073582887022299|tw90340104897438082|tw17497130407333775972|tw9672331029841864240|tw3842498641939010201|tw5947458734283003249|tw10595689648913596149|tw16541455703779631104|tw5046838964063096896|tw4074451174174961783|tw5557591368578662548|tw8116603365174609027|tw11110532713977093467|tw7939855436138519296|tw13093686097191017708|tw13406208261889124905|tw10052197325903008952|tw4819568654890125952|tw6265744886467234007|tw7883379780838187382|tw8720631275765461625|tw15143843102979353120|tw6652268646313248607|tw1464367711173727202|tw1714240686881301673|tw6862534327908202512|tw11053237178317215711|tw18254535522185497968|tw217952067874372852|tw5279352888045484980|tw6480642317823946822|tw11792886736299119517|tw16177373450654333918|tw16036137811595768723
open PySem PySem.W PyProof.Rows
set_option maxRecDepth 100000 in
set_option maxHeartbeats 0 in
theorem PySem.Challenge.cw_foldedstrand_s01_answers_holds : PySem.Challenge.rw_foldedstrand_s01_answers.Holds := by
 w_on;k_headS;(case hw=>exact⟨[.list ((.int 1)::(.int 132)::List.replicate 132 (.int 0))],by decide+kernel,by decide+kernel⟩)
 k_fillS
 refine L2.mK (r:=PySem.Challenge.rw_foldedstrand_s01_answers) (k:=10) (CX:=L2.CX0) (ps:=["calls"]) (sp:=Pg.spAns) (by decide+kernel) rfl rfl ⟨rfl,by decide,by decide⟩ (fun w h Y=>PySem.W.kIn_of Y) ?F ?S (fun _ _ _ _ z=>z)
 case F=>
  intro w mg fa h Y KX G hmg
  refine' Pg.all_mk KX G hmg ?nLONGEST ?nNEAREST ?nFAR ?nLARGEST ?nMODULUS ?nOPENED ?nCLOSED ?nDOT ?nCOSTS ?nCOST ?nBEST ?nCOUNT ?blen ?ball ?bsum ?bmin ?brange ?bzip ?benumerate ?aSo ?lSo ?lq1 ?lq2 ?lq3 ?lq4 ?lq5 ?lq6 ?sSy ?aLe ?lLe ?aSg ?lSg ?aCA ?aCR ?aCW ?aCT ?aCP ?aCS ?aCL ?aSortOf ?lSortOf ?cSortOf ?kSortOf ?aMerged ?lMerged ?cMerged ?kMerged ?aOffered ?lOffered ?cOffered ?kOffered ?aIsStrand ?lIsStrand ?cIsStrand ?kIsStrand ?aAreTables ?lAreTables ?cAreTables ?kAreTables ?aStretched ?lStretched ?cStretched ?kStretched ?aWgt ?lWgt ?cWgt ?kWgt ?aAll ?lAll ?cAll ?kAll ?aBestF ?lBestF ?cBestF ?kBestF ?aCount ?lCount ?cCount ?kCount ?aPairC ?lPairC ?cPairC ?kPairC ?aParts ?lParts ?cParts ?kParts ?aFold ?lFold ?cFold ?kFold ?aLoop ?lLoop ?cLoop ?kLoop ?aRight ?lRight ?cRight ?kRight ?aSngl ?lSngl ?cSngl ?kSngl ?aPlace ?lPlace ?cPlace ?kPlace ?aFirst ?lFirst ?cFirst ?kFirst ?aCall ?lCall ?cCall ?kCall ?aACosts ?lACosts ?cACosts ?kACosts ?aACost ?lACost ?cACost ?kACost ?aABest ?lABest ?cABest ?kABest ?aACount ?lACount ?cACount ?kACount ?aAPair ?lAPair ?cAPair ?kAPair ?aAns ?lAns ?cAns ?kAns ?aArcsI ?iArcsI ?lArcsI ?cArcsI ?kArcsI ?aArcsP ?iArcsP ?lArcsP ?cArcsP ?kArcsP ?aRowI ?iRowI ?lRowI ?cRowI ?kRowI ?aWinI ?iWinI ?lWinI ?cWinI ?kWinI ?aWiden ?iWiden ?lWiden ?cWiden ?kWiden ?aTabI ?iTabI ?lTabI ?cTabI ?kTabI ?aPrcI ?iPrcI ?lPrcI ?cPrcI ?kPrcI ?aSrI ?iSrI ?lSrI ?cSrI ?kSrI ?aLeast ?iLeast ?lLeast ?cLeast ?kLeast ?aRelease ?iRelease ?lRelease ?cRelease ?kRelease ?aFillP ?iFillP ?lFillP ?cFillP ?kFillP ?aNear ?iNear ?lNear ?cNear ?kNear ?aSingle ?iSingle ?lSingle ?cSingle ?kSingle ?aKeep ?iKeep ?lKeep ?cKeep ?kKeep ?aFillM ?iFillM ?lFillM ?cFillM ?kFillM ?aLast ?iLast ?lLast ?cLast ?kLast ?aFillR ?iFillR ?lFillR ?cFillR ?kFillR ?aLnI ?iLnI ?lLnI ?cLnI ?kLnI ?aReadN ?iReadN ?lReadN ?cReadN ?kReadN ?aReadR ?iReadR ?lReadR ?cReadR ?kReadR ?pgCA ?hdCA ?poCA ?saCA ?mkCA ?kcCA ?xCA0 ?xCA1 ?xCA2 ?pgCR ?hdCR ?poCR ?saCR ?mkCR ?kcCR ?xCR0 ?xCR1 ?xCR2 ?xCR3 ?xCR4 ?xCR5 ?xCR6 ?pgCW ?hdCW ?poCW ?saCW ?mkCW ?kcCW ?xCW0 ?xCW1 ?pgCT ?hdCT ?poCT ?saCT ?mkCT ?kcCT ?xCT0 ?xCT1 ?xCT2 ?xCT3 ?xCT4 ?xCT5 ?xCT6 ?pgCP ?hdCP ?poCP ?saCP ?mkCP ?kcCP ?xCP0 ?xCP1 ?xCP2 ?xCP3 ?xCP4 ?xCP5 ?xCP6 ?pgCS ?hdCS ?poCS ?saCS ?mkCS ?kcCS ?xCS0 ?xCS1 ?xCS2 ?xCS3 ?xCS4 ?xCS5 ?xCS6 ?pgCL ?hdCL ?poCL ?saCL ?mkCL ?kcCL ?xCL0 ?xCL1 ?xCL2
  case nLONGEST |nNEAREST |nFAR |nLARGEST |nMODULUS |nOPENED |nCLOSED |nDOT |nCOSTS |nCOST |nBEST |nCOUNT |blen |ball |bsum |bmin |brange |bzip |benumerate |aSo |lSo |lq1 |lq2 |lq3 |lq4 |lq5 |lq6 |aLe |lLe |aSg |lSg |aCA |aCR |aCW |aCT |aCP |aCS |aCL |aSortOf |lSortOf |cSortOf |kSortOf |aMerged |lMerged |cMerged |kMerged |aOffered |lOffered |cOffered |kOffered |aIsStrand |lIsStrand |cIsStrand |kIsStrand |aAreTables |lAreTables |cAreTables |kAreTables |aStretched |lStretched |cStretched |kStretched |aWgt |lWgt |cWgt |kWgt |aAll |lAll |cAll |kAll |aBestF |lBestF |cBestF |kBestF |aCount |lCount |cCount |kCount |aPairC |lPairC |cPairC |kPairC |aParts |lParts |cParts |kParts |aFold |lFold |cFold |kFold |aLoop |lLoop |cLoop |kLoop |aRight |lRight |cRight |kRight |aSngl |lSngl |cSngl |kSngl |aPlace |lPlace |cPlace |kPlace |aFirst |lFirst |cFirst |kFirst |aCall |lCall |cCall |kCall |aACosts |lACosts |cACosts |kACosts |aACost |lACost |cACost |kACost |aABest |lABest |cABest |kABest |aACount |lACount |cACount |kACount |aAPair |lAPair |cAPair |kAPair |aAns |lAns |cAns |kAns |aArcsI |iArcsI |lArcsI |cArcsI |kArcsI |aArcsP |iArcsP |lArcsP |cArcsP |kArcsP |aRowI |iRowI |lRowI |cRowI |kRowI |aWinI |iWinI |lWinI |cWinI |kWinI |aWiden |iWiden |lWiden |cWiden |kWiden |aTabI |iTabI |lTabI |cTabI |kTabI |aPrcI |iPrcI |lPrcI |cPrcI |kPrcI |aSrI |iSrI |lSrI |cSrI |kSrI |aLeast |iLeast |lLeast |cLeast |kLeast |aRelease |iRelease |lRelease |cRelease |kRelease |aFillP |iFillP |lFillP |cFillP |kFillP |aNear |iNear |lNear |cNear |kNear |aSingle |iSingle |lSingle |cSingle |kSingle |aKeep |iKeep |lKeep |cKeep |kKeep |aFillM |iFillM |lFillM |cFillM |kFillM |aLast |iLast |lLast |cLast |kLast |aFillR |iFillR |lFillR |cFillR |kFillR |aLnI |iLnI |lLnI |cLnI |kLnI |aReadN |iReadN |lReadN |cReadN |kReadN |aReadR |iReadR |lReadR |cReadR |kReadR |pgCA |hdCA |poCA |saCA |mkCA |kcCA |xCA0 |xCA1 |xCA2 |pgCR |hdCR |poCR |saCR |mkCR |kcCR |xCR0 |xCR1 |xCR2 |xCR3 |xCR4 |xCR5 |xCR6 |pgCW |hdCW |poCW |saCW |mkCW |kcCW |xCW0 |xCW1 |pgCT |hdCT |poCT |saCT |mkCT |kcCT |xCT0 |xCT1 |xCT2 |xCT3 |xCT4 |xCT5 |xCT6 |pgCP |hdCP |poCP |saCP |mkCP |kcCP |xCP0 |xCP1 |xCP2 |xCP3 |xCP4 |xCP5 |xCP6 |pgCS |hdCS |poCS |saCS |mkCS |kcCS |xCS0 |xCS1 |xCS2 |xCS3 |xCS4 |xCS5 |xCS6 |pgCL |hdCL |poCL |saCL |mkCL |kcCL |xCL0 |xCL1 |xCL2=>k_is
  case sSy=>first |rfl |decide
 case S=>
  intro K H xs a hO hwi hask hx
  cases hx with
  |cons h1 h2=>
   cases h2
   cases h1 with
   |lst hs ha=>
    have e:=L2.oF a.1 _ ha
    subst e
    have q:PyMd22.answers_asked a.1=true:=hask
    obtain⟨cs,c1,c2,c3,c4,c5⟩:=Pg.mT q
    exact⟨_,a.1,cs,a.1.length,rfl,hs,c1,c2,c3,c4,fun H' p _ hp=>by rw [c5] at hp;exact .lst (L2.SqL.of hp) (L2.nW _)⟩
end
