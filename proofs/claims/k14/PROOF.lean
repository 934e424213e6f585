import PyProof.Rows.All
import OpenK.KLine
import KE.RegKIsAll
import KE.RegKTryMore
import Lean
import PyProof.EqAt
import PyProof.EqKinds
import PyProof.TupleCall
import KE.KTupSum
import KE.KItem
import PySem.Challenge.RW_cagebells_k14_bells_through_any_day
set_option Elab.async false
set_option linter.all false
set_option maxRecDepth 100000
set_option compiler.extract_closed false
noncomputable abbrev JA:=PySem.W.Frag
theorem JB{α β}{l:List α}(f:α→β):(l.map f).length=l.length:=List.length_map f
section
open PySem PySem.W PyProof.Rows
set_option maxHeartbeats 0 in
open_top hd for PySem.Challenge.rw_cagebells_k14_bells_through_any_day
end
set_option Elab.async false
set_option linter.all false
set_option maxRecDepth 100000
namespace L2
open PySem PySem.Spec PyProof.Rows
noncomputable abbrev Key:=Sum Int Str
noncomputable def sE:Key->Value->Bool
 | .inl k,v=>Value.isInt k v
 | .inr x,v=>Value.isStrOf x v
noncomputable def vT (w:World):Key->Int
 | .inl k=>hashInt k
 | .inr x=>hashStr w x
theorem bh:∀{k:Key} {v:Value},sE k v=true->(∃i t,k=Sum.inl i/\v=Value.int i t)\/(∃x t,k=Sum.inr x/\v=Value.str x t)
 | .inl i,v,h=>by
  obtain ⟨t,e⟩:=Value.isInt_shape (k:=i) (v:=v) h
  exact .inl ⟨i,t,rfl,e⟩
 | .inr x,v,h=>by
  obtain ⟨t,e⟩:=Value.isStrOf_shape (x:=x) (v:=v) h
  exact .inr ⟨x,t,rfl,e⟩
theorem tJ (a b:Int):decide ((Sum.inl a:Key)=Sum.inl b)=(a == b):=by
 by_cases e:a=b
 ·subst e;simp
 ·have h:¬(Sum.inl a:Key)=Sum.inl b:=fun q=>e (Sum.inl.inj q)
  rw [decide_eq_false h]
  exact (beq_eq_false_iff_ne.mpr e).symm
theorem tK (a b:Str):decide ((Sum.inr a:Key)=Sum.inr b)=decide (a=b):=by
 by_cases e:a=b
 ·subst e;simp
 ·have h:¬(Sum.inr a:Key)=Sum.inr b:=fun q=>e (Sum.inr.inj q)
  rw [decide_eq_false h,decide_eq_false e]
theorem tL (a:Int)(b:Str):decide ((Sum.inl a:Key)=Sum.inr b)=false:=decide_eq_false (fun q=>nomatch q)
theorem tM (a:Str)(b:Int):decide ((Sum.inr a:Key)=Sum.inl b)=false:=decide_eq_false (fun q=>nomatch q)
noncomputable def mL (prog:Program)(w:World):PySem.KeyKind prog w Key where
 is:=sE
 hash:=vT w
 inj:=fun v a b ha hb=>by
  rcases bh ha with ⟨i,t,rfl,rfl⟩ | ⟨x,t,rfl,rfl⟩
  ·rcases bh hb with ⟨j,u,rfl,e⟩ | ⟨y,u,rfl,e⟩
   ·injection e with e1 _;rw [e1]
   ·exact nomatch e
  ·rcases bh hb with ⟨j,u,rfl,e⟩ | ⟨y,u,rfl,e⟩
   ·exact nomatch e
   ·injection e with e1 _;rw [e1]
 byValue:=fun k v h=>by
  rcases bh h with ⟨i,t,rfl,rfl⟩ | ⟨x,t,rfl,rfl⟩<;>rfl
 pyHash:=fun hv h=>by
  rcases bh hv with ⟨i,t,rfl,rfl⟩ | ⟨x,t,rfl,rfl⟩
  ·exact wpAny_pyHash_int h
  ·exact wpAny_pyHash_str h
 eqBool:=fun hu hv h=>by
  rcases bh hu with ⟨i,t,rfl,rfl⟩ | ⟨x,t,rfl,rfl⟩
  ·rcases bh hv with ⟨j,u,rfl,rfl⟩ | ⟨y,u,rfl,rfl⟩
   ·rw [tJ] at h;exact wpAny_eqBool_int h
   ·rw [tL] at h;exact SeqAt.EqAt.int_str i t y u _ _ _ _ h
  ·rcases bh hv with ⟨j,u,rfl,rfl⟩ | ⟨y,u,rfl,rfl⟩
   ·rw [tM] at h;exact SeqAt.EqAt.str_int x t j u _ _ _ _ h
   ·rw [tK] at h;exact wpAny_eqBool_str h
 «strs»:=fun k x t v h=>by
  rcases bh h with ⟨i,u,rfl,e⟩ | ⟨y,u,rfl,e⟩
  ·exact nomatch e
  ·injection e with e1 _
   subst e1
   cases v<;>rfl
inductive V where
 | non | bl (b:Bool) | int (i:Int) | str (x:Str) | byt (b:Array UInt8) | flt (b:UInt64) | ref (a:Addr) | ty (n:String)
 deriving DecidableEq
noncomputable def aY:V->Value->Prop
 | .non,u=>u=Value.none
 | .bl b,u=>u=Value.bool b
 | .int i,u=>∃t,u=Value.int i t
 | .str x,u=>∃t,u=Value.str x t
 | .byt b,u=>∃t,u=Value.bytes b t
 | .flt b,u=>∃t,u=Value.float b t
 | .ref a,u=>u=Value.ref a
 | .ty n,u=>u=Value.type n
noncomputable abbrev aM:List V->List Value->Prop:=Paired aY
theorem aM.length {xs:List V}{us:List Value}(r:aM xs us):xs.length=us.length:=Paired.length r
theorem aM.get:∀{xs:List V} {us:List Value} {i:Nat} {x:V},aM xs us->xs[i]?=some x->∃u,us[i]?=some u/\aY x u
 | _,_,_,_,.nil,e=>by simp at e
 | _,_,0,_,.cons r _,e=>by simp at e;subst e;exact ⟨_,rfl,r⟩
 | _,_,i+1,x,.cons _ t,e=>by
  obtain ⟨u,h1,h2⟩:=aM.get (i:=i) (x:=x) t (by simpa using e)
  exact ⟨u,by simpa using h1,h2⟩
theorem aM.set {x:V}{u:Value}(r:aY x u):∀{xs:List V} {us:List Value} (i:Nat),aM xs us->aM (xs.set i x) (us.set i u)
 | _,_,_,.nil=>.nil
 | _,_,0,.cons _ t=>.cons r t
 | _,_,i+1,.cons q t=>.cons q (aM.set r i t)
theorem aM.append:∀{xs ys:List V} {us ws:List Value},aM xs us->aM ys ws->aM (xs++ys) (us++ws)
 | _,_,_,_,.nil,s=>s
 | _,_,_,_,.cons r t,s=>.cons r (aM.append t s)
theorem aM.take:∀{xs:List V} {us:List Value} (n:Nat),aM xs us->aM (xs.take n) (us.take n)
 | _,_,0,_=>.nil
 | _,_,_+1,.nil=>.nil
 | _,_,n+1,.cons r t=>.cons r (aM.take n t)
theorem aM.drop:∀{xs:List V} {us:List Value} (n:Nat),aM xs us->aM (xs.drop n) (us.drop n)
 | _,_,0,r=>r
 | _,_,_+1,.nil=>.nil
 | _,_,n+1,.cons _ t=>aM.drop n t
noncomputable def jC:Option V->Option Value->Prop
 | some v,some u=>aY v u
 | none,none=>True
 | _,_=>False
noncomputable def KV {κ:Type}:List (κ×V)->List (κ×Value)->Prop:=Paired fun (p:κ×V) (q:κ×Value)=>p.1=q.1/\aY p.2 q.2
noncomputable def kV:Key->V
 | .inl i=>.int i
 | .inr x=>.str x
inductive HO where
 | lst (xs:List V)
 | tup (xs:List V)
 | dK (kvs:List (Key×V)) | dT (kvs:List (List Key×V))
 | set (S:Int->Bool) (n:Nat)
 | ins (C dx:Addr) (fs:List (Str×V))
 | own (x:Addr)
 | xd (fs:List (Str×V))
 | met (f x:Addr)
 | rng (lo hi:Int)
 | frz (o:Obj) (u:HO)
 | tbl (ps:Array Value)
 | ext (φ:Heap->Prop)
noncomputable abbrev Hp:=Addr->Option HO
noncomputable def upd (H:Hp)(a:Addr)(o:HO):Hp:=fun b=>if b=a then some o else H b
theorem ae {H:Hp}{a:Addr}{o:HO}:upd H a o a=some o:=by unfold upd;rw [if_pos rfl]
theorem aj {H:Hp}{a b:Addr}{o:HO}(h:b≠a):upd H a o b=H b:=by unfold upd;rw [if_neg h]
theorem ah {H:Hp}{a b:Addr}{o:HO}(h:H a=some o)(h':H b=none):a≠b:=by
 intro e;subst e;rw [h] at h';cases h'
def iQ (h:Heap)(a:Addr)(items:Array Value):Prop:=∃o,h.get? a=some o/\(o.cls=.type "tuple"/\∃n,o.data=.seq items n)/\o.dict=none
theorem iQ.tup {h:Heap}{a:Addr}{items:Array Value}(x:iQ h a items):IsTup h a items:=let ⟨o,e,c,_⟩:=x;⟨o,e,c⟩
theorem iQ.lt {h:Heap}{a:Addr}{items:Array Value}(x:iQ h a items):a < h.objs.size:=let ⟨_,e,_⟩:=x;Heap.lt_size e
section
variable (P:Program)(w:World)
noncomputable def cw (H:Hp)(h:Heap)(a:Addr):HO->Prop
 | .lst xs=>xs.length<=sizeLine/\∃(its:List Value) (n:Nat),aM xs its/\h.get? a=some {cls:=.type "list",data:=.seq its.toArray n}
 | .tup xs=>xs.length<=sizeLine/\∃its:List Value,aM xs its/\iQ h a its.toArray
 | .dK kvs=>kvs.length<=sizeLine/\(a == sysModules)=false/\∃vs,KV kvs vs/\h.DictOf (mL P w) a vs
 | .dT kvs=>kvs.length<=sizeLine/\(a == sysModules)=false/\∃xs:List (List Key×Addr×Value),
   Paired (fun (p:List Key×V) (q:List Key×Addr×Value)=>p.1=q.1/\H q.2.1=some (.tup (p.1.map kV))/\aY p.2 q.2.2) kvs xs/\
   ∃o es ep,h.get? a=some o/\o.ExactDict/\o.data=.dict es ep/\es.toList=xs.map (entryOfKey (tupleKind (mL P w)))/\(xs.map (·.1)).Nodup
 | .set S n=>h.SetOf (intKind P w) a S n
 | .ins C dx fs=>H dx=some (.own a)/\fs.length<=1000/\dx≠a/\h.get? a=some (W.instObj C dx)/\
   ∃mA,h.Ns1 dx mA/\(∀f,jC (fs.lookup f) (mA f))/\PySem.Within mA (fs.map (·.1))
 | .own _=>∃o,h.get? a=some o
 | .xd fs=>∃mA,h.Ns1 a mA/\∀f,jC (fs.lookup f) (mA f)
 | .rng lo hi=>∃t u v,h.get? a=some {cls:=.type "range",data:=.fields #[.int lo t,.int hi u,.int 1 v]}
 | .frz o u=>h.get? a=some o/\cw H h a u
 | .tbl ps=>h.get? a=some {cls:=.none,data:=.fields ps}
 | .met f x=>h.get? a=some (W.methodObj (.ref f) (.ref x))
 | .ext φ=>φ h/\(∃o,h.get? a=some o)/\∀h1 h2:Heap,φ h1->(∀o,h1.get? a=some o->h2.get? a=some o)->φ h2
def HOk (H:Hp)(h:Heap):Prop:=∀a o,H a=some o->cw P w H h a o
end
section
variable {P:Program}{w:World}{H H':Hp}{h h':Heap}{a:Addr}{o:HO}
theorem cw.lt (x:cw P w H h a o):a < h.objs.size:=by
 cases o with
 | lst xs=>obtain ⟨_,_,_,_,e⟩:=x;exact Heap.lt_size e
 | tup xs=>obtain ⟨_,_,_,p⟩:=x;exact p.lt
 | dK kvs=>obtain ⟨_,_,_,_,o,_,_,e,_⟩:=x;exact Heap.lt_size e
 | dT kvs=>obtain ⟨_,_,_,_,o,_,_,e,_⟩:=x;exact Heap.lt_size e
 | set S n=>obtain ⟨o,_,_,_,e,_⟩:=x;exact Heap.lt_size e
 | ins C dx fs=>obtain ⟨_,_,_,e,_⟩:=x;exact Heap.lt_size e
 | own y=>obtain ⟨_,e⟩:=x;exact Heap.lt_size e
 | xd fs=>obtain ⟨_,⟨_,_,_,e,_⟩,_⟩:=x;exact Heap.lt_size e
 | rng lo hi=>obtain ⟨_,_,_,e⟩:=x;exact Heap.lt_size e
 | frz ob u=>obtain ⟨e,_⟩:=x;exact Heap.lt_size e
 | tbl ps=>exact Heap.lt_size (show h.get? a=some _ from x)
 | met f y=>exact Heap.lt_size (show h.get? a=some _ from x)
 | ext φ=>obtain ⟨_,⟨_,e⟩,_⟩:=x;exact Heap.lt_size e
theorem Paired.mapP {α β:Type}{F G:α->β->Prop}:∀{l₁:List α} {l₂:List β},Paired F l₁ l₂->(∀a b,F a b->G a b)->Paired G l₁ l₂
 | _,_,.nil,_=>.nil
 | _,_,.cons r t,f=>.cons (f _ _ r) (Paired.mapP t f)
theorem cw.stay (x:cw P w H h a o)(k:∀b u,(b=a\/H b=some (.own a))->h.get? b=some u->h'.get? b=some u)
  (ho:∀b,H b=some (.own a)->H' b=some (.own a)) (ht:∀b xs,H b=some (.tup xs)->H' b=some (.tup xs)):cw P w H' h' a o:=by
 induction o with
 | lst xs=>obtain ⟨z,its,n,r,e⟩:=x;exact ⟨z,its,n,r,k _ _ (.inl rfl) e⟩
 | tup xs=>obtain ⟨z,its,r,ob,e,c⟩:=x;exact ⟨z,its,r,ob,k _ _ (.inl rfl) e,c⟩
 | dK kvs=>obtain ⟨z,y,vs,r,ob,es,ep,e,c⟩:=x;exact ⟨z,y,vs,r,ob,es,ep,k _ _ (.inl rfl) e,c⟩
 | dT kvs=>
  obtain ⟨z,y,xs,r,ob,es,ep,e,c⟩:=x
  exact ⟨z,y,xs,Paired.mapP r fun p q z=>⟨z.1,ht _ _ z.2.1,z.2.2⟩,ob,es,ep,k _ _ (.inl rfl) e,c⟩
 | set S n=>obtain ⟨ob,es,ep,t,e,c⟩:=x;exact ⟨ob,es,ep,t,k _ _ (.inl rfl) e,c⟩
 | ins C dx fs=>
  obtain ⟨d,z,ne,e,mA,⟨od,es,ep,e2,c⟩,r⟩:=x
  exact ⟨ho _ d,z,ne,k _ _ (.inl rfl) e,mA,⟨od,es,ep,k _ _ (.inr d) e2,c⟩,r⟩
 | own y=>obtain ⟨ob,e⟩:=x;exact ⟨ob,k _ _ (.inl rfl) e⟩
 | xd fs=>obtain ⟨mA,⟨od,es,ep,e,c⟩,r⟩:=x;exact ⟨mA,⟨od,es,ep,k _ _ (.inl rfl) e,c⟩,r⟩
 | rng lo hi=>obtain ⟨t,u,v,e⟩:=x;exact ⟨t,u,v,k _ _ (.inl rfl) e⟩
 | frz ob u ih=>obtain ⟨e,q⟩:=x;exact ⟨k _ _ (.inl rfl) e,ih q⟩
 | tbl ps=>
  have e:h.get? a=some {cls:=.none,data:=.fields ps}:=x
  show h'.get? a=some {cls:=.none,data:=.fields ps}
  exact k a _ (.inl rfl) e
 | met f y=>
  have e:h.get? a=some (W.methodObj (.ref f) (.ref y)):=x
  show h'.get? a=some (W.methodObj (.ref f) (.ref y))
  exact k a _ (.inl rfl) e
 | ext φ=>obtain ⟨p,⟨o,e⟩,st⟩:=x;exact ⟨st _ _ p fun o q=>k _ _ (.inl rfl) q,⟨o,k _ _ (.inl rfl) e⟩,st⟩
theorem HOk.lt (x:HOk P w H h)(e:H a=some o):a < h.objs.size:=(x a o e).lt
theorem HOk.fresh (x:HOk P w H h)(e:h.objs.size<=a):H a=none:=by
 cases q:H a with
 | none=>rfl
 | some u=>exact absurd (Nat.lt_of_lt_of_le (x.lt q) e) (Nat.lt_irrefl _)
theorem HOk.kept (x:HOk P w H h)(k:∀b u,h.get? b=some u->h'.get? b=some u):HOk P w H h':=fun a o e=>
 (x a o e).stay (fun b u _ q=>k b u q) (fun _ q=>q) fun _ _ q=>q
theorem HOk.laid (x:HOk P w H h)(k:∀b u,h.get? b=some u->h'.get? b=some u)(hp:h.objs.size<=a)(new:cw P w (upd H a o) h' a o):HOk P w (upd H a o) h':=fun b u e=>by
 have hn:=x.fresh hp
 by_cases hb:b=a
 ·subst hb;rw [ae] at e;cases e;exact new
 ·rw [aj hb] at e
  exact (x b u e).stay (fun c v _ q=>k c v q) (fun c q=>by rw [aj (ah q hn)];exact q) fun c xs q=>by rw [aj (ah q hn)];exact q
end
def Rd (H:Hp)(a:Addr)(u:HO):Prop:=H a=some u\/∃o,H a=some (.frz o u)
theorem Rd.ok {P:Program}{w:World}{H:Hp}{h:Heap}{a:Addr}{u:HO}(r:Rd H a u)(x:HOk P w H h):cw P w H h a u:=by
 rcases r with r | ⟨o,r⟩
 ·exact x a u r
 ·obtain ⟨_,q⟩:=x a _ r
  exact q
noncomputable def Mut:Option HO->Prop
 | some (.lst _)=>True
 | some (.dK _)=>True
 | some (.dT _)=>True
 | some (.set _ _)=>True
 | some (.ins _ _ _)=>True
 | some (.ext _)=>True
 | _=>False
section
variable {P:Program}{w:World}{H:Hp}{h h':Heap}{x e:Addr}{o':HO}
theorem HOk.write (ok:HOk P w H h)(mu:Mut (H x))(he:e=x\/H e=some (.own x))(k:∀b u,b≠e->h.get? b=some u->h'.get? b=some u)(heo:∃u,h'.get? e=some u)
  (new:cw P w (upd H x o') h' x o'):HOk P w (upd H x o') h':=fun b u q=>by
 have nown:∀c y,H c=some (.own y)->c≠x:=fun c y r z=>by subst z;rw [r] at mu;exact mu
 have ntup:∀c xs,H c=some (.tup xs)->c≠x:=fun c xs r z=>by subst z;rw [r] at mu;exact mu
 by_cases hb:b=x
 ·subst hb;rw [ae] at q;cases q;exact new
 ·rw [aj hb] at q
  by_cases hbe:b=e
  ·have q':H b=some (.own x):=by
    rcases he with z | z
    ·exact absurd (hbe.trans z) hb
    ·rw [hbe];exact z
   rw [q] at q';cases q'
   obtain ⟨v,hv⟩:=heo
   exact ⟨v,by rw [hbe];exact hv⟩
  ·refine (ok b u q).stay (fun c v hc r=>k c v ?_ r) (fun c r=>by rw [aj (nown c b r)];exact r) fun c xs r=>by rw [aj (ntup c xs r)];exact r
   rcases hc with rfl | hc
   ·exact hbe
   ·rintro rfl
    rcases he with z | z
    ·exact nown c b hc z
    ·rw [hc] at z;cases z;exact hb rfl
end
structure Un (fs ex:List Addr)(H H':Hp)(h h':Heap):Prop where
 keep:∀b o,h.get? b=some o->H b=none->b∉fs->b∉ex->h'.get? b=some o
 slot:∀b o,h.get? b=some o->H b=none->b∈fs->b∉ex->∃sl,h'.get? b=some {o with slots:=sl}
 free:∀b o,h.get? b=some o->H b=none->b∉ex->H' b=none
 there:∀b o,h.get? b=some o->b∉ex->∃o',h'.get? b=some o'
 tups:∀b xs,H b=some (.tup xs)->H' b=some (.tup xs)
 frzs:∀b o u,H b=some (.frz o u)->H' b=some (.frz o u)
 tbls:∀b ps,H b=some (.tbl ps)->∃more,H' b=some (.tbl (ps++more))
section
variable {fs fs' ex ex':List Addr}{H H1 H2:Hp}{h h1 h2 h':Heap}{a x e:Addr}{o:HO}
theorem Un.any (u:Un fs ex H H1 h h1){b:Addr}{ob:Obj}(q:h.get? b=some ob)(n:H b=none)(hx:b∉ex):∃sl,h1.get? b=some {ob with slots:=sl}:=by
 by_cases hb:b∈fs
 ·exact u.slot b ob q n hb hx
 ·exact ⟨ob.slots,u.keep b ob q n hb hx⟩
theorem Un.kept (k:∀b u,h.get? b=some u->h'.get? b=some u):Un fs ex H H h h':=
 ⟨fun b ob q _ _ _=>k b ob q,fun b ob q _ _ _=>⟨ob.slots,k b ob q⟩,fun _ _ _ n _=>n,fun b ob q _=>⟨ob,k b ob q⟩,fun _ _ q=>q,fun _ _ _ q=>q,fun _ ps q=>⟨#[],by rw [q];simp⟩⟩
theorem Un.refl:Un fs ex H H h h:=Un.kept fun _ _ q=>q
theorem Un.laid (k:∀b u,h.get? b=some u->h'.get? b=some u)(hp:h.objs.size<=a)(hn:H a=none):Un fs ex H (upd H a o) h h' where
 keep:=fun b u q _ _ _=>k b u q
 slot:=fun b u q _ _ _=>⟨u.slots,k b u q⟩
 free:=fun b u q n _=>by rw [aj (Nat.ne_of_lt (Nat.lt_of_lt_of_le (Heap.lt_size q) hp))];exact n
 there:=fun b u q _=>⟨u,k b u q⟩
 tups:=fun b xs q=>by rw [aj (ah q hn)];exact q
 frzs:=fun b u xs q=>by rw [aj (ah q hn)];exact q
 tbls:=fun b ps q=>⟨#[],by rw [aj (ah q hn),q];simp⟩
theorem Un.write (mu:Mut (H x))(he:e=x\/H e=some (.own x))(k:∀b u,b≠e->h.get? b=some u->h'.get? b=some u)(heo:∃u,h'.get? e=some u):Un fs ex H (upd H x o) h h':=by
 have hx:∀b,H b=none->b≠x:=fun b n z=>by subst z;rw [n] at mu;exact mu
 have hb:∀b,H b=none->b≠e:=fun b n z=>by
  subst z
  rcases he with r | r
  ·exact hx b n r
  ·rw [n] at r;cases r
 have hm:∀b u,H b=some u->¬Mut (some u)->b≠x:=fun b u q nm z=>by subst z;rw [q] at mu;exact nm mu
 refine ⟨fun b u q n _ _=>k b u (hb b n) q,fun b u q n _ _=>⟨u.slots,k b u (hb b n) q⟩,fun b u q n _=>by rw [aj (hx b n)];exact n,fun b u q _=>?_,
  fun b xs q=>by rw [aj (hm b _ q fun z=>z)];exact q,fun b u xs q=>by rw [aj (hm b _ q fun z=>z)];exact q,fun b ps q=>⟨#[],by rw [aj (hm b _ q fun z=>z),q];simp⟩⟩
 by_cases hbe:b=e
 ·subst hbe;exact heo
 ·exact ⟨u,k b u hbe q⟩
end
noncomputable def trk (h:Heap)(H:Hp):List Addr:=(List.range h.objs.size).filter fun a=>(H a).isSome
noncomputable def ki (h:Heap)(H:Hp):Heap:=W.hideAll h (trk h H)
theorem nN (h:Heap)(H:Hp):(ki h H).objs.size=h.objs.size:=W.hideAll_size _ _
theorem oM {h:Heap}{H:Hp}{b:Addr}{o:Obj}(e:h.get? b=some o)(n:H b=none):(ki h H).get? b=some o:=
 W.hideAll_get _ e fun hm=>by
  have q:(H b).isSome=true:=(List.mem_filter.mp hm).2
  rw [n] at q;simp at q
theorem qC {h:Heap}{H:Hp}{b:Addr}{o:Obj}(e:(ki h H).get? b=some o):h.get? b=some o/\H b=none:=by
 have e':h.get? b=some o:=W.of_hideAll (trk h H) e
 refine ⟨e',?_⟩
 cases q:H b with
 | none=>rfl
 | some x=>
  have hm:b∈trk h H:=List.mem_filter.mpr ⟨List.mem_range.mpr (Heap.lt_size e'),by simp [q]⟩
  have z:(ki h H).get? b=none:=W.hideAll_none (trk h H) hm
  rw [z] at e;cases e
noncomputable def qD (g h:Heap)(L:Addr):List (Addr×Obj):=(List.range h.objs.size).filterMap fun a=>if a=L\/(g.get? a).isSome=true then none else (h.get? a).map fun o=>(a,o)
noncomputable def dP (g h:Heap)(L d:Addr):List (Addr×Obj):=(qD g h L).filter fun p=>decide (p.1≠d)
structure Mod (K:JA)(mg:Str->Option Value)(base:Heap):Prop where
 kin:K.In base
 glob:base.Ns mainGlobals mg
 blt:∃mb,base.Ns builtinsNs mb/\∀x:Str,x≠"__name__"->mb x=bootBuiltins x
 nolimit:base.NoLimit
structure Cx where
 prog:Program
 w:World
 K:JA
 mg:Str->Option Value
 base:Heap
 A:Around
 N:List Str
 s₀:Shared
 H₀:Hp
 env:Env
 outer:List Env
 stack:List Env
 ex:List Addr
 fn:Str->Bool
 calm:Bool
 pn:List (Addr×Obj)
 xe:Value->Shared->Prop
noncomputable def frs (l:List Env):List Addr:=l.filterMap (·.frame)
noncomputable abbrev Cx.fs (X:Cx):List Addr:=frs X.outer
def Vis (sc:Scope)(x:Str):Prop:=sc.names.lookup x=some .local\/sc.names.lookup x=some .cell\/sc.names.lookup x=some .free
def Loc (sc:Scope)(x:Str):Prop:=sc.names.lookup x=some .local\/sc.names.lookup x=some .cell
def vU (env:Env)(h:Heap)(m:Str->Option Value)(x:Str)(u:Value):Prop:=
 (env.kindOf x=some .local/\m x=some u)\/((env.kindOf x=some .cell\/env.kindOf x=some .free)/\∃c,env.cells.lookup x=some c/\h.IsCell c (some u))
structure Cx.Ok (X:Cx):Prop where
 mod:Mod X.K X.mg X.base
 kind:X.env.scope.kind=.function
 glob:X.env.globals=mainGlobals
 blt:X.env.builtins=builtinsNs
 above:X.s₀.heap.objs.size<=X.env.locals
 inj:∀x y c,X.env.cells.lookup x=some c->X.env.cells.lookup y=some c->x=y
 has:∀x,(X.env.kindOf x=some .cell\/X.env.kindOf x=some .free)->∃c,X.env.cells.lookup x=some c
 cab:∀x c,X.fn x=true->X.env.cells.lookup x=some c->X.s₀.heap.objs.size<=c
 hd:X.calm=true->X.A.handled=none
 frames:X.A.frames=some X.stack
 stk:X.stack=X.outer\/(X.stack=X.env::X.outer/\X.env.frame=some X.env.locals)
 exf:∀b∈X.ex,b≠X.env.locals/\∀x c,X.env.cells.lookup x=some c->c≠b
 bs:∀b o,X.base.get? b=some o->X.s₀.heap.get? b=some o/\X.H₀ b=none
 bsz:X.base.objs.size<=X.s₀.heap.objs.size
 noex:∀b o,X.base.get? b=some o->b∉X.ex
 exfs:∀b∈X.ex,b∉X.fs
 funs:X.s₀.heap.FunFrames X.base X.outer
 frf:∀b∈X.fs,X.H₀ b=none
structure Inv (X:Cx)(pins:List (Addr×Obj))(σ:List (Option V))(H:Hp)(s:Shared):Prop where
 ok:X.Ok
 os:s.os=X.s₀.os
 bare:AllBare s.gens
 base:Un X.fs X.ex X.H₀ H X.s₀.heap s.heap
 loc:∃m,s.heap.Ns X.env.locals m/\∀(i:Nat) (x:Str) (v:V),X.N[i]?=some x->σ[i]?=some (some v)->Vis X.env.scope x->∃u,aY v u/\vU X.env s.heap m x u
 cell:∀x c,X.env.cells.lookup x=some c->∃v,s.heap.IsCell c v
 free:H X.env.locals=none
 freeC:∀x c,X.env.cells.lookup x=some c->H c=none
 pin:∀p∈X.pn++pins,s.heap.get? p.1=some p.2/\H p.1=none/\p.1≠X.env.locals/\p.1∉X.fs/\∀v,p.2.data≠.cell v
 hok:HOk X.prog X.w H s.heap
 len:σ.length=X.N.length
section
variable {X:Cx}{pins:List (Addr×Obj)}{σ:List (Option V)}{H H':Hp}{s:Shared}{h':Heap}
theorem Cx.Ok.nofr (ok:X.Ok){b:Addr}{o:Obj}(e:X.base.get? b=some o):b∉X.fs:=fun hb=>by
 have:=(ok.funs.mem hb).1
 rw [e] at this;cases this
theorem Inv.bs (I:Inv X pins σ H s):∀b o,X.base.get? b=some o->s.heap.get? b=some o/\H b=none:=fun b o e=>
 ⟨I.base.keep b o (I.ok.bs b o e).1 (I.ok.bs b o e).2 (I.ok.nofr e) (I.ok.noex b o e),I.base.free b o (I.ok.bs b o e).1 (I.ok.bs b o e).2 (I.ok.noex b o e)⟩
theorem Inv.bk (I:Inv X pins σ H s):∀b o,X.base.get? b=some o->s.heap.get? b=some o:=fun b o e=>(I.bs b o e).1
theorem Inv.mod (I:Inv X pins σ H s):Mod X.K X.mg X.base:=I.ok.mod
theorem Inv.kIn (I:Inv X pins σ H s):X.K.In s.heap:=I.ok.mod.kin.keeps I.bk
theorem Inv.fr (I:Inv X pins σ H s):∃m,Fr X.base X.env.locals s.heap m:=
 let ⟨m,hn,_⟩:=I.loc
 ⟨m,hn,I.bk,Nat.le_trans I.ok.bsz I.ok.above⟩
theorem Inv.lt (I:Inv X pins σ H s):X.env.locals < s.heap.objs.size:=let ⟨_,hn,_⟩:=I.loc;hn.lt
theorem Inv.sz (I:Inv X pins σ H s):X.s₀.heap.objs.size<=s.heap.objs.size:=Nat.le_trans I.ok.above (Nat.le_of_lt I.lt)
theorem Inv.nofs (I:Inv X pins σ H s){a:Addr}(h:s.heap.objs.size<=a):a∉X.fs:=fun hb=>by
 obtain ⟨_,o,ho,_⟩:=I.ok.funs.mem hb
 exact absurd (Nat.lt_of_lt_of_le (Heap.lt_size ho) (Nat.le_trans I.sz h)) (Nat.lt_irrefl _)
theorem Inv.cne (I:Inv X pins σ H s):∀x c,X.env.cells.lookup x=some c->c≠X.env.locals:=fun x c e z=>by
 obtain ⟨v,o,ho,hd⟩:=I.cell x c e
 obtain ⟨m,⟨o',es,ep,ho',hd',_⟩,_⟩:=I.loc
 rw [z,ho'] at ho;cases ho;rw [hd'] at hd;cases hd
theorem Inv.funs (I:Inv X pins σ H s):s.heap.FunFrames X.base X.outer:=by
 have all:∀(l:List Env),(∀b∈frs l,b∈X.fs)->X.s₀.heap.FunFrames X.base l->s.heap.FunFrames X.base l:=by
  intro l
  induction l with
  | nil=>intro _ _;trivial
  | cons env r ih=>
   intro hs hl
   obtain ⟨hk,⟨L,o,hf,hn,ho,hd⟩,hr⟩:=hl
   have hL:L∈X.fs:=hs L (by unfold frs;rw [List.filterMap_cons,hf];exact List.mem_cons_self)
   obtain ⟨sl,e⟩:=I.base.slot L o ho (I.ok.frf L hL) hL fun z=>I.ok.exfs L z hL
   exact ⟨hk,⟨L,_,hf,hn,e,hd⟩,ih (fun b hb=>hs b (by unfold frs;rw [List.filterMap_cons,hf];exact List.mem_cons_of_mem _ hb)) hr⟩
 exact all X.outer (fun _ hb=>hb) I.ok.funs
theorem Inv.stack (I:Inv X pins σ H s):s.heap.FunFrames X.base X.stack:=by
 rcases I.ok.stk with e | ⟨e,hf⟩
 ·rw [e];exact I.funs
 ·rw [e]
  obtain ⟨m,hn,_⟩:=I.loc
  refine .cons (by rw [I.ok.kind];decide) hf hn ?_ I.funs
  exact Heap.get?_none_of_le (Nat.le_trans I.ok.bsz I.ok.above)
theorem Inv.stkSub (I:Inv X pins σ H s):∀b∈frs X.stack,b∈X.env.locals::X.fs:=fun b hb=>by
 rcases I.ok.stk with e | ⟨e,hf⟩
 ·rw [e] at hb;exact List.mem_cons_of_mem _ hb
 ·rw [e] at hb
  unfold frs at hb
  rw [List.filterMap_cons,hf] at hb
  exact hb
theorem Inv.stkFree (I:Inv X pins σ H s):∀b∈frs X.stack,H b=none:=fun b hb=>by
 rcases List.mem_cons.mp (I.stkSub b hb) with e | hb
 ·rw [e];exact I.free
 ·obtain ⟨_,o,ho,_⟩:=I.ok.funs.mem hb
  exact I.base.free b o ho (I.ok.frf b hb) fun z=>I.ok.exfs b z hb
theorem Inv.step {g':Array GenState}{t':Nat}{d':Drawn}{ch:List Addr}(I:Inv X pins σ H s)
  (hch:∀b∈ch,(b∈X.ex\/X.s₀.heap.objs.size<=b)/\b≠X.env.locals/\(∀x c,X.env.cells.lookup x=some c->c≠b)/\∀p∈X.pn++pins,p.1≠b)
  (keep:∀b o,b≠X.env.locals->b∉X.fs->b∉ch->s.heap.get? b=some o->H b=none->h'.get? b=some o)
  (slot:∀b o,b≠X.env.locals->b∈X.fs->b∉ch->s.heap.get? b=some o->H b=none->∃sl,h'.get? b=some {o with slots:=sl}) (free:∀b o,b∉ch->s.heap.get? b=some o->H b=none->H' b=none)
  (there:∀b o,b∉ch->s.heap.get? b=some o->∃o',h'.get? b=some o')
  (tups:∀b xs,H b=some (.tup xs)->H' b=some (.tup xs)) (frzs:∀b o u,H b=some (.frz o u)->H' b=some (.frz o u)) (tbls:∀b ps,H b=some (.tbl ps)->∃more,H' b=some (.tbl (ps++more)))
  (ns:∀m,s.heap.Ns X.env.locals m->h'.Ns X.env.locals m) (hok:HOk X.prog X.w H' h') (hg:AllBare g') :
  Inv X pins σ H' {s with heap:=h',gens:=g',drawn:=d',toks:=t'}:=by
 have neL:∀b o,X.s₀.heap.get? b=some o->b≠X.env.locals:=fun b o e=>Nat.ne_of_lt (Nat.lt_of_lt_of_le (Heap.lt_size e) I.ok.above)
 have neC:∀b o,X.s₀.heap.get? b=some o->b∉X.ex->b∉ch:=fun b o e hx hb=>by
  rcases (hch b hb).1 with z | z
  ·exact hx z
  ·exact absurd (Nat.lt_of_lt_of_le (Heap.lt_size e) z) (Nat.lt_irrefl _)
 have cellK:∀x c,X.env.cells.lookup x=some c->∀v,s.heap.IsCell c v->h'.IsCell c v:=fun x c e v ⟨o,ho,hd⟩=>by
  have nch:c∉ch:=fun z=>(hch c z).2.2.1 x c e rfl
  by_cases hc:c∈X.fs
  ·obtain ⟨sl,q⟩:=slot c o (I.cne x c e) hc nch ho (I.freeC x c e)
   exact ⟨_,q,hd⟩
  ·exact ⟨o,keep c o (I.cne x c e) hc nch ho (I.freeC x c e),hd⟩
 refine ⟨I.ok,I.os,hg,⟨fun b o e n hb hx=>?_,fun b o e n hb hx=>?_,fun b o e n hx=>?_,fun b o e hx=>?_,fun b xs e=>tups b xs (I.base.tups b xs e),fun b o xs e=>frzs b o xs (I.base.frzs b o xs e),fun b ps e=>?_⟩,?_,fun x c e=>?_,?_,fun x c e=>?_,fun p hp=>?_,hok,I.len⟩
 ·exact keep b o (neL b o e) hb (neC b o e hx) (I.base.keep b o e n hb hx) (I.base.free b o e n hx)
 ·obtain ⟨sl,e1⟩:=I.base.slot b o e n hb hx
  obtain ⟨sl',e2⟩:=slot b _ (neL b o e) hb (neC b o e hx) e1 (I.base.free b o e n hx)
  exact ⟨sl',e2⟩
 ·obtain ⟨o',e1⟩:=I.base.there b o e hx
  exact free b o' (neC b o e hx) e1 (I.base.free b o e n hx)
 ·obtain ⟨o',e1⟩:=I.base.there b o e hx
  exact there b o' (neC b o e hx) e1
 ·obtain ⟨m1,e1⟩:=I.base.tbls b ps e
  obtain ⟨m2,e2⟩:=tbls b _ e1
  exact ⟨m1++m2,by rw [e2,Array.append_assoc]⟩
 ·obtain ⟨m,hn,hl⟩:=I.loc
  refine ⟨m,ns m hn,fun i x v e1 e2 e3=>?_⟩
  obtain ⟨u,r,l⟩:=hl i x v e1 e2 e3
  refine ⟨u,r,?_⟩
  rcases l with l | ⟨k,c,e,z⟩
  ·exact .inl l
  ·exact .inr ⟨k,c,e,cellK x c e _ z⟩
 ·obtain ⟨v,z⟩:=I.cell x c e
  exact ⟨v,cellK x c e v z⟩
 ·obtain ⟨m,⟨o,_,_,ho,_⟩,_⟩:=I.loc
  exact free _ o (fun z=>(hch _ z).2.1 rfl) ho I.free
 ·obtain ⟨v,o,ho,hd⟩:=I.cell x c e
  exact free c o (fun z=>(hch c z).2.2.1 x c e rfl) ho (I.freeC x c e)
 ·obtain ⟨e,n,ne,nf,d⟩:=I.pin p hp
  have nch:p.1∉ch:=fun z=>(hch p.1 z).2.2.2 p hp rfl
  exact ⟨keep p.1 p.2 ne nf nch e n,free p.1 p.2 nch e n,ne,nf,d⟩
theorem Inv.un {t':Nat}(I:Inv X pins σ H s)(u:Un X.fs [] H H' s.heap h')(hok:HOk X.prog X.w H' h'):Inv X pins σ H' {s with heap:=h',toks:=t'}:=by
 obtain ⟨m,⟨o,es,ep,ho,r⟩,_⟩:=id I.loc
 obtain ⟨sl,hL⟩:=u.any ho I.free (by simp)
 exact I.step (g':=s.gens) (d':=s.drawn) (ch:=[]) (fun _ z=>nomatch z) (fun b o _ hb _ e n=>u.keep b o e n hb (by simp)) (fun b o _ hb _ e n=>u.slot b o e n hb (by simp)) (fun b o _ e n=>u.free b o e n (by simp)) (fun b o _ e=>u.there b o e (by simp)) u.tups u.frzs u.tbls (fun m' hm=>by
  obtain ⟨o',es',ep',ho',r'⟩:=hm
  rw [ho] at ho';cases ho'
  exact ⟨_,es',ep',hL,r'⟩) hok I.bare
theorem Inv.call {g':Array GenState}{t':Nat}{d':Drawn}{ch:List Addr}(I:Inv X pins σ H s)(u:Un (frs X.stack) ch H H' s.heap h')(hok:HOk X.prog X.w H' h')(hg:AllBare g')
  (hch:∀b∈ch,(b∈X.ex\/X.s₀.heap.objs.size<=b)/\b≠X.env.locals/\(∀x c,X.env.cells.lookup x=some c->c≠b)/\∀p∈X.pn++pins,p.1≠b) :
  Inv X pins σ H' {s with heap:=h',gens:=g',drawn:=d',toks:=t'}:=by
 obtain ⟨m,⟨o,es,ep,ho,r⟩,_⟩:=id I.loc
 obtain ⟨sl,hL⟩:=u.any ho I.free fun z=>(hch _ z).2.1 rfl
 exact I.step (ch:=ch) hch (fun b o hL hb hc e n=>u.keep b o e n (fun z=>(List.mem_cons.mp (I.stkSub b z)).elim hL hb) hc) (fun b o _ _ hc e n=>u.any e n hc) (fun b o hc e n=>u.free b o e n hc) (fun b o hc e=>u.there b o e hc) u.tups u.frzs u.tbls (fun m' hm=>by
  obtain ⟨o',es',ep',ho',r'⟩:=hm
  rw [ho] at ho';cases ho'
  exact ⟨_,es',ep',hL,r'⟩) hok hg
theorem Inv.turned {t':Nat}{it:Addr}(I:Inv X pins σ H s)(k:∀b o,b≠it->s.heap.get? b=some o->h'.get? b=some o)(hn:H it=none)(hL:it≠X.env.locals)
  (h1:it∈X.ex\/X.s₀.heap.objs.size<=it) (h2:∀x c,X.env.cells.lookup x=some c->c≠it) (h3:∀p∈X.pn++pins,p.1≠it):Inv X pins σ H {s with heap:=h',toks:=t'}:=by
 have nit:∀b u,H b=some u->b≠it:=fun b u e z=>by rw [z,hn] at e;cases e
 refine I.step (g':=s.gens) (d':=s.drawn) (ch:=[it]) (fun b hb=>?_) (fun b o _ _ hc e _=>k b o (fun z=>hc (by simp [z])) e) (fun b o _ _ hc e _=>⟨o.slots,k b o (fun z=>hc (by simp [z])) e⟩) (fun _ _ _ _ n=>n)
  (fun b o hc e=>⟨o,k b o (fun z=>hc (by simp [z])) e⟩) (fun _ _ e=>e) (fun _ _ _ e=>e) (fun b ps e=>⟨#[],by rw [e];simp⟩) (fun m hm=>?_) (fun b u e=>?_) I.bare
 ·have e:b=it:=by simpa using hb
  subst e
  exact ⟨h1,hL,h2,h3⟩
 ·obtain ⟨o,es,ep,ho,r⟩:=hm
  exact ⟨o,es,ep,k _ o (Ne.symm hL) ho,r⟩
 ·refine (I.hok b u e).stay (fun c v hc q=>k c v ?_ q) (fun _ q=>q) fun _ _ q=>q
  rcases hc with z | z
  ·rw [z];exact nit b u e
  ·exact nit c _ z
theorem Inv.tok (I:Inv X pins σ H s)(t:Nat):Inv X pins σ H {s with toks:=t}:=I.un (h':=s.heap) (t':=t) Un.refl I.hok
theorem Inv.kept {t':Nat}(I:Inv X pins σ H s)(k:∀b u,s.heap.get? b=some u->h'.get? b=some u):Inv X pins σ H {s with heap:=h',toks:=t'}:=I.un (Un.kept k) (I.hok.kept k)
theorem Inv.laid {a:Addr}{o:HO}{t':Nat}(I:Inv X pins σ H s)(k:∀b u,s.heap.get? b=some u->h'.get? b=some u)(hp:s.heap.objs.size<=a)(new:cw X.prog X.w (upd H a o) h' a o) :
  Inv X pins σ (upd H a o) {s with heap:=h',toks:=t'}:=I.un (Un.laid k hp (I.hok.fresh hp)) (I.hok.laid k hp new)
theorem Inv.write {x e:Addr}{o:HO}{t':Nat}(I:Inv X pins σ H s)(mu:Mut (H x))(he:e=x\/H e=some (.own x))(k:∀b u,b≠e->s.heap.get? b=some u->h'.get? b=some u)(heo:∃u,h'.get? e=some u)
  (new:cw X.prog X.w (upd H x o) h' x o):Inv X pins σ (upd H x o) {s with heap:=h',toks:=t'}:=I.un (Un.write mu he k heo) (I.hok.write mu he k heo new)
theorem Inv.weak {σ':List (Option V)}(I:Inv X pins σ H s)(hl:σ'.length=σ.length)(w:∀(i:Nat) v,σ'[i]?=some (some v)->σ[i]?=some (some v)):Inv X pins σ' H s:=
 ⟨I.ok,I.os,I.bare,I.base,let ⟨m,hn,hl'⟩:=I.loc;⟨m,hn,fun i x v e1 e2 e3=>hl' i x v e1 (w i v e2) e3⟩,I.cell,I.free,I.freeC,I.pin,I.hok,hl.trans I.len⟩
theorem Inv.pins_of {pins':List (Addr×Obj)}(I:Inv X pins σ H s)(h:∀p∈pins',s.heap.get? p.1=some p.2/\H p.1=none/\p.1≠X.env.locals/\p.1∉X.fs/\∀v,p.2.data≠.cell v):Inv X pins' σ H s:=
 ⟨I.ok,I.os,I.bare,I.base,I.loc,I.cell,I.free,I.freeC,fun p hp=>(List.mem_append.mp hp).elim (fun z=>I.pin p (List.mem_append_left _ z)) (h p),I.hok,I.len⟩
theorem iR {N:List Str}(hN:N.Nodup){i j:Nat}{x:Str}(a:N[i]?=some x)(b:N[j]?=some x):i=j:=by
 obtain ⟨h1,e1⟩:=List.getElem?_eq_some_iff.mp a
 obtain ⟨h2,e2⟩:=List.getElem?_eq_some_iff.mp b
 exact (List.getElem_inj hN).mp (e1.trans e2.symm)
theorem jS {M:Model}{A:Around}{E:Value->Shared->Prop}{i:Nat}{x:Str}{v:V}{u:Value}{Q:Unit->Shared->Prop}(I:Inv X pins σ H s)(hN:X.N.Nodup)(hi:X.N[i]?=some x)(hx:Loc X.env.scope x)(r:aY v u)
  (h:∀s',Inv X pins (σ.set i (some v)) H s'->(∃a,Heap.SameBut a s.heap s'.heap/\(a=X.env.locals\/X.env.cells.lookup x=some a))->Q () s') (hf:X.fn x=true\/X.env.scope.names.lookup x=some .local:=by first | exact .inl rfl | exact .inr rfl | assumption):wpAny M A (storeName X.env x u) Q E s:=by
 obtain ⟨m,hn,hl⟩:=id I.loc
 have hcls:(X.env.scope.kind == .class || (X.env.scope.kind == .module && X.env.locals != X.env.globals))=false:=by rw [I.ok.kind];rfl
 have hiσ:i < σ.length:=by rw [I.len];exact (List.getElem?_eq_some_iff.mp hi).1
 have cne:=I.cne
 have tracked:∀{a:Addr} {h':Heap},(∃o,s.heap.get? a=some o/\H a=none)->Heap.SameBut a s.heap h'->HOk X.prog X.w H h':=fun {a h'} ha hs b ob e=>by
  obtain ⟨_,_,hfree⟩:=ha
  refine (I.hok b ob e).stay (fun c w' hc q=>(hs.2 c ?_).trans q) (fun _ q=>q) fun _ _ q=>q
  rintro rfl
  rcases hc with rfl | hc
  ·rw [hfree] at e;cases e
  ·rw [hfree] at hc;cases hc
 rcases hx with hk | hk
 ·refine wpAny_storeName_local hk hn (fun h' hn' hs=>?_) hcls
  obtain ⟨oL,_,_,hoL,_⟩:=id hn
  refine h _ ⟨I.ok,I.os,I.bare,⟨fun b o e n hb hx=>?_,fun b o e n hb hx=>?_,I.base.free,fun b o e hx=>?_,I.base.tups,I.base.frzs,I.base.tbls⟩,⟨_,hn',fun j y v' e1 e2 e3=>?_⟩,fun y c e=>?_,I.free,I.freeC,fun p hp=>?_,tracked ⟨oL,hoL,I.free⟩ hs,by simpa using I.len⟩ ⟨_,hs,.inl rfl⟩
  ·exact (hs.2 b (Nat.ne_of_lt (Nat.lt_of_lt_of_le (Heap.lt_size e) I.ok.above))).trans (I.base.keep b o e n hb hx)
  ·obtain ⟨sl,e1⟩:=I.base.slot b o e n hb hx
   exact ⟨sl,(hs.2 b (Nat.ne_of_lt (Nat.lt_of_lt_of_le (Heap.lt_size e) I.ok.above))).trans e1⟩
  ·obtain ⟨o',e1⟩:=I.base.there b o e hx
   exact ⟨o',(hs.2 b (Nat.ne_of_lt (Nat.lt_of_lt_of_le (Heap.lt_size e) I.ok.above))).trans e1⟩
  ·by_cases hj:j=i
   ·subst hj
    rw [hi] at e1;cases e1
    rw [List.getElem?_set_self hiσ] at e2
    cases e2
    exact ⟨u,r,.inl ⟨hk,by simp⟩⟩
   ·rw [List.getElem?_set_ne (Ne.symm hj)] at e2
    obtain ⟨u',r',q⟩:=hl j y v' e1 e2 e3
    refine ⟨u',r',?_⟩
    rcases q with ⟨k,e⟩ | ⟨k,c,e,z⟩
    ·refine .inl ⟨k,?_⟩
     have:y≠x:=fun e=>hj (iR hN e1 (e▸hi))
     simp [this,e]
    ·exact .inr ⟨k,c,e,z.sameBut hs (cne y c e)⟩
  ·obtain ⟨w',z⟩:=I.cell y c e
   exact ⟨w',z.sameBut hs (cne y c e)⟩
  ·obtain ⟨e,n,ne,nf,d⟩:=I.pin p hp
   exact ⟨(hs.2 p.1 ne).trans e,n,ne,nf,d⟩
 ·have hfn:X.fn x=true:=by
   rcases hf with z | z
   ·exact z
   ·rw [z] at hk;cases hk
  obtain ⟨c,hc⟩:=I.ok.has x (.inl hk)
  obtain ⟨w',z⟩:=I.cell x c hc
  refine wpAny_storeName_cell I.ok.kind hk hc z (fun h' hc' hs=>?_)
  obtain ⟨oc,hoc,hocd⟩:=id z
  refine h {s with heap:=h'} ⟨I.ok,I.os,I.bare,⟨fun b o e n hb hx=>?_,fun b o e n hb hx=>?_,I.base.free,fun b o e hx=>?_,I.base.tups,I.base.frzs,I.base.tbls⟩,⟨m,hn.sameBut hs (Ne.symm (cne x c hc)),fun j y v' e1 e2 e3=>?_⟩,fun y c' e=>?_,I.free,I.freeC,fun p hp=>?_,tracked ⟨oc,hoc,I.freeC x c hc⟩ hs,by simpa using I.len⟩ ⟨c,hs,.inr hc⟩
  ·exact (hs.2 b (Nat.ne_of_lt (Nat.lt_of_lt_of_le (Heap.lt_size e) (I.ok.cab x c hfn hc)))).trans (I.base.keep b o e n hb hx)
  ·obtain ⟨sl,e1⟩:=I.base.slot b o e n hb hx
   exact ⟨sl,(hs.2 b (Nat.ne_of_lt (Nat.lt_of_lt_of_le (Heap.lt_size e) (I.ok.cab x c hfn hc)))).trans e1⟩
  ·obtain ⟨o',e1⟩:=I.base.there b o e hx
   exact ⟨o',(hs.2 b (Nat.ne_of_lt (Nat.lt_of_lt_of_le (Heap.lt_size e) (I.ok.cab x c hfn hc)))).trans e1⟩
  ·by_cases hj:j=i
   ·subst hj
    rw [hi] at e1;cases e1
    rw [List.getElem?_set_self hiσ] at e2
    cases e2
    exact ⟨u,r,.inr ⟨.inl hk,c,hc,hc'⟩⟩
   ·rw [List.getElem?_set_ne (Ne.symm hj)] at e2
    obtain ⟨u',r',q⟩:=hl j y v' e1 e2 e3
    refine ⟨u',r',?_⟩
    rcases q with q | ⟨k,c',e,z'⟩
    ·exact .inl q
    ·refine .inr ⟨k,c',e,z'.sameBut hs ?_⟩
     rintro rfl
     exact hj (iR hN e1 (I.ok.inj _ _ _ e hc▸hi))
  ·by_cases hcc:c'=c
   ·subst hcc;exact ⟨_,hc'⟩
   ·obtain ⟨w2,z2⟩:=I.cell y c' e
    exact ⟨w2,z2.sameBut hs hcc⟩
  ·obtain ⟨e,n,ne,nf,d⟩:=I.pin p hp
   refine ⟨(hs.2 p.1 ?_).trans e,n,ne,nf,d⟩
   intro q
   rw [q,hoc] at e
   have q':oc=p.2:=Option.some.inj e
   exact d w' (by rw [←q'];exact hocd)
theorem gz {M:Model}{A:Around}{E:Value->Shared->Prop}{i:Nat}{x:Str}{v:V}{u:Value}{Q:Unit->Shared->Prop}(I:Inv X pins σ H s)(hN:X.N.Nodup)(hi:X.N[i]?=some x)(hx:Loc X.env.scope x)(r:aY v u)
  (h:∀s',Inv X pins (σ.set i (some v)) H s'->Q () s') (hf:X.fn x=true\/X.env.scope.names.lookup x=some .local:=by first | exact .inl rfl | exact .inr rfl | assumption):wpAny M A (storeName X.env x u) Q E s:=
 jS I hN hi hx r (fun s' I' _=>h s' I') hf
theorem Inv.call' {s':Shared}{ch:List Addr}(I:Inv X pins σ H s)(ho:s'.os=s.os)(u:Un (frs X.stack) ch H H' s.heap s'.heap)(hok:HOk X.prog X.w H' s'.heap)(hg:AllBare s'.gens)
  (hch:∀b∈ch,(b∈X.ex\/X.s₀.heap.objs.size<=b)/\b≠X.env.locals/\(∀x c,X.env.cells.lookup x=some c->c≠b)/\∀p∈X.pn++pins,p.1≠b):Inv X pins σ H' s':=by
 obtain ⟨h',g',d',t',o'⟩:=s'
 have e:o'=s.os:=ho
 subst e
 exact I.call (g':=g') (t':=t') (d':=d') u hok hg hch
end
noncomputable abbrev XK:=Value->Option Addr->Hp->Prop
noncomputable abbrev St:=List (Option V)
noncomputable abbrev VK:=V->Hp->Prop
noncomputable abbrev TE:=St->Hp->VK->Prop
noncomputable abbrev TT:=St->Hp->(Bool->Hp->Prop)->Prop
noncomputable abbrev TA:=St->Hp->(List V->Hp->Prop)->Prop
structure iD where
 nx:St->Hp->Prop
 rt:VK
 bk:St->Hp->Prop:=fun _ _=>False
 ct:St->Hp->Prop:=fun _ _=>False
noncomputable abbrev TS:=iD->St->Hp->Prop
def EP (X:Cx)(pins:List (Addr×Obj))(σ:St)(Q:VK)(u:Value)(s':Shared):Prop:=∃v H',Inv X pins σ H' s'/\aY v u/\Q v H'
def TP (X:Cx)(pins:List (Addr×Obj))(σ:St)(Q:Bool->Hp->Prop)(b:Bool)(s':Shared):Prop:=∃H',Inv X pins σ H' s'/\Q b H'
def AP (X:Cx)(pins:List (Addr×Obj))(σ:St)(Q:List V->Hp->Prop)(us:List Value)(s':Shared):Prop:=∃vs H',Inv X pins σ H' s'/\aM vs us/\Q vs H'
def SP (X:Cx)(pins:List (Addr×Obj))(D:iD)(f:Flow)(s':Shared):Prop:=
 match f with
 | .next=>∃σ' H',Inv X pins σ' H' s'/\D.nx σ' H'
 | .brk=>∃σ' H',Inv X pins σ' H' s'/\D.bk σ' H'
 | .cont=>∃σ' H',Inv X pins σ' H' s'/\D.ct σ' H'
 | .ret u=>∃v σ' H',Inv X pins σ' H' s'/\aY v u/\D.rt v H'
def PE (X:Cx)(e:Expr)(t:TE):Prop:=
 ∀(pins:List (Addr×Obj)) (s:Shared) (σ:St) (H:Hp) (Q:VK),Inv X pins σ H s->t σ H Q->wpAny (model X.prog X.w) X.A (eval e X.env) (EP X pins σ Q) X.xe s
def PT (X:Cx)(e:Expr)(t:TT):Prop:=
 ∀(pins:List (Addr×Obj)) (s:Shared) (σ:St) (H:Hp) (Q:Bool->Hp->Prop),Inv X pins σ H s->t σ H Q->wpAny (model X.prog X.w) X.A (isTrue e X.env (eval e X.env)) (TP X pins σ Q) X.xe s
def PW (X:Cx)(e:Expr)(t:TT):Prop:=
 ∀(dy:Sem Value) (pins:List (Addr×Obj)) (s:Shared) (σ:St) (H:Hp) (Q:Bool->Hp->Prop),Inv X pins σ H s->t σ H Q->wpAny (model X.prog X.w) X.A (isTrue e X.env dy) (TP X pins σ Q) X.xe s
theorem PW.pt {X:Cx}{e:Expr}{t:TT}(h:PW X e t):PT X e t:=h _
def PA (X:Cx)(es:List Expr)(t:TA):Prop:=
 ∀(pos:Pos) (pins:List (Addr×Obj)) (s:Shared) (σ:St) (H:Hp) (Q:List V->Hp->Prop),Inv X pins σ H s->t σ H Q->wpAny (model X.prog X.w) X.A (spliced (backTo pos (starEach es X.env))) (AP X pins σ Q) X.xe s
def PS (X:Cx)(st:Stmt)(t:TS):Prop:=
 ∀(pins:List (Addr×Obj)) (s:Shared) (σ:St) (H:Hp) (D:iD),Inv X pins σ H s->t D σ H->wpAny (model X.prog X.w) X.A (exec st X.env) (SP X pins D) X.xe s
def PSs (X:Cx)(st:List Stmt)(t:TS):Prop:=
 ∀(pins:List (Addr×Obj)) (s:Shared) (σ:St) (H:Hp) (D:iD),Inv X pins σ H s->t D σ H->wpAny (model X.prog X.w) X.A (execs st X.env) (SP X pins D) X.xe s
theorem thn {α:Type}{t:Sem α}{Q Q':α->Shared->Prop}{M:Model}{A:Around}{E:Value->Shared->Prop}{s:Shared}(h:wpAny M A t Q E s)(hQ:∀a s,Q a s->Q' a s):wpAny M A t Q' E s:=wpAny_mono h hQ fun _ _ x=>x
section
variable {X:Cx}
theorem bin {a b:Expr}{ta tb:TE}(ha:PE X a ta)(hb:PE X b tb){pins:List (Addr×Obj)}{s:Shared}{σ:St}{H:Hp}{R:V->V->Hp->Prop}(I:Inv X pins σ H s)(h:ta σ H fun x H1=>tb σ H1 fun y H2=>R x y H2)
  {α:Type} {Q:α->Shared->Prop} {f:Value->Value->Sem α}
  (hf:∀v u s2 x y H2,Inv X pins σ H2 s2->aY x v->aY y u->R x y H2->wpAny (model X.prog X.w) X.A (f v u) Q X.xe s2) :
  wpAny (model X.prog X.w) X.A (eval a X.env) (fun v s₁=>wpAny (model X.prog X.w) X.A (eval b X.env) (fun u s₂=>wpAny (model X.prog X.w) X.A (f v u) Q X.xe s₂) X.xe s₁) X.xe s:=by
 refine thn (ha pins s σ H _ I h) fun v s1 ⟨x,H1,I1,r1,q1⟩=>?_
 refine thn (hb pins s1 σ H1 _ I1 q1) fun u s2 ⟨y,H2,I2,r2,q2⟩=>?_
 exact hf v u s2 x y H2 I2 r1 r2 q2
noncomputable def tN (i:Nat):TE:=fun σ H Q=>∃v,σ[i]?=some (some v)/\Q v H
noncomputable def tC (v:V):TE:=fun _ H Q=>Q v H
theorem tO {i:Nat}{x:Str}{pos:Pos}(hN:X.N[i]?=some x)(hv:Vis X.env.scope x)(hd:(x == ("__debug__":Str))=false:=by decide)(hcd:(x == ("__classdict__":Str))=false:=by decide):PE X (.Name x pos) (tN i):=by
 intro pins s σ H Q I h
 obtain ⟨v,e,h⟩:=h
 obtain ⟨m,hn,hl⟩:=I.loc
 obtain ⟨u,r,l⟩:=hl i x v hN e hv
 have fin:EP X pins σ Q u s:=⟨v,H,I,r,h⟩
 rcases l with ⟨hk,hm⟩ | ⟨hk,c,hc,hcell⟩
 ·exact wpAny_Name (wpAny_loadName_local I.ok.kind hk hn hm fin) hd
 ·rcases hk with hk | hk
  ·exact wpAny_Name (wpAny_loadName_cell I.ok.kind hk hc hcell fin) hd
  ·exact wpAny_Name (wpAny_loadName_free I.ok.kind hk hc hcell fin hcd) hd
theorem af {i j pos}:PE X (.Constant (.int i) j pos) (tC (.int i)):=fun _ _ _ H _ I h=>wpAny_Constant_int ⟨.int i,H,I.tok _,⟨_,rfl⟩,h⟩
theorem cN {b j pos}:PE X (.Constant (.bool b) j pos) (tC (.bl b)):=fun _ _ _ H _ I h=>Constant_bool ⟨.bl b,H,I,rfl,h⟩
theorem dQ {j pos}:PE X (.Constant .none j pos) (tC .non):=fun _ _ _ H _ I h=>Constant_none ⟨.non,H,I,rfl,h⟩
theorem aw {x j pos}:PE X (.Constant (.str x) j pos) (tC (.str x)):=fun _ _ _ H _ I h=>Calls.Constant_str ⟨.str x,H,I.tok _,⟨_,rfl⟩,h⟩
def Gl (X:Cx)(x:Str):Prop:=X.env.kindOf x=some .globalImplicit
theorem fF {E:Value->Shared->Prop}{pins:List (Addr×Obj)}{s:Shared}{σ:St}{H:Hp}{x:Str}{u:Value}{pos:Pos}{Q:Value->Shared->Prop}(I:Inv X pins σ H s)(hg:Gl X x)(hm:X.mg x=some u)(h:Q u s)
  (hd:(x == ("__debug__":Str))=false:=by decide):wpAny (model X.prog X.w) X.A (eval (.Name x pos) X.env) Q E s:=
 Calls.Name_function_global I.ok.kind hg (Calls.loadGlobal_global (by rw [I.ok.glob];exact I.mod.glob.keeps I.bk) hm h) hd
theorem g6 {E:Value->Shared->Prop}{pins:List (Addr×Obj)}{s:Shared}{σ:St}{H:Hp}{x:Str}{u:Value}{pos:Pos}{Q:Value->Shared->Prop}(I:Inv X pins σ H s)(hg:Gl X x)(hm:X.mg x=none)(hv:bootBuiltins x=some u)(h:Q u s)
  (hn:x≠"__name__":=by decide) (hd:(x == ("__debug__":Str))=false:=by decide):wpAny (model X.prog X.w) X.A (eval (.Name x pos) X.env) Q E s:=by
 obtain ⟨mb,h1,h2⟩:=I.mod.blt
 exact Calls.Name_function_global I.ok.kind hg (Calls.loadGlobal_builtin (by rw [I.ok.glob];exact I.mod.glob.keeps I.bk) hm (by rw [I.ok.blt];exact h1.keeps I.bk) ((h2 x hn).trans hv) h) hd
theorem dR {x:Str}{v:V}{u:Value}{pos:Pos}(hg:Gl X x)(hm:X.mg x=some u)(r:aY v u)(hd:(x == ("__debug__":Str))=false:=by decide):PE X (.Name x pos) (tC v):=
 fun _ _ _ H _ I h=>fF I hg hm ⟨v,H,I,r,h⟩ hd
theorem bO {x:Str}{v:V}{u:Value}{pos:Pos}(hg:Gl X x)(hm:X.mg x=none)(hv:bootBuiltins x=some u)(r:aY v u)(hn:x≠"__name__":=by decide)(hd:(x == ("__debug__":Str))=false:=by decide):PE X (.Name x pos) (tC v):=
 fun _ _ _ H _ I h=>g6 I hg hm hv ⟨v,H,I,r,h⟩ hn hd
variable {a b:Expr}{ta tb:TE}{pos:Pos}
def PC (X:Cx)(op:CmpOp)(a b:Expr)(t:TE):Prop:=
 ∀(pins:List (Addr×Obj)) (s:Shared) (σ:St) (H:Hp) (Q:VK),Inv X pins σ H s->t σ H Q->
  wpAny (model X.prog X.w) X.A (eval a X.env) (fun v s₁=>wpAny (model X.prog X.w) X.A (eval b X.env) (fun u s₂=>wpAny (model X.prog X.w) X.A (compareOp op v u) (EP X pins σ Q) X.xe s₂) X.xe s₁) X.xe s
theorem oN (b:Expr){op:CmpOp}(h:op≠.In)(h2:op≠.NotIn):behindInMarks op b=false:=by
 have e1:(op == CmpOp.In)=false:=by cases op<;>first | rfl | exact absurd rfl h
 have e2:(op == CmpOp.NotIn)=false:=by cases op<;>first | rfl | exact absurd rfl h2
 cases b<;>simp [behindInMarks,e1,e2]
noncomputable def tB (t:TE):TT:=fun σ H Q=>t σ H fun x H1=>∃c,x=.bl c/\Q c H1
theorem vV {op:CmpOp}{t:TE}(h:PC X op a b t)(h1:behindInMarks op b=false:=by first | exact oN _ (by decide) (by decide) | rfl):PT X (.Compare a [op] [b] pos) (tB t):=by
 intro pins s σ H Q I hw
 refine wpAny_isTrue_Compare1 (thn (h pins s σ H _ I hw) fun v s1 h1=>thn h1 fun u s2 h2=>thn h2 fun c s3 ⟨x,H1,I1,r1,q1⟩=>?_) h1
 obtain ⟨d,rfl,q⟩:=q1
 cases r1
 exact wpAny_truthy_bool ⟨H1,I1,q⟩
theorem tP {e:Expr}{t:TE}(h:PE X e t)(he:∀dy,isTrue e X.env dy=(do let v ←dy;standAt e.pos;holding [v] (truthy v)):=by intro _;rfl):PT X e (tB t):=by
 intro pins s σ H Q I hw
 refine isTrue_plain (thn (h pins s σ H _ I hw) fun v s1 ⟨x,H1,I1,r1,q1⟩=>?_) (he _)
 obtain ⟨d,rfl,q⟩:=q1
 cases r1
 exact wpAny_truthy_bool ⟨H1,I1,q⟩
variable {tA tB':TT}{dP:List Expr}
noncomputable def u0 (t u:TT):TT:=fun σ H Q=>t σ H fun c H1=>if c=true then u σ H1 Q else Q false H1
noncomputable def tOr (t u:TT):TT:=fun σ H Q=>t σ H fun c H1=>if c=true then Q true H1 else u σ H1 Q
noncomputable def u3 (t:TT):TT:=fun σ H Q=>t σ H fun c H1=>Q (!c) H1
theorem kj (ha:PT X a tA):PW X (.BoolOp .And [a] pos) tA:=by
 intro wh pins s σ H Q I h
 refine isTrue_and (thn (ha pins s σ H Q I h) fun c s1 e=>?_)
 cases c with
 | true=>exact isTrue_and_nil e
 | false=>exact e
theorem lU (ha:PT X a tA):PW X (.BoolOp .Or [a] pos) tA:=by
 intro wh pins s σ H Q I h
 refine isTrue_or (thn (ha pins s σ H Q I h) fun c s1 e=>?_)
 cases c with
 | false=>exact isTrue_or_nil e
 | true=>exact e
theorem kl (ha:PT X a tA)(hb:PW X (.BoolOp .And (b::dP) pos) tB'):PW X (.BoolOp .And (a::b::dP) pos) (u0 tA tB'):=by
 intro wh pins s σ H Q I h
 refine isTrue_and (thn (ha pins s σ H _ I h) fun c s1 ⟨H1,I1,q1⟩=>?_)
 cases c with
 | true=>exact hb wh pins s1 σ H1 Q I1 q1
 | false=>exact ⟨H1,I1,q1⟩
theorem oO (ha:PT X a tA)(hb:PW X (.BoolOp .Or (b::dP) pos) tB'):PW X (.BoolOp .Or (a::b::dP) pos) (tOr tA tB'):=by
 intro wh pins s σ H Q I h
 refine isTrue_or (thn (ha pins s σ H _ I h) fun c s1 ⟨H1,I1,q1⟩=>?_)
 cases c with
 | true=>exact ⟨H1,I1,q1⟩
 | false=>exact hb wh pins s1 σ H1 Q I1 q1
theorem dS (ha:PT X a tA):PT X (.UnaryOp .Not a pos) (u3 tA):=by
 intro pins s σ H Q I h
 exact isTrue_not (ha pins s σ H (fun c H1=>Q (!c) H1) I h)
noncomputable def sI (ta tb:TE):TE:=fun σ H Q=>ta σ H fun x H1=>∃c,x=.bl c/\if c=true then tb σ H1 Q else Q (.bl false) H1
theorem km {op}{t:TE}(h:PE X a t):PE X (.BoolOp op [a] pos) t:=fun pins s σ H Q I hw=>BoolOp_one (h pins s σ H Q I hw)
theorem tQ (ha:PE X a ta)(hb:PE X (.BoolOp .And (b::dP) pos) tb):PE X (.BoolOp .And (a::b::dP) pos) (sI ta tb):=by
 intro pins s σ H Q I h
 refine BoolOp_and (thn (ha pins s σ H _ I h) fun v s1 ⟨x,H1,I1,r1,q1⟩=>?_)
 obtain ⟨c,rfl,q1⟩:=q1
 cases r1
 refine wpAny_truthy_bool ?_
 cases c with
 | true=>exact hb pins s1 σ H1 Q I1 q1
 | false=>exact ⟨.bl false,H1,I1,rfl,q1⟩
noncomputable def tIf (t:TT)(ta tb:TE):TE:=fun σ H Q=>t σ H fun c H1=>if c=true then ta σ H1 Q else tb σ H1 Q
theorem oP {c:Expr}(hc:PT X c tA)(ha:PE X a ta)(hb:PE X b tb):PE X (.IfExp c a b pos) (tIf tA ta tb):=by
 intro pins s σ H Q I h
 refine wpAny_IfExp (thn (hc pins s σ H _ I h) fun d s1 ⟨H1,I1,q1⟩=>?_)
 cases d with
 | true=>exact ha pins s1 σ H1 Q I1 q1
 | false=>exact hb pins s1 σ H1 Q I1 q1
end
def SqL (K:JA)(H:Hp)(a:Addr)(xs:List V):Prop:=
 Rd H a (.lst xs)\/
  ∃(o:Obj) (its:Array Value) (n:Nat),K.lookup a=some o/\o.cls=.type "list"/\o.dict=none/\o.data=.seq its n/\its.size<=sizeLine/\aM xs its.toList
def SqT (K:JA)(H:Hp)(a:Addr)(xs:List V):Prop:=
 Rd H a (.tup xs)\/
  ∃(o:Obj) (its:Array Value) (n:Nat),K.lookup a=some o/\o.cls=.type "tuple"/\o.data=.seq its n/\its.size<=sizeLine/\aM xs its.toList
noncomputable def vW:Value->Option V
 | .none=>some .non
 | .bool b=>some (.bl b)
 | .int i _=>some (.int i)
 | .str x _=>some (.str x)
 | .bytes b _=>some (.byt b)
 | .float b _=>some (.flt b)
 | .ref a=>some (.ref a)
 | .type n=>some (.ty n)
 | _=>none
theorem aY.abs {x:V}{u:Value}(r:aY x u):vW u=some x:=by
 cases x with
 | non=>cases r;rfl
 | bl _=>cases r;rfl
 | int _=>obtain ⟨t,rfl⟩:=r;rfl
 | str _=>obtain ⟨t,rfl⟩:=r;rfl
 | byt _=>obtain ⟨t,rfl⟩:=r;rfl
 | flt _=>obtain ⟨t,rfl⟩:=r;rfl
 | ref _=>cases r;rfl
 | ty _=>cases r;rfl
theorem aY.inj {x y:V}{u:Value}(r:aY x u)(q:aY y u):x=y:=Option.some.inj (r.abs.symm.trans q.abs)
theorem aM.inj:∀{xs ys:List V} {us:List Value},aM xs us->aM ys us->xs=ys
 | _,_,_,.nil,.nil=>rfl
 | _,_,_,.cons r t,.cons r' t'=>by rw [r.inj r',aM.inj t t']
section
variable {X:Cx}{pins:List (Addr×Obj)}{σ:St}{H:Hp}{s:Shared}{a:Addr}{xs ys:List V}
theorem SqL.of {K:JA}(h:H a=some (.lst xs)):SqL K H a xs:=.inl (.inl h)
theorem SqT.of {K:JA}(h:H a=some (.tup xs)):SqT K H a xs:=.inl (.inl h)
theorem Inv.list (I:Inv X pins σ H s)(h:SqL X.K H a xs):∃its:List Value,aM xs its/\PlainL s.heap a its.toArray/\xs.length<=sizeLine:=by
 rcases h with h | ⟨o,its,n,hk,hc,hd,hs,hz,r⟩
 ·obtain ⟨z,its,n,r,e⟩:=h.ok I.hok
  exact ⟨its,r,⟨_,n,e,rfl,rfl,rfl⟩,z⟩
 ·refine ⟨its.toList,r,⟨o,n,I.kIn a o hk,hc,hd,by simpa using hs⟩,?_⟩
  have e:=r.length
  simp only [Array.length_toList] at e
  omega
theorem Inv.tuple (I:Inv X pins σ H s)(h:SqT X.K H a xs):∃its:List Value,aM xs its/\IsTup s.heap a its.toArray/\xs.length<=sizeLine:=by
 rcases h with h | ⟨o,its,n,hk,hc,hs,hz,r⟩
 ·obtain ⟨z,its,r,p⟩:=h.ok I.hok
  exact ⟨its,r,p.tup,z⟩
 ·refine ⟨its.toList,r,⟨o,I.kIn a o hk,hc,n,by simpa using hs⟩,?_⟩
  have e:=r.length
  simp only [Array.length_toList] at e
  omega
theorem Inv.list_inj (I:Inv X pins σ H s)(h:SqL X.K H a xs)(h':SqL X.K H a ys):xs=ys:=by
 obtain ⟨its,r,⟨o,n,e,_,_,d⟩,_⟩:=I.list h
 obtain ⟨its',r',⟨o',n',e',_,_,d'⟩,_⟩:=I.list h'
 rw [e] at e';cases e'
 rw [d] at d'
 injection d' with d1 _
 have:its=its':=by simpa using congrArg Array.toList d1
 subst this
 exact r.inj r'
end
noncomputable abbrev Cx.wish (X:Cx)(E:Value->Shared->Prop):Cx:={X with xe:=E}
noncomputable abbrev Cx.nox (X:Cx):Cx:=X.wish fun _ _=>False
theorem Cx.Ok.wish {X:Cx}(ok:X.Ok)(E:Value->Shared->Prop):(X.wish E).Ok:=
 ⟨ok.mod,ok.kind,ok.glob,ok.blt,ok.above,ok.inj,ok.has,ok.cab,ok.hd,ok.frames,ok.stk,ok.exf,ok.bs,ok.bsz,ok.noex,ok.exfs,ok.funs,ok.frf⟩
theorem Cx.Ok.unwish {X:Cx}{E:Value->Shared->Prop}(ok:(X.wish E).Ok):X.Ok:=
 ⟨ok.mod,ok.kind,ok.glob,ok.blt,ok.above,ok.inj,ok.has,ok.cab,ok.hd,ok.frames,ok.stk,ok.exf,ok.bs,ok.bsz,ok.noex,ok.exfs,ok.funs,ok.frf⟩
section
variable {X:Cx}{pins:List (Addr×Obj)}{σ:St}{H:Hp}{s:Shared}{E:Value->Shared->Prop}
theorem Inv.wish (I:Inv X pins σ H s)(E:Value->Shared->Prop):Inv (X.wish E) pins σ H s:=⟨I.ok.wish E,I.os,I.bare,I.base,I.loc,I.cell,I.free,I.freeC,I.pin,I.hok,I.len⟩
theorem Inv.unwish (I:Inv (X.wish E) pins σ H s):Inv X pins σ H s:=⟨I.ok.unwish,I.os,I.bare,I.base,I.loc,I.cell,I.free,I.freeC,I.pin,I.hok,I.len⟩
theorem SP.unwish {D:iD}{f:Flow}{s':Shared}(h:SP (X.wish E) pins D f s'):SP X pins D f s':=by
 cases f with
 | next=>obtain ⟨σ',H',I,q⟩:=h;exact ⟨σ',H',I.unwish,q⟩
 | brk=>obtain ⟨σ',H',I,q⟩:=h;exact ⟨σ',H',I.unwish,q⟩
 | cont=>obtain ⟨σ',H',I,q⟩:=h;exact ⟨σ',H',I.unwish,q⟩
 | ret u=>obtain ⟨v,σ',H',I,r,q⟩:=h;exact ⟨v,σ',H',I.unwish,r,q⟩
theorem PSs.nox {st:List Stmt}{t:TS}(h:PSs X.nox st t):PSs X st t:=fun pins s σ H D I hw=>
 wpAny_mono (h pins s σ H D (I.wish _) hw) (fun _ _ q=>q.unwish) fun _ _ z=>False.elim z
end
section
variable {X:Cx}{st:Stmt}{dP:List Stmt}{t u:TS}{e:Expr}{te:TE}{pos:Pos}
noncomputable def sJ:TS:=fun D σ H=>D.nx σ H
noncomputable def u4 (t u:TS):TS:=fun D σ H=>t {D with nx:=u D} σ H
theorem aB:PSs X [] sJ:=fun _ _ σ H _ I h=>wpAny_execs_nil ⟨σ,H,I,h⟩
theorem ag (h1:PS X st t)(h2:PSs X dP u):PSs X (st::dP) (u4 t u):=by
 intro pins s σ H D I h
 refine wpAny_execs_cons (thn (h1 pins s σ H {D with nx:=u D} I h) fun f s1 q=>?_)
 cases f with
 | next=>
  obtain ⟨σ',H',I',q⟩:=q
  exact h2 pins s1 σ' H' D I' q
 | ret v=>exact q
 | brk=>exact q
 | cont=>exact q
theorem ai (h1:PS X st t):PSs X [st] t:=by
 intro pins s σ H D I h
 refine wpAny_execs_cons (thn (h1 pins s σ H D I h) fun f s1 q=>?_)
 cases f with
 | next=>exact wpAny_execs_nil q
 | ret v=>exact q
 | brk=>exact q
 | cont=>exact q
theorem Inv.quiet {pins:List (Addr×Obj)}{σ:St}{H:Hp}{s:Shared}(I:Inv X pins σ H s):interactive X.env=false:=by simp [interactive,I.ok.kind]
noncomputable def sO (te:TE):TS:=fun D σ H=>te σ H fun _ H1=>D.nx σ H1
theorem bK (he:PE X e te)(hs:swapsWith e none pos.line X.env=pure false:=by rfl):PS X (.Expr e pos) (sO te):=by
 intro pins s σ H D I h
 exact wpAny_Expr_any (thn (he pins s σ H _ I h) fun v s1 ⟨x,H1,I1,r1,q1⟩=>⟨σ,H1,I1,q1⟩) I.quiet hs
noncomputable def u5 (te:TE):TS:=fun D σ H=>te σ H D.rt
theorem aC (he:PE X e te):PS X (.Return (some e) pos) (u5 te):=by
 intro pins s σ H D I h
 exact wpAny_Return_some (thn (he pins s σ H _ I h) fun v s1 ⟨x,H1,I1,r1,q1⟩=>⟨x,σ,H1,I1,r1,q1⟩)
noncomputable def u6 (c:TT)(t u:TS):TS:=fun D σ H=>c σ H fun b H1=>if b=true then t D σ H1 else u D σ H1
theorem aT {c:Expr}{a b:List Stmt}{tc:TT}(hc:PT X c tc)(ha:PSs X a t)(hb:PSs X b u):PS X (.If c a b pos) (u6 tc t u):=by
 intro pins s σ H D I h
 refine wpAny_If (thn (hc pins s σ H _ I h) fun d s1 ⟨H1,I1,q1⟩=>?_)
 cases d with
 | true=>exact ha pins s1 σ H1 D I1 q1
 | false=>exact hb pins s1 σ H1 D I1 q1
end
noncomputable abbrev TG:=V->St->Hp->(St->Hp->Prop)->Prop
noncomputable abbrev TGs:=List V->St->Hp->(St->Hp->Prop)->Prop
def PG (X:Cx)(target:Expr)(t:TG):Prop:=
 ∀(pins:List (Addr×Obj)) (s:Shared) (σ:St) (H:Hp) (v:V) (u:Value) (Q:St->Hp->Prop),Inv X pins σ H s->aY v u->t v σ H Q->
  wpAny (model X.prog X.w) X.A (assign target X.env u) (fun _ s'=>∃σ' H',Inv X pins σ' H' s'/\Q σ' H') X.xe s
def PGs (X:Cx)(ts:List Expr)(t:TGs):Prop:=
 ∀(pins:List (Addr×Obj)) (s:Shared) (σ:St) (H:Hp) (vs:List V) (us:List Value) (Q:St->Hp->Prop),Inv X pins σ H s->aM vs us->t vs σ H Q->
  wpAny (model X.prog X.w) X.A (assignInOrder ((assignEach ts X.env).map (·.2)) us) (fun _ s'=>∃σ' H',Inv X pins σ' H' s'/\Q σ' H') X.xe s
noncomputable abbrev tR:=V->V->V->Hp->(Hp->Prop)->Prop
def tS (X:Cx)(t:tR):Prop:=
 ∀(pins:List (Addr×Obj)) (s:Shared) (σ:St) (H:Hp) (o i v:V) (ov iv u:Value) (Q:Hp->Prop),Inv X pins σ H s->aY o ov->aY i iv->aY v u->t o i v H Q->
  wpAny (model X.prog X.w) X.A (setItem ov iv u) (fun _ s'=>∃H',Inv X pins σ H' s'/\Q H') X.xe s
section
variable {X:Cx}{pos:Pos}
noncomputable def dz (i:Nat):TG:=fun v σ H Q=>Q (σ.set i (some v)) H
theorem bu {i:Nat}{x:Str}(hN:X.N.Nodup)(hi:X.N[i]?=some x)(hx:Loc X.env.scope x)(hf:X.fn x=true\/X.env.scope.names.lookup x=some .local:=by first | exact .inl rfl | exact .inr rfl | assumption):PG X (.Name x pos) (dz i):=by
 intro pins s σ H v u Q I r h
 exact wpAny_assign_Name (gz I hN hi hx r (fun s' I'=>⟨_,H,I',h⟩) hf)
noncomputable def u7:TGs:=fun vs σ H Q=>vs=[]/\Q σ H
noncomputable def sP (t:TG)(u:TGs):TGs:=fun vs σ H Q=>∃v r,vs=v::r/\t v σ H fun σ' H'=>u r σ' H' Q
theorem qF:PGs X [] u7:=by
 intro pins s σ H vs us Q I r h
 obtain ⟨e,h⟩:=h
 subst e
 cases r
 exact assignInOrder_nil ⟨σ,H,I,h⟩
theorem oQ {e:Expr}{es:List Expr}{t:TG}{u:TGs}(h1:PG X e t)(h2:PGs X es u)
  (hs:(assignEach (e::es) X.env).map (·.2)=assign e X.env::(assignEach es X.env).map (·.2):=by rfl):PGs X (e::es) (sP t u):=by
 intro pins s σ H vs us Q I r h
 obtain ⟨v,vr,e1,h⟩:=h
 subst e1
 cases r with
 | cons r rr=>
  rw [hs]
  refine assignInOrder_cons (thn (h1 pins s σ H _ _ _ I r h) fun _ s1 ⟨σ1,H1,I1,q1⟩=>?_)
  exact h2 pins s1 σ1 H1 _ _ Q I1 rr q1
noncomputable def u9 (K:JA)(n:Nat)(t:TGs):TG:=fun v σ H Q=>∃a xs,v=.ref a/\SqT K H a xs/\xs.length=n/\t xs σ H Q
theorem tT {es:List Expr}{k:Nat}{t:TGs}{n:Nat}(hc:X.calm=true)(h:PGs X es t)
  (hn:(assignEach es X.env).length=n:=by rfl) (hst:(assignEach es X.env).findIdx? (·.1)=none:=by rfl):PG X (.Tuple es k pos) (u9 X.K n t):=by
 intro pins s σ H v u Q I r hw
 obtain ⟨a,xs,e1,hq,hl,hw⟩:=hw
 subst e1
 cases r
 obtain ⟨its,rv,ht,hz⟩:=I.tuple hq
 refine assign_Tuple_tuple (I.ok.hd hc) ht (by simp [hn,←hl,rv.length]) hst fun h' hx=>?_
 have I1:Inv X pins σ H {s with heap:=h'}:=I.kept (t':=s.toks) fun b o e=>hx b o (Nat.ne_of_lt (Heap.lt_size e)) e
 exact h pins _ σ H xs _ Q I1 (by simpa using rv) hw
noncomputable def vb (to ti:TE)(t:tR):TG:=fun v σ H Q=>to σ H fun o H1=>ti σ H1 fun i H2=>t o i v H2 fun H3=>Q σ H3
theorem oR {o i:Expr}{to ti:TE}{t:tR}(ho:PE X o to)(hi:PE X i ti)(hs:tS X t)
  (ha:∀v,assign (.Subscript o i pos) X.env v=(do
   let ov ←holding [v] (eval o X.env)
   let iv ←holding [v,ov] (eval i X.env)
   standAt pos
   holding [v,ov,iv] (setItem ov iv v)
   release [v,ov,iv] []):=by intro _;rfl):PG X (.Subscript o i pos) (vb to ti t):=by
 intro pins s σ H v u Q I r h
 rw [ha]
 refine wpAny_bind (wpAny_holding (thn (ho pins s σ H _ I h) fun ov s1 ⟨x,H1,I1,r1,q1⟩=>?_))
 refine wpAny_bind (wpAny_holding (thn (hi pins s1 σ H1 _ I1 q1) fun iv s2 ⟨y,H2,I2,r2,q2⟩=>?_))
 refine wpAny_bind (wpAny_standAt (wpAny_bind (wpAny_holding (thn (hs pins s2 σ H2 x y v ov iv u _ I2 r1 r2 r q2) fun _ s3 ⟨H3,I3,q3⟩=>?_))))
 exact wpAny_release ⟨σ,H3,I3,q3⟩
noncomputable def oS (te:TE)(g:TG):TS:=fun D σ H=>te σ H fun x H1=>g x σ H1 D.nx
theorem oU {tg e:Expr}{te:TE}{g:TG}(he:PE X e te)(hg:PG X tg g)(hs:swapsWithSole [tg] e pos.line X.env=pure false:=by rfl)(hw:swappedStores [tg] e X.env=pure none:=by rfl)
  (h1:(assignEach [tg] X.env).map (·.2)=[assign tg X.env]:=by rfl):PS X (.Assign [tg] e pos) (oS te g):=by
 intro pins s σ H D I h
 refine wpAny_Assign_stores (thn (he pins s σ H _ I h) fun v s1 ⟨x,H1,I1,r1,q1⟩=>?_) hs hw
 rw [h1]
 exact thn (hg pins s1 σ H1 x v _ I1 r1 q1) fun _ s2 q=>q
theorem aO {i:Nat}{x:Str}{e:Expr}{te:TE}{pos':Pos}(hN:X.N.Nodup)(hi:X.N[i]?=some x)(hx:Loc X.env.scope x)(he:PE X e te)(hs:swapsWith e (some (.Name x pos')) pos.line X.env=pure false:=by rfl)(hf:X.fn x=true\/X.env.scope.names.lookup x=some .local:=by first | exact .inl rfl | exact .inr rfl | assumption) :
  PS X (.Assign [.Name x pos'] e pos) (oS te (dz i)):=by
 intro pins s σ H D I h
 refine wpAny_Assign_Name (thn (he pins s σ H _ I h) fun v s1 ⟨y,H1,I1,r1,q1⟩=>?_) hs
 exact gz I1 hN hi hx r1 (fun s2 I2=>⟨_,H1,I2,q1⟩) hf
end
structure It where
 go:Nat->Hp->Prop
 yld:Nat->Hp->V->Hp->Prop
 stop:Nat->Hp->Prop
def g7 (X:Cx)(pins:List (Addr×Obj))(H:Hp)(b:Addr):Prop:=
 H b=none/\b≠X.env.locals/\b∉X.fs/\(b∈X.ex\/X.s₀.heap.objs.size<=b)/\(∀x c,X.env.cells.lookup x=some c->c≠b)/\∀p∈X.pn++pins,p.1≠b
theorem Inv.fpOk {X:Cx}{pins:List (Addr×Obj)}{σ:St}{H H':Hp}{s:Shared}{b:Addr}(I:Inv X pins σ H s)(hb:s.heap.objs.size<=b)(hn:H' b=none):g7 X pins H' b:=by
 refine ⟨hn,Nat.ne_of_gt (Nat.lt_of_lt_of_le I.lt hb),I.nofs hb,.inr (Nat.le_trans I.sz hb),fun x c e z=>?_,fun p hp z=>?_⟩
 ·obtain ⟨v,q⟩:=I.cell x c e
  exact absurd (Nat.lt_of_lt_of_le q.lt (by rw [z];exact hb)) (Nat.lt_irrefl _)
 ·exact absurd (Nat.lt_of_lt_of_le (Heap.lt_size (I.pin p hp).1) (by rw [z];exact hb)) (Nat.lt_irrefl _)
structure oV (P:Program)(w:World)(K:JA)(tg:Expr)(J:It)(fp:List Addr)(it:Addr)(tn:Nat->Heap->Prop):Prop where
 mem:it∈fp
 obj:∀i h,tn i h->∀b∈fp,∃o,h.get? b=some o/\∀v,o.data≠.cell v
 keep:∀i h h',tn i h->(∀b∈fp,∀o,h.get? b=some o->h'.get? b=some o)->tn i h'
 item:∀(X:Cx),X.prog=P->X.w=w->X.K=K->X.calm=true->∀(i:Nat) (pins:List (Addr×Obj)) (s:Shared) (σ:St) (H:Hp) (E:Value->Shared->Prop),Inv X pins σ H s->(∀b∈fp,g7 X pins H b)->tn i s.heap->J.go i H->
  wpAny (model P w) X.A (pyNext (.ref it)) (fun r s1=>∃u,r=some u/\
   wpAny (model P w) X.A (letOwnedTupleGo tg (.ref it) u) (fun _ s2=>∃x H',Inv X pins σ H' s2/\aY x u/\J.yld i H x H'/\tn (i+1) s2.heap/\∀b∈fp,H' b=none) E s1) E s
 done:∀(X:Cx),X.prog=P->X.w=w->X.K=K->X.calm=true->∀(i:Nat) (pins:List (Addr×Obj)) (s:Shared) (σ:St) (H:Hp) (E:Value->Shared->Prop),Inv X pins σ H s->(∀b∈fp,g7 X pins H b)->tn i s.heap->J.stop i H->
  wpAny (model P w) X.A (pyNext (.ref it)) (fun r s1=>r=none/\Inv X pins σ H s1) E s
 self:∀(A:Around) (i:Nat) (s:Shared) (Q:Value->Shared->Prop) (E:Value->Shared->Prop),tn i s.heap->Q (.ref it) s->wpAny (model P w) A (pyIter (.ref it)) Q E s
noncomputable abbrev TI:=St->Hp->(It->Hp->Prop)->Prop
def PIE (X:Cx)(pins:List (Addr×Obj))(σ:St)(tg:Expr)(R:It->Hp->Prop)(itv:Value)(s2:Shared):Prop:=
 ∃(it:Addr) (fp:List Addr) (tn:Nat->Heap->Prop) (J:It) (H':Hp),itv=.ref it/\Inv X pins σ H' s2/\oV X.prog X.w X.K tg J fp it tn/\tn 0 s2.heap/\(∀b∈fp,g7 X pins H' b)/\R J H'
def PI (X:Cx)(tg iter:Expr)(wi:TI):Prop:=
 ∀(pins:List (Addr×Obj)) (s:Shared) (σ:St) (H:Hp) (R:It->Hp->Prop),Inv X pins σ H s->wi σ H R->
  wpAny (model X.prog X.w) X.A (eval iter X.env) (fun v s1=>wpAny (model X.prog X.w) X.A (pyIter v) (PIE X pins σ tg R) X.xe s1) X.xe s
theorem sQ {M:Model}{A:Around}{E:Value->Shared->Prop}{s:Shared}{tg:Expr}{it:Addr}{u:Value}{o:Obj}{n:String}{vs:Array Value}{Q:Unit->Shared->Prop}(ho:s.heap.get? it=some o)(hc:o.cls=.type n)(hd:o.data=.fields vs)
  (hn:["enumerate","zip","dict_itemiterator","dict_reverseitemiterator","odict_iterator","itertools.zip_longest","itertools.pairwise"].contains n=false) (hQ:Q () s):wpAny M A (letOwnedTupleGo tg (.ref it) u) Q E s:=by
 unfold letOwnedTupleGo
 cases tg<;>first
  | exact wpAny_pure hQ
  | (cases u<;>first
    | exact wpAny_pure hQ
    | (refine wpAny_bind (wpAny_load ho ?_)
       rw [hc,hd]
       show wpAny M A (if (["enumerate","zip","dict_itemiterator","dict_reverseitemiterator","odict_iterator","itertools.zip_longest","itertools.pairwise"].contains n && vs[0]? == some (rawInt _))=true then _ else _) Q E s
       rw [if_neg (by intro h;rw [hn,Bool.false_and] at h;cases h)]
       exact wpAny_pure hQ))
noncomputable def Itl (K:JA)(a:Addr):It:=
 ⟨fun i H=>∃xs x,SqL K H a xs/\xs[i]?=some x,fun i H x H'=>H'=H/\∀xs,SqL K H a xs->xs[i]?=some x,fun i H=>∃xs,SqL K H a xs/\xs.length<=i⟩
noncomputable def Itr (lo:Int)(n:Nat):It:=⟨fun i _=>i < n,fun i H x H'=>H'=H/\x=.int (lo+i),fun i _=>n<=i⟩
theorem nO {P:Program}{w:World}{K:JA}{tg:Expr}(a it:Addr):oV P w K tg (Itl K a) [it] it (fun i h=>h.IsListIter it a i) where
 mem:=by simp
 obj:=fun i h st b hb=>by
  have e:b=it:=by simpa using hb
  subst e
  obtain ⟨o,e,c,d⟩:=st
  exact ⟨o,e,fun v z=>by rw [d] at z;cases z⟩
 keep:=fun i h h' st k=>st.at fun o e=>k it (by simp) o e
 item:=by
  intro X hP hw hK hc i pins s σ H E I hf st hg
  subst hP hw hK
  obtain ⟨xs,x,hq,hx⟩:=hg
  obtain ⟨its,rv,p,hz⟩:=I.list hq
  obtain ⟨u,hu,ru⟩:=rv.get hx
  obtain ⟨f0,f1,f2,f3,f4,f5⟩:=hf it (by simp)
  refine wpAny_pyNext_list_item st p.isList (x:=u) (by simpa using hu) fun h' st' sb=>?_
  have I1:Inv X pins σ H {s with heap:=h'}:=I.turned (t':=s.toks) (fun b o hb e=>(sb.2 b hb).trans e) f0 f1 f3 f4 f5
  obtain ⟨o,e,c,d⟩:=id st'
  exact ⟨u,rfl,sQ (s:={s with heap:=h'}) e c d (by decide) ⟨x,H,I1,ru,⟨rfl,fun ys hy=>by rw [I.list_inj hy hq];exact hx⟩,st',fun b hb=>(hf b hb).1⟩⟩
 done:=by
  intro X hP hw hK hc i pins s σ H E I hf st hg
  subst hP hw hK
  obtain ⟨xs,hq,hx⟩:=hg
  obtain ⟨its,rv,p,hz⟩:=I.list hq
  obtain ⟨f0,f1,f2,f3,f4,f5⟩:=hf it (by simp)
  have hl:=rv.length
  exact wpAny_pyNext_list_end (I.ok.hd hc) st p.isList (by simp;omega) fun h' eb=>⟨rfl,I.turned (t':=s.toks) (fun b o hb e=>eb b o hb e) f0 f1 f3 f4 f5⟩
 self:=fun _ _ _ _ _ st h=>wpAny_pyIter_listiter st h
theorem lV {P:Program}{w:World}{K:JA}{tg:Expr}(it:Addr)(lo:Int)(n:Nat):oV P w K tg (Itr lo n) [it] it (fun i h=>IsRangeIter h it (lo+(i:Nat) * 1) ((n:Int) - (i:Nat)) 1) where
 mem:=by simp
 obj:=fun i h st b hb=>by
  have e:b=it:=by simpa using hb
  subst e
  exact ⟨_,st,fun v z=>by
   have z':Data.fields _=Data.cell v:=z
   cases z'⟩
 keep:=fun i h h' st k=>k it (by simp) _ st
 item:=by
  intro X hP hw hK hc i pins s σ H E I hf st hg
  subst hP hw hK
  obtain ⟨f0,f1,f2,f3,f4,f5⟩:=hf it (by simp)
  have W:=Walks.range (prog:=X.prog) (w:=X.w) (I.ok.hd hc) it lo 1 n
  refine W.item i s _ _ hg st fun v h' tk hv st' kk=>?_
  obtain ⟨t,rfl⟩:=hv
  have I1:Inv X pins σ H {s with heap:=h',toks:=tk}:=I.turned (fun b o hb e=>kk b o (by simpa using hb) e) f0 f1 f3 f4 f5
  refine ⟨_,rfl,sQ (s:={s with heap:=h',toks:=tk}) (n:="range_iterator") st' rfl rfl (by decide) ⟨.int (lo+i),H,I1,⟨t,?_⟩,⟨rfl,rfl⟩,st',fun b hb=>(hf b hb).1⟩⟩
  rw [Int.mul_one]
 done:=by
  intro X hP hw hK hc i pins s σ H E I hf st hg
  subst hP hw hK
  obtain ⟨f0,f1,f2,f3,f4,f5⟩:=hf it (by simp)
  exact wpAny_pyNext_range_end (I.ok.hd hc) st (by have:n<=i:=hg;omega) fun h' eb=>⟨rfl,I.turned (t':=s.toks) (fun b o hb e=>eb b o hb e) f0 f1 f3 f4 f5⟩
 self:=fun _ _ _ _ _ st h=>wpAny_pyIter_rangeiter st h
section
variable {X:Cx}{tg:Expr}
noncomputable def sR (K:JA)(tl:TE):TI:=fun σ H R=>tl σ H fun x H1=>∃a,x=.ref a/\(∃xs,SqL K H1 a xs)/\R (Itl K a) H1
theorem qG {l:Expr}{tl:TE}(hl:PE X l tl):PI X tg l (sR X.K tl):=by
 intro pins s σ H R I h
 refine thn (hl pins s σ H _ I h) fun v s1 ⟨x,H1,I1,r1,q1⟩=>?_
 obtain ⟨a,e,⟨xs,hq⟩,q⟩:=q1
 subst e
 cases r1
 obtain ⟨its,rv,p,hz⟩:=I1.list hq
 refine wpAny_pyIter_list p.isList ?_
 refine ⟨s1.heap.objs.size,[s1.heap.objs.size],_,_,H1,rfl,I1.kept (t':=s1.toks) fun b o e=>Heap.get?_push_of_some _ e,nO a _,⟨_,Heap.get?_push_size _ rfl,rfl,rfl⟩,fun b hb=>?_,q⟩
 have e:b=s1.heap.objs.size:=by simpa using hb
 subst e
 exact I1.fpOk (Nat.le_refl _) (I1.hok.fresh (Nat.le_refl _))
theorem kY {pins:List (Addr×Obj)}{σ:St}{H:Hp}{s:Shared}{R:It->Hp->Prop}{E:Value->Shared->Prop}{lo hi:Int}{t u v:Tok}{tk:Nat}(I:Inv X pins σ H s)(h1:-(2 ^ 62)<=lo)(h2:lo < 2 ^ 62)(h3:-(2 ^ 62)<=hi)(h4:hi < 2 ^ 62)
  (q:R (Itr lo (hi - lo).toNat) H):wpAny (model X.prog X.w) X.A (pyIter (.ref s.heap.objs.size)) (PIE X pins σ tg R) E {s with heap:=s.heap.push {cls:=.type "range",data:=.fields #[.int lo t,.int hi u,.int 1 v]},toks:=tk}:=by
 refine wpAny_pyIter_range (IsRange.new ..) (small_one h1 h2 h3 h4) ?_
 have I1:Inv X pins σ H {s with heap:=s.heap.push {cls:=.type "range",data:=.fields #[.int lo t,.int hi u,.int 1 v]},toks:=tk}:=I.kept fun b o e=>Heap.get?_push_of_some _ e
 refine ⟨(s.heap.push {cls:=.type "range",data:=.fields #[.int lo t,.int hi u,.int 1 v]}).objs.size,[(s.heap.push {cls:=.type "range",data:=.fields #[.int lo t,.int hi u,.int 1 v]}).objs.size],_,_,H,rfl,
  I1.kept (t':=tk) fun b o e=>Heap.get?_push_of_some _ e,lV _ lo (hi - lo).toNat,?_,fun b hb=>?_,q⟩
 ·have e1:lo+((0:Nat):Int) * 1=lo:=by simp
  have e2:(((hi - lo).toNat:Nat):Int) - ((0:Nat):Int)=Builtin.Range.rangeSize lo hi 1:=by rw [rangeSize_one];split<;>omega
  show IsRangeIter _ _ (lo+((0:Nat):Int) * 1) ((((hi - lo).toNat:Nat):Int) - ((0:Nat):Int)) 1
  rw [e1,e2]
  exact Heap.get?_push_size _ rfl
 ·have e:b=(s.heap.push {cls:=.type "range",data:=.fields #[.int lo t,.int hi u,.int 1 v]}).objs.size:=by simpa using hb
  subst e
  exact I1.fpOk (Nat.le_refl _) (I1.hok.fresh (Nat.le_refl _))
noncomputable def sS (ta:TA):TI:=fun σ H R=>ta σ H fun vs H1=>∃j:Int,vs=[.int j]/\-(2 ^ 62)<=j/\j < 2 ^ 62/\R (Itr 0 j.toNat) H1
noncomputable def sU (ta:TA):TI:=fun σ H R=>ta σ H fun vs H1=>∃i j:Int,vs=[.int i,.int j]/\(-(2 ^ 62)<=i/\i < 2 ^ 62/\-(2 ^ 62)<=j/\j < 2 ^ 62)/\R (Itr i (j - i).toNat) H1
theorem nP {a:Expr}{ta:TA}{p pos:Pos}(hg:Gl X "range")(hm:X.mg "range"=none)(ha:PA X [a] ta)(hs:starEach [a] X.env=[(false,eval a X.env)]:=by rfl):PI X tg (.Call (.Name "range" p) [a] [] pos) (sS ta):=by
 intro pins s σ H R I h
 refine Call_ (g6 I hg hm boot_range (PyProof.Rows.callWith_type1 (thn (ha pos pins s σ H _ I h) fun us s1 ⟨vs,H1,I1,r1,q1⟩=>?_) hs rfl))
 obtain ⟨j,e,q1,q2,q⟩:=q1
 subst e
 cases r1 with
 | cons r rr=>
  cases rr
  obtain ⟨t,rfl⟩:=r
  exact call_range_1 (kY I1 (by omega) (by omega) q1 q2 (by simpa using q))
theorem nQ {a b:Expr}{ta:TA}{p pos:Pos}(hg:Gl X "range")(hm:X.mg "range"=none)(ha:PA X [a,b] ta)(hs:starEach [a,b] X.env=[(false,eval a X.env),(false,eval b X.env)]:=by rfl)(hs2:starEach [b] X.env=[(false,eval b X.env)]:=by rfl) :
  PI X tg (.Call (.Name "range" p) [a,b] [] pos) (sU ta):=by
 intro pins s σ H R I h
 refine Call_ (g6 I hg hm boot_range (PyProof.Rows.callWith_type1 (thn (ha pos pins s σ H _ I h) fun us s1 ⟨vs,H1,I1,r1,q1⟩=>?_) (by rw [hs,hs2]) (by rw [hs2];rfl)))
 obtain ⟨i,j,e,⟨q1,q2,q3,q4⟩,q⟩:=q1
 subst e
 cases r1 with
 | cons r rr=>
  cases rr with
  | cons r' rr=>
   cases rr
   obtain ⟨t,rfl⟩:=r
   obtain ⟨t',rfl⟩:=r'
   exact call_range_2 (kY I1 q1 q2 q3 q4 q)
noncomputable def vc (wi:TI)(g:TG)(tb:TS):TS:=fun D σ H=>wi σ H fun J H1=>∃W:Nat->Nat->St->Hp->Prop,(∃m,W 0 m σ H1)/\∀i m σ H,W i m σ H->
 (J.stop i H/\D.nx σ H)\/(J.go i H/\∃N:St->Hp->Prop,(∀σ' H',N σ' H'->∃m',m' < m/\W (i+1) m' σ' H')/\∀x H',J.yld i H x H'->g x σ H' fun σ2 H2=>tb {D with nx:=N,ct:=N,bk:=D.nx} σ2 H2)
noncomputable def iS (fp:List Addr)(h:Heap):List (Addr×Obj):=fp.filterMap fun b=>(h.get? b).map fun o=>(b,o)
theorem dU {fp:List Addr}{h:Heap}{b:Addr}{o:Obj}(hb:b∈fp)(e:h.get? b=some o):(b,o)∈iS fp h:=List.mem_filterMap.mpr ⟨b,hb,by rw [e];rfl⟩
theorem nR {fp:List Addr}{h:Heap}{p:Addr×Obj}(hp:p∈iS fp h):p.1∈fp/\h.get? p.1=some p.2:=by
 obtain ⟨b,hb,e⟩:=List.mem_filterMap.mp hp
 cases q:h.get? b with
 | none=>rw [q] at e;cases e
 | some o=>
  rw [q] at e
  have e':(b,o)=p:=Option.some.inj e
  subst e'
  exact ⟨hb,q⟩
theorem Inv.pinned {pins:List (Addr×Obj)}{σ:St}{H:Hp}{s:Shared}{fp:List Addr}(I:Inv X pins σ H s)(hf:∀b∈fp,g7 X pins H b)(ho:∀b∈fp,∃o,s.heap.get? b=some o/\∀v,o.data≠.cell v):Inv X (pins++iS fp s.heap) σ H s:=
 I.pins_of fun p hp=>(List.mem_append.mp hp).elim (fun z=>I.pin p (List.mem_append_right _ z)) fun z=>by
  obtain ⟨hb,e⟩:=nR z
  obtain ⟨f0,f1,f2,_⟩:=hf p.1 hb
  obtain ⟨o,e',d⟩:=ho p.1 hb
  rw [e] at e';cases e'
  exact ⟨e,f0,f1,f2,d⟩
theorem Inv.unpinned {pins pl:List (Addr×Obj)}{σ:St}{H:Hp}{s:Shared}(I:Inv X (pins++pl) σ H s):Inv X pins σ H s:=I.pins_of fun p hp=>I.pin p (List.mem_append_right _ (List.mem_append_left _ hp))
theorem iT {iter:Expr}{body:List Stmt}{wi:TI}{g:TG}{tb:TS}{pos:Pos}(hp:PassesOwn (model X.prog X.w) X.A X.env X.xe)(hc:X.calm=true)(hi:PI X tg iter wi)(hg:PG X tg g)(hb:PSs X body tb)
  (hs:∀x,foldedSetIterable iter X.env x=pure x:=by intro _;rfl):PS X (.For tg iter body [] pos) (vc wi g tb):=by
 intro pins s σ H D I h
 refine wpAny_For (thn (hi pins s σ H _ I h) fun v s1 h1=>thn h1 fun itv s2 h2=>?_) hs
 obtain ⟨it,fp,tn,J,H2,e,I2,T,st2,f2,W,⟨m0,w0⟩,turn⟩:=h2
 subst e
 have stat:∀{H':Hp},(∀b∈fp,H' b=none)->∀b∈fp,g7 X pins H' b:=fun hn b hb=>⟨hn b hb,(f2 b hb).2⟩
 refine codeAny_forLoop_any (fun n s'=>∃i σ' H',Inv X pins σ' H' s'/\tn i s'.heap/\(∀b∈fp,H' b=none)/\W i n σ' H') ?_ m0 ⟨0,σ,H2,I2,st2,fun b hb=>(f2 b hb).1,w0⟩
 rintro n s3 ⟨i,σ3,H3,I3,st3,fr3,w3⟩
 rcases turn i n σ3 H3 w3 with ⟨stop,qn⟩ | ⟨go,N,hN,step⟩
 ·refine wpAny_passesOwn hp (thn (T.done X rfl rfl rfl hc i pins s3 σ3 H3 X.xe I3 (stat fr3) st3 stop) fun r s4 ⟨hr,I4⟩=>?_)
  subst hr
  exact wpAny_execs_nil ⟨σ3,H3,I4,qn⟩
 ·refine wpAny_passesOwn hp (thn (T.item X rfl rfl rfl hc i pins s3 σ3 H3 X.xe I3 (stat fr3) st3 go) fun r s4 ⟨u,hr,h4⟩=>?_)
  subst hr
  refine wpAny_passesOwn hp (thn h4 fun _ s5 ⟨x,H5,I5,r5,y5,st5,fr5⟩=>?_)
  have I5':=I5.pinned (stat fr5) (T.obj _ _ st5)
  refine wpAny_passesOwn hp (thn (hg _ s5 σ3 H5 x u _ I5' r5 (step x H5 y5)) fun _ s6 ⟨σ6,H6,I6,q6⟩=>?_)
  refine wpAny_passesOwn hp (thn (hb _ s6 σ6 H6 _ I6 q6) fun f s7 q7=>?_)
  have again:∀{σ7:St} {H7:Hp},Inv X (pins++iS fp s5.heap) σ7 H7 s7->N σ7 H7->∃m,m < n/\∃i σ' H',Inv X pins σ' H' s7/\tn i s7.heap/\(∀b∈fp,H' b=none)/\W i m σ' H':=fun {σ7 H7} I7 n7=>by
   obtain ⟨m',hm,w7⟩:=hN σ7 H7 n7
   refine ⟨m',hm,i+1,σ7,H7,I7.unpinned,T.keep _ _ _ st5 fun b hb o e=>(I7.pin (b,o) (List.mem_append_right _ (List.mem_append_right _ (dU hb e)))).1,fun b hb=>?_,w7⟩
   obtain ⟨o,e,d⟩:=T.obj _ _ st5 b hb
   exact (I7.pin (b,o) (List.mem_append_right _ (List.mem_append_right _ (dU hb e)))).2.1
  cases f with
  | next=>obtain ⟨σ7,H7,I7,n7⟩:=q7;exact again I7 n7
  | cont=>obtain ⟨σ7,H7,I7,n7⟩:=q7;exact again I7 n7
  | brk=>obtain ⟨σ7,H7,I7,q7⟩:=q7;exact ⟨σ7,H7,I7.unpinned,q7⟩
  | ret v=>obtain ⟨x7,σ7,H7,I7,r7,q7⟩:=q7;exact ⟨x7,σ7,H7,I7.unpinned,r7,q7⟩
end
theorem nS {lo:Int}{n:Nat}{g:TG}{tb:TS}{D:iD}{σ:St}{H:Hp}(Pv:Nat->St->Hp->Prop)(h0:Pv 0 σ H)
  (hs:∀i σ H,i < n->Pv i σ H->g (.int (lo+i)) σ H fun σ2 H2=>tb {D with nx:=Pv (i+1),ct:=Pv (i+1),bk:=D.nx} σ2 H2) (hd:∀σ H,Pv n σ H->D.nx σ H) :
  ∃W:Nat->Nat->St->Hp->Prop,(∃m,W 0 m σ H)/\∀i m σ H,W i m σ H->
   ((Itr lo n).stop i H/\D.nx σ H)\/((Itr lo n).go i H/\∃N:St->Hp->Prop,(∀σ' H',N σ' H'->∃m',m' < m/\W (i+1) m' σ' H')/\∀x H',(Itr lo n).yld i H x H'->g x σ H' fun σ2 H2=>tb {D with nx:=N,ct:=N,bk:=D.nx} σ2 H2):=by
 refine ⟨fun i m σ H=>m=n - i/\i<=n/\Pv i σ H,⟨n,by simp,Nat.zero_le _,h0⟩,?_⟩
 rintro i m σ H ⟨rfl,hi,p⟩
 by_cases hlt:i < n
 ·refine .inr ⟨hlt,Pv (i+1),fun σ' H' p'=>⟨n - (i+1),by omega,rfl,hlt,p'⟩,fun x H' y=>?_⟩
  obtain ⟨e,y⟩:=y
  subst e y
  exact hs i σ _ hlt p
 ·have e:i=n:=by omega
  subst e
  exact .inl ⟨Nat.le_refl _,hd σ H p⟩
noncomputable abbrev R2:=V->V->Hp->VK->Prop
def OpR (X:Cx)(f:Value->Value->Sem Value)(r:R2):Prop:=
 ∀(pins:List (Addr×Obj)) (s:Shared) (σ:St) (H:Hp) (x y:V) (v u:Value) (Q:VK),Inv X pins σ H s->aY x v->aY y u->r x y H Q->
  wpAny (model X.prog X.w) X.A (f v u) (EP X pins σ Q) X.xe s
def UnR (X:Cx)(f:Value->Sem Value)(r:V->Hp->VK->Prop):Prop:=
 ∀(pins:List (Addr×Obj)) (s:Shared) (σ:St) (H:Hp) (x:V) (v:Value) (Q:VK),Inv X pins σ H s->aY x v->r x H Q->
  wpAny (model X.prog X.w) X.A (f v) (EP X pins σ Q) X.xe s
def bW (X:Cx)(f:Value)(r:List V->Hp->VK->Prop):Prop:=
 ∀(pins:List (Addr×Obj)) (s:Shared) (σ:St) (H:Hp) (xs:List V) (us:List Value) (Q:VK),Inv X pins σ H s->aM xs us->r xs H Q->
  wpAny (model X.prog X.w) X.A (call f us) (EP X pins σ Q) X.xe s
noncomputable def tOp (r:R2)(ta tb:TE):TE:=fun σ H Q=>ta σ H fun x H1=>tb σ H1 fun y H2=>r x y H2 Q
noncomputable def tUn (r:V->Hp->VK->Prop)(ta:TE):TE:=fun σ H Q=>ta σ H fun x H1=>r x H1 Q
noncomputable def rI (C:Int->Int->Prop)(g:Int->Int->V):R2:=fun x y H Q=>∃i j,x=.int i/\y=.int j/\C i j/\Q (g i j) H
noncomputable def rI0 (g:Int->Int->V):R2:=fun x y H Q=>∃i j,x=.int i/\y=.int j/\Q (g i j) H
noncomputable def rU (g:Int->V):V->Hp->VK->Prop:=fun x H Q=>∃i,x=.int i/\Q (g i) H
section
variable {X:Cx}{a b c:Expr}{ta tb tc:TE}{pos:Pos}
theorem tU (ha:PE X a ta)(hb:PE X b tb){pins:List (Addr×Obj)}{s:Shared}{σ:St}{H:Hp}{R:V->V->Hp->Prop}(I:Inv X pins σ H s)
  (h:ta σ H fun x H1=>tb σ H1 fun y H2=>R x y H2) {Q:Value->Shared->Prop} {f:Value->Value->Sem Value}
  (hf:∀v u s2 x y H2,Inv X pins σ H2 s2->aY x v->aY y u->R x y H2->wpAny (model X.prog X.w) X.A (f v u) Q X.xe s2) :
  wpAny (model X.prog X.w) X.A (eval a X.env) (fun v s₁=>wpAny (model X.prog X.w) X.A (eval b X.env) (fun u s₂=>wpAny (model X.prog X.w) X.A (f v u) Q X.xe s₂) X.xe s₁) X.xe s:=by
 refine thn (ha pins s σ H _ I h) fun v s1 ⟨x,H1,I1,r1,q1⟩=>?_
 refine thn (hb pins s1 σ H1 _ I1 q1) fun u s2 ⟨y,H2,I2,r2,q2⟩=>?_
 exact hf v u s2 x y H2 I2 r1 r2 q2
theorem bj {op:Operator}{r:R2}(ho:OpR X (binaryOp op) r)(ha:PE X a ta)(hb:PE X b tb):PE X (.BinOp a op b pos) (tOp r ta tb):=by
 intro pins s σ H Q I h
 exact wpAny_BinOp (tU ha hb I h fun v u s2 x y H2 I2 rx ry q=>ho pins s2 σ H2 x y v u Q I2 rx ry q)
theorem sV {op:UnaryOp}{r:V->Hp->VK->Prop}(ho:UnR X (unaryOp op) r)(ha:PE X a ta):PE X (.UnaryOp op a pos) (tUn r ta):=by
 intro pins s σ H Q I h
 exact UnaryOp_ (thn (ha pins s σ H _ I h) fun v s1 ⟨x,H1,I1,r1,q1⟩=>ho pins s1 σ H1 x v Q I1 r1 q1)
theorem opI {f:Value->Value->Sem Value}{C:Int->Int->Prop}{g:Int->Int->Int}
  (rule:∀(i j:Int) (t u:Tok) (s:Shared) (Q:Value->Shared->Prop) (E:Value->Shared->Prop),C i j->Q (.int (g i j) s.toks) {s with toks:=s.toks+1}->wpAny (model X.prog X.w) X.A (f (.int i t) (.int j u)) Q E s) :
  OpR X f (rI C fun i j=>.int (g i j)):=by
 intro pins s σ H x y v u Q I rx ry h
 obtain ⟨i,j,rfl,rfl,hc,q⟩:=h
 obtain ⟨t,rfl⟩:=rx
 obtain ⟨t',rfl⟩:=ry
 exact rule i j t t' s _ _ hc ⟨.int (g i j),H,I.tok _,⟨_,rfl⟩,q⟩
theorem vd {f:Value->Value->Sem Value}{g:Int->Int->Int}
  (rule:∀(i j:Int) (t u:Tok) (s:Shared) (Q:Value->Shared->Prop) (E:Value->Shared->Prop),Q (.int (g i j) s.toks) {s with toks:=s.toks+1}->wpAny (model X.prog X.w) X.A (f (.int i t) (.int j u)) Q E s) :
  OpR X f (rI0 fun i j=>.int (g i j)):=by
 intro pins s σ H x y v u Q I rx ry h
 obtain ⟨i,j,rfl,rfl,q⟩:=h
 obtain ⟨t,rfl⟩:=rx
 obtain ⟨t',rfl⟩:=ry
 exact rule i j t t' s _ _ ⟨.int (g i j),H,I.tok _,⟨_,rfl⟩,q⟩
theorem tV {f:Value->Value->Sem Value}{g:Int->Int->Bool}
  (rule:∀(i j:Int) (t u:Tok) (s:Shared) (Q:Value->Shared->Prop) (E:Value->Shared->Prop),Q (.bool (g i j)) s->wpAny (model X.prog X.w) X.A (f (.int i t) (.int j u)) Q E s) :
  OpR X f (rI0 fun i j=>.bl (g i j)):=by
 intro pins s σ H x y v u Q I rx ry h
 obtain ⟨i,j,rfl,rfl,q⟩:=h
 obtain ⟨t,rfl⟩:=rx
 obtain ⟨t',rfl⟩:=ry
 exact rule i j t t' s _ _ ⟨.bl (g i j),H,I,rfl,q⟩
def oW (i j:Int):Prop:=0 < j/\j < 1073741824
def tW (i j:Int):Prop:=0<=j/\j<=1000000/\i.natAbs < 2 ^ 64
def iU (i j:Int):Prop:=(-(2 ^ 64) < i/\i < 2 ^ 64)\/(-(2 ^ 64) < j/\j < 2 ^ 64)
theorem iU.ok {i j:Int}(h:iU i j):IntMulOk i j:=by
 rcases h with ⟨h1,h2⟩ | ⟨h1,h2⟩
 ·exact .of_left (intBits_le_64 h1 h2)
 ·exact .of_right (intBits_le_64 h1 h2)
theorem tX:OpR X (binaryOp .Add) (rI0 fun i j=>.int (i+j)):=vd fun _ _ _ _ _ _ _ q=>add_int q
theorem tY:OpR X (binaryOp .Sub) (rI0 fun i j=>.int (i - j)):=vd fun _ _ _ _ _ _ _ q=>sub_int q
theorem lW:OpR X (binaryOp .Mult) (rI iU fun i j=>.int (i * j)):=opI fun _ _ _ _ _ _ _ hc q=>mul_int q hc.ok
theorem qH:OpR X (binaryOp .FloorDiv) (rI oW fun i j=>.int (i / j)):=opI fun i j _ _ _ _ _ hc q=>by
 have h1:(0:Int) < j:=hc.1
 have h2:j < 1073741824:=hc.2
 exact floordiv_int (by omega) (by rw [Int.fdiv_eq_ediv_of_nonneg i (by omega)];exact q) (.inl (PyProof.noPylong_small (by omega)))
theorem oX:OpR X (binaryOp .Mod) (rI (fun _ j=>0 < j) fun i j=>.int (i % j)):=opI fun i j _ _ _ _ _ hc q=>by
 have h1:(0:Int) < j:=hc
 exact mod_int' (by omega) (by rw [Int.fmod_eq_emod_of_nonneg i (by omega)];exact q)
theorem tZ:OpR X (binaryOp .Pow) (rI tW fun i j=>.int (i ^ j.toNat)):=opI fun _ _ _ _ _ _ _ hc q=>pow_int_small hc.1 hc.2.1 hc.2.2 q
theorem unI {f:Value->Sem Value}{g:Int->Int}
  (rule:∀(i:Int) (t:Tok) (s:Shared) (Q:Value->Shared->Prop) (E:Value->Shared->Prop),Q (.int (g i) s.toks) {s with toks:=s.toks+1}->wpAny (model X.prog X.w) X.A (f (.int i t)) Q E s) :
  UnR X f (rU fun i=>.int (g i)):=by
 intro pins s σ H x v Q I rx h
 obtain ⟨i,rfl,q⟩:=h
 obtain ⟨t,rfl⟩:=rx
 exact rule i t s _ _ ⟨.int (g i),H,I.tok _,⟨_,rfl⟩,q⟩
theorem ua:UnR X (unaryOp .USub) (rU fun i=>.int (-i)):=unI fun _ _ _ _ _ q=>neg_int q
end
noncomputable def jD:V->V->Bool
 | .non,.non=>true | .non,.int _=>true | .int _,.non=>true | .non,.bl _=>true | .bl _,.non=>true | .non,.str _=>true | .str _,.non=>true
 | .int _,.int _=>true | .bl _,.bl _=>true | .str _,.str _=>true | .byt _,.byt _=>true
 | .int _,.str _=>true | .str _,.int _=>true | .bl _,.str _=>true | .str _,.bl _=>true
 | _,_=>false
noncomputable def rEq:R2:=fun x y H Q=>jD x y=true/\Q (.bl (decide (x=y))) H
noncomputable def rNe:R2:=fun x y H Q=>jD x y=true/\Q (.bl (!decide (x=y))) H
theorem mM {i j:Int}:decide (V.int i=V.int j)=(i == j):=by
 rw [Bool.eq_iff_iff]
 simp
theorem oY {i j:Bool}:decide (V.bl i=V.bl j)=(i == j):=by
 rw [Bool.eq_iff_iff]
 simp
theorem mO {i j:Str}:decide (V.str i=V.str j)=(i == j):=by
 rw [Bool.eq_iff_iff]
 simp
theorem mP {i j:Array UInt8}:decide (V.byt i=V.byt j)=(i.toList == j.toList):=by
 rw [Bool.eq_iff_iff]
 cases i
 cases j
 simp
section
variable {X:Cx}{a b c:Expr}{ta tb tc:TE}{pos:Pos}
theorem aV {pins:List (Addr×Obj)}{σ:St}{H:Hp}{s:Shared}{Q:VK}{k k':Bool}(I:Inv X pins σ H s)(q:Q (.bl k) H)(e:k=k'):EP X pins σ Q (.bool k') s:=by
 subst e
 exact ⟨.bl k,H,I,rfl,q⟩
theorem sW:OpR X (compareOp .Eq) rEq:=by
 intro pins s σ H x y v u Q I rx ry h
 obtain ⟨hs,q⟩:=h
 cases x with
 | non=>
  cases rx
  cases y with
  | non=>cases ry;exact PySem.EqNone.eq_none_none (aV I q (by simp))
  | bl j=>cases ry;exact PySem.EqNone.eq_none_bool (aV I q (by simp))
  | int j=>obtain ⟨t',rfl⟩:=ry;exact PySem.EqNone.eq_none_int (aV I q (by simp))
  | str j=>obtain ⟨t',rfl⟩:=ry;exact PySem.EqNone.eq_none_str (aV I q (by simp))
  | _=>exact absurd (show false=true from hs) Bool.false_ne_true
 | bl i=>
  cases rx
  cases y with
  | non=>cases ry;exact PySem.EqNone.eq_bool_none (aV I q (by simp))
  | bl j=>cases ry;exact eq_bool (aV I q oY)
  | str j=>obtain ⟨t',rfl⟩:=ry;exact PySem.EqMixed.eq_bool_str (aV I q (by simp))
  | _=>exact absurd (show false=true from hs) Bool.false_ne_true
 | int i=>
  obtain ⟨t,rfl⟩:=rx
  cases y with
  | non=>cases ry;exact PySem.EqNone.eq_int_none (aV I q (by simp))
  | int j=>obtain ⟨t',rfl⟩:=ry;exact eq_int (aV I q mM)
  | str j=>obtain ⟨t',rfl⟩:=ry;exact PySem.EqMixed.eq_int_str (aV I q (by simp))
  | _=>exact absurd (show false=true from hs) Bool.false_ne_true
 | str i=>
  obtain ⟨t,rfl⟩:=rx
  cases y with
  | non=>cases ry;exact PySem.EqNone.eq_str_none (aV I q (by simp))
  | bl j=>cases ry;exact PySem.EqMixed.eq_str_bool (aV I q (by simp))
  | int j=>obtain ⟨t',rfl⟩:=ry;exact PySem.EqMixed.eq_str_int (aV I q (by simp))
  | str j=>obtain ⟨t',rfl⟩:=ry;exact eq_str (aV I q mO)
  | _=>exact absurd (show false=true from hs) Bool.false_ne_true
 | byt i=>
  obtain ⟨t,rfl⟩:=rx
  cases y with
  | byt j=>obtain ⟨t',rfl⟩:=ry;exact W.eq_bytes (aV I q mP)
  | _=>exact absurd (show false=true from hs) Bool.false_ne_true
 | _=>cases y<;>exact absurd (show false=true from hs) Bool.false_ne_true
theorem ve:OpR X (compareOp .NotEq) rNe:=by
 intro pins s σ H x y v u Q I rx ry h
 obtain ⟨hs,q⟩:=h
 cases x with
 | non=>
  cases rx
  cases y with
  | non=>cases ry;exact PySem.EqNone.ne_none_none (aV I q (by simp))
  | bl j=>cases ry;exact PySem.EqNone.ne_none_bool (aV I q (by simp))
  | int j=>obtain ⟨t',rfl⟩:=ry;exact PySem.EqNone.ne_none_int (aV I q (by simp))
  | str j=>obtain ⟨t',rfl⟩:=ry;exact PySem.EqNone.ne_none_str (aV I q (by simp))
  | _=>exact absurd (show false=true from hs) Bool.false_ne_true
 | bl i=>
  cases rx
  cases y with
  | non=>cases ry;exact PySem.EqNone.ne_bool_none (aV I q (by simp))
  | bl j=>cases ry;exact ne_bool (aV I q (congrArg not oY))
  | str j=>obtain ⟨t',rfl⟩:=ry;exact PySem.EqMixed.ne_bool_str (aV I q (by simp))
  | _=>exact absurd (show false=true from hs) Bool.false_ne_true
 | int i=>
  obtain ⟨t,rfl⟩:=rx
  cases y with
  | non=>cases ry;exact PySem.EqNone.ne_int_none (aV I q (by simp))
  | int j=>obtain ⟨t',rfl⟩:=ry;exact ne_int (aV I q (congrArg not mM))
  | str j=>obtain ⟨t',rfl⟩:=ry;exact PySem.EqMixed.ne_int_str (aV I q (by simp))
  | _=>exact absurd (show false=true from hs) Bool.false_ne_true
 | str i=>
  obtain ⟨t,rfl⟩:=rx
  cases y with
  | non=>cases ry;exact PySem.EqNone.ne_str_none (aV I q (by simp))
  | bl j=>cases ry;exact PySem.EqMixed.ne_str_bool (aV I q (by simp))
  | int j=>obtain ⟨t',rfl⟩:=ry;exact PySem.EqMixed.ne_str_int (aV I q (by simp))
  | str j=>obtain ⟨t',rfl⟩:=ry;exact ne_str (aV I q (congrArg not mO))
  | _=>exact absurd (show false=true from hs) Bool.false_ne_true
 | byt i=>
  obtain ⟨t,rfl⟩:=rx
  cases y with
  | byt j=>obtain ⟨t',rfl⟩:=ry;exact W.ne_bytes (aV I q (congrArg not mP))
  | _=>exact absurd (show false=true from hs) Bool.false_ne_true
 | _=>cases y<;>exact absurd (show false=true from hs) Bool.false_ne_true
theorem sX:OpR X (compareOp .Lt) (rI0 fun i j=>.bl (decide (i < j))):=tV fun _ _ _ _ _ _ _ q=>lt_int q
theorem vf:OpR X (compareOp .LtE) (rI0 fun i j=>.bl (decide (i<=j))):=tV fun _ _ _ _ _ _ _ q=>le_int q
theorem sY:OpR X (compareOp .GtE) (rI0 fun i j=>.bl (decide (j<=i))):=tV fun _ _ _ _ _ _ _ q=>ge_int q
theorem bD (b:Expr){op:CmpOp}(h:op≠.In:=by decide)(h2:op≠.NotIn:=by decide):behindInMarks op b=false:=by
 have e1:(op == CmpOp.In)=false:=by cases op<;>first | rfl | exact absurd rfl h
 have e2:(op == CmpOp.NotIn)=false:=by cases op<;>first | rfl | exact absurd rfl h2
 cases b<;>simp [behindInMarks,e1,e2]
theorem bE {op:CmpOp}{r:R2}(ho:OpR X (compareOp op) r)(ha:PE X a ta)(hb:PE X b tb)(hm:behindInMarks op b=false):PE X (.Compare a [op] [b] pos) (tOp r ta tb):=by
 intro pins s σ H Q I h
 exact wpAny_Compare1 (tU ha hb I h fun v u s2 x y H2 I2 rx ry q=>ho pins s2 σ H2 x y v u Q I2 rx ry q) hm
noncomputable def iV (t:TE):TT:=fun σ H Q=>t σ H fun x H'=>∃k,x=.bl k/\Q k H'
theorem gA {op:CmpOp}{r:R2}(ho:OpR X (compareOp op) r)(ha:PE X a ta)(hb:PE X b tb)(hm:behindInMarks op b=false):PT X (.Compare a [op] [b] pos) (iV (tOp r ta tb)):=by
 intro pins s σ H Q I h
 refine wpAny_isTrue_Compare1 (thn (ha pins s σ H _ I h) fun v s1 ⟨x,H1,I1,r1,q1⟩=>thn (hb pins s1 σ H1 _ I1 q1) fun u s2 ⟨y,H2,I2,r2,q2⟩=>
  thn (ho pins s2 σ H2 x y v u _ I2 r1 r2 q2) fun c s3 ⟨z,H3,I3,r3,k,e,q3⟩=>?_) hm
 subst e
 cases r3
 exact wpAny_truthy_bool ⟨H3,I3,q3⟩
theorem iW:(sizeLine:Nat) < 2 ^ 63:=by rw [sizeLine_eq];decide
theorem mQ {x:V}{us:List Value}(r:aM [x] us):∃u,us=[u]/\aY x u:=by
 cases r with
 | cons r1 r2=>cases r2;exact ⟨_,rfl,r1⟩
theorem oZ {x y:V}{us:List Value}(r:aM [x,y] us):∃u w',us=[u,w']/\aY x u/\aY y w':=by
 cases r with
 | cons r1 r2=>
  cases r2 with
  | cons r3 r4=>cases r4;exact ⟨_,_,rfl,r1,r3⟩
theorem nT:bW X (.type "int") (fun xs H Q=>(∃i,xs=[.int i]/\Q (.int i) H)\/∃k,xs=[.bl k]/\Q (.int (if k then 1 else 0)) H):=by
 intro pins s σ H xs us Q I r h
 rcases h with ⟨i,rfl,q⟩ | ⟨k,rfl,q⟩
 ·obtain ⟨u,rfl,t,rfl⟩:=mQ r
  exact call_int_int ⟨.int i,H,I,⟨_,rfl⟩,q⟩
 ·obtain ⟨u,rfl,r1⟩:=mQ r
  cases r1
  exact call_int_bool ⟨.int (if k then 1 else 0),H,I.tok _,⟨_,rfl⟩,q⟩
end
structure lX (h:Heap)(x dx C:Addr)(mA:Str->Option Value):Prop where
 obj:h.get? x=some (W.instObj C dx)
 ns:h.Ns1 dx mA
 ne:dx≠x
theorem nU {h:Heap}{dx:Addr}{mA:Str->Option Value}(n:h.Ns1 dx mA):∃od,h.get? dx=some od/\∀name,W.lookIn name od=some (mA name):=by
 obtain ⟨o,es,ep,ho,hd,hk,_,hm⟩:=n
 refine ⟨o,ho,fun name=>?_⟩
 have e:=hm name
 unfold nsFind findBy at e
 rw [←Array.find?_toList] at e
 unfold W.lookIn
 rw [hd]
 dsimp only
 split
 ·rename_i y q
  rw [q] at e
  exact congrArg some e
 ·rename_i q
  rw [q] at e
  have a:es.toList.any (·.refKey)=false:=by
   rw [List.any_eq_false]
   intro y hy
   obtain ⟨z,t,hkey⟩:=hk y (Array.mem_toList_iff.mp hy)
   simp [DictEntry.refKey,hkey]
  have a':¬es.toList.any (·.refKey)=true:=by rw [a];exact Bool.false_ne_true
  rw [if_neg a']
  exact congrArg some e
theorem lX.look {h:Heap}{x dx C:Addr}{mA:Str->Option Value}(I:lX h x dx C mA):∃od,W.InstAt h x (W.instObj C dx) C (some od)/\∀name,W.lookIn name od=some (mA name):=
 let ⟨od,ho,hl⟩:=nU I.ns
 ⟨od,⟨I.obj,rfl,rfl,ho⟩,hl⟩
section
variable {prog:Program}{w:World}{A:Around}{E:Value->Shared->Prop}{s:Shared}{K:JA}{x dx C f:Addr}{mA:Str->Option Value}{name:Str}{v:Value}
theorem qI {expr:Bool}{Q:Value->Shared->Prop}(X:K.In s.heap)(I:lX s.heap x dx C mA)(hg:W.plainGet K C name=true)(hh:W.hasDictIn K C=true)
  (ha:W.findIn K (.ref C) name=some none) (hv:mA name=some v) (hv':W.handedIn v=true) (h:Q v {s with toks:=s.toks+1}) :
  wpAny (model prog w) A (getAttr (.ref x) name expr) Q E s:=by
 obtain ⟨od,J,hl⟩:=I.look
 exact W.get_value X J (W.plainGet_of hg).1 (W.findObj_own hh ha rfl (by rw [hl,hv])) hv' h
theorem o5 {pl:Sem Bool}{Q:Value×List Value->Shared->Prop}(X:K.In s.heap)(I:lX s.heap x dx C mA)(hg:W.plainGet K C name=true)
  (hf:W.findIn K (.ref C) name=some (some (.ref f))) (ht:W.isFn K (.ref f)=true) (hv:mA name=none) (h:Q (.ref f,[.ref x]) s) :
  wpAny (model prog w) A (getMethod (.ref x) name pl) Q E s:=by
 obtain ⟨od,J,hl⟩:=I.look
 exact W.method_fn X J (W.plainGet_of hg).1 (W.plainGet_of hg).2 hf (beq_iff_eq.mp ht) (by show (W.lookIn name od).map (·.isSome)=some false;rw [hl,hv];rfl) h
theorem qJ {ns:List Str}{Q:Unit->Shared->Prop}(X:K.In s.heap)(I:lX s.heap x dx C mA)
  (hs:W.findIn K (.ref C) "__setattr__"=some (some (.builtin "object.__setattr__"))) (hp:W.plainOver K C=true) (ht:W.takerIn K C name=some none) (hh:W.hasDictIn K C=true)
  (hw:PySem.Within mA ns) (hsz:ns.length<=sizeLine)
  (h:∀h',lX h' x dx C (fun y=>if y=name then some v else mA y)->Heap.SameBut dx s.heap h'->Q () {s with heap:=h',toks:=s.toks+2}) :
  wpAny (model prog w) A (setAttr (.ref x) name v) Q E s:=by
 obtain ⟨od,J,hl⟩:=I.look
 refine W.set_plain X J hs (W.osa_open (s:={s with toks:=s.toks+1}) (r:=none) X J hp ht fun b=>?_)
 obtain ⟨cd,hc,hd'⟩:=W.any_some hh
 have hx:s.heap.get? x=some ⟨.ref C,some dx,.plain,#[]⟩:=I.obj
 refine wpAny_bind (wpAny_pure (wpAny_bind (wpAny_bind (wpAny_loadPart hx (wpAny_bind (W.Looks.here (s:={s with toks:=s.toks+1}) (W.looks_clsIn X hc) ?_))))))
 rw [hd']
 refine wpAny_pure (a:=some dx) (wpAny_bind (wpAny_pure (wpAny_bind ?_)))
 refine wpAny_nsSet1 (s:={s with toks:=s.toks+1}) I.ns fun h' hn2 hs2=>?_
 obtain ⟨oD,esD,epD,hoD,hdD,hcD⟩:=hn2.count (PySem.Within.cons name v hw)
 refine wpAny_bind (wpAny_lookBehind hoD (by rw [hdD];exact pastItsLine_dict (Nat.le_trans hcD (by rw [List.length_cons];omega))) ?_)
 exact wpAny_pure (h _ ⟨(hs2.2 _ (Ne.symm I.ne)).trans I.obj,hn2,I.ne⟩ hs2)
theorem o6 {R:Result->Shared->Prop}{vs:List Value}{kw:List (Str×Value)}(X:K.In s.heap)(hm:W.makesIn K C=true)
  (hi:W.findIn K (.ref C) "__init__"=some (some (.ref f))) (hf:W.typeIn K (.ref f)=some (.type "function"))
  (h:codeAny (model prog w) (A.under (.builtin "type.__call__" ⟨.ref C::vs,kw⟩)) (.call (.ref f) ⟨.ref (s.heap.objs.size+1)::vs,kw⟩) (W.InitBack (s.heap.objs.size+1) R)
   {s with heap:=(s.heap.push W.emptyDict).push (W.instObj C s.heap.objs.size)}) :
  codeAny (model prog w) A (.call (.ref C) ⟨vs,kw⟩) R s:=by
 obtain ⟨hh,g,d,t,os⟩:=s
 exact W.make_core (W.makes_of X hm) (W.looks_findIn X hi) (fun self=>W.bind_fn X self hf) (.inl rfl) h
end
noncomputable def bQ (f:Str)(v:V):List (Str×V)->List (Str×V)
 | []=>[(f,v)]
 | (g,x)::r=>if g=f then (g,v)::r else (g,x)::bQ f v r
theorem ij (f g:Str)(v:V):∀fs:List (Str×V),(bQ f v fs).lookup g=if g=f then some v else fs.lookup g
 | []=>by
  show List.lookup g [(f,v)]=_
  by_cases h:g=f
  ·have hb:(g == f)=true:=beq_iff_eq.mpr h
   simp only [List.lookup,hb,if_pos h]
  ·have hb:(g == f)=false:=beq_eq_false_iff_ne.mpr h
   simp only [List.lookup,hb,if_neg h]
 | (k,x)::r=>by
  have ih:=ij f g v r
  rw [show bQ f v ((k,x)::r)=(if k=f then (k,v)::r else (k,x)::bQ f v r) from rfl]
  by_cases hk:k=f
  ·rw [if_pos hk]
   by_cases h:g=k
   ·have hb:(g == k)=true:=beq_iff_eq.mpr h
    simp only [List.lookup,hb,if_pos (h.trans hk)]
   ·have hb:(g == k)=false:=beq_eq_false_iff_ne.mpr h
    simp only [List.lookup,hb,if_neg (fun e:g=f=>h (e.trans hk.symm))]
  ·rw [if_neg hk]
   by_cases h:g=k
   ·have hb:(g == k)=true:=beq_iff_eq.mpr h
    simp only [List.lookup,hb,if_neg (fun e:g=f=>hk (h.symm.trans e))]
   ·have hb:(g == k)=false:=beq_eq_false_iff_ne.mpr h
    simp only [List.lookup,hb]
    exact ih
theorem g8 (f:Str)(v:V):∀fs:List (Str×V),f∈(bQ f v fs).map (·.1)/\∀g,g∈fs.map (·.1)->g∈(bQ f v fs).map (·.1)
 | []=>⟨by simp [bQ],fun g h=>by simp at h⟩
 | (k,x)::r=>by
  obtain ⟨i1,i2⟩:=g8 f v r
  rw [show bQ f v ((k,x)::r)=(if k=f then (k,v)::r else (k,x)::bQ f v r) from rfl]
  by_cases hk:k=f
  ·rw [if_pos hk]
   subst hk
   exact ⟨by simp,fun g h=>by simpa using h⟩
  ·rw [if_neg hk]
   refine ⟨?_,fun g h=>?_⟩
   ·rw [List.map_cons]
    exact List.mem_cons_of_mem _ i1
   ·rw [List.map_cons] at h ⊢
    rcases List.mem_cons.mp h with e | e
    ·exact List.mem_cons.mpr (.inl e)
    ·exact List.mem_cons_of_mem _ (i2 g e)
theorem ik (f:Str)(v:V):∀fs:List (Str×V),(bQ f v fs).length<=fs.length+1
 | []=>by simp [bQ]
 | (k,x)::r=>by
  have ih:=ik f v r
  rw [show bQ f v ((k,x)::r)=(if k=f then (k,v)::r else (k,x)::bQ f v r) from rfl]
  by_cases hk:k=f
  ·rw [if_pos hk,List.length_cons,List.length_cons];omega
  ·rw [if_neg hk,List.length_cons,List.length_cons];omega
theorem jC.some_of {v:V}{o:Option Value}(r:jC (some v) o):∃u,o=some u/\aY v u:=by
 cases o with
 | none=>exact (show False from r).elim
 | some u=>exact ⟨u,rfl,r⟩
theorem jC.none_of {o:Option Value}(r:jC none o):o=none:=by
 cases o with
 | none=>rfl
 | some u=>exact (show False from r).elim
theorem nV {v:V}{u:Value}(r:aY v u):W.handedIn u=true:=by
 cases v with
 | non=>cases (show u=Value.none from r);rfl
 | bl b=>cases (show u=Value.bool b from r);rfl
 | int i=>obtain ⟨t,e⟩:=(show ∃t,u=Value.int i t from r);cases e;rfl
 | str x=>obtain ⟨t,e⟩:=(show ∃t,u=Value.str x t from r);cases e;rfl
 | byt b=>obtain ⟨t,e⟩:=(show ∃t,u=Value.bytes b t from r);cases e;rfl
 | flt b=>obtain ⟨t,e⟩:=(show ∃t,u=Value.float b t from r);cases e;rfl
 | ref a=>cases (show u=Value.ref a from r);rfl
 | ty n=>cases (show u=Value.type n from r);rfl
section
variable {P:Program}{w:World}{H H':Hp}{h h':Heap}{a C dx:Addr}{fs fs':List (Str×V)}
theorem ko (hok:HOk P w H h)(e:H a=some (.ins C dx fs)):∃mA,lX h a dx C mA/\(∀f,jC (fs.lookup f) (mA f))/\PySem.Within mA (fs.map (·.1))/\fs.length<=1000/\H dx=some (.own a):=by
 obtain ⟨d,z,ne,ob,mA,n,r,q⟩:=(show cw P w H h a (.ins C dx fs) from hok a _ e)
 exact ⟨mA,⟨ob,n,ne⟩,r,q,z,d⟩
end
structure Cls (K:JA)(C:Addr):Prop where
 pg:W.plainGet K C Str.empty=true
 hd:W.hasDictIn K C=true
 po:W.plainOver K C=true
 sa:W.findIn K (.ref C) "__setattr__"=some (some (.builtin "object.__setattr__"))
theorem Cls.get {K:JA}{C:Addr}(c:Cls K C)(f:Str):W.plainGet K C f=true:=c.pg
def bI (K:JA)(C:Addr)(f:Str):Prop:=W.findIn K (.ref C) f=some none
theorem bI.taker {K:JA}{C:Addr}{f:Str}(n:bI K C f):W.takerIn K C f=some none:=by
 unfold W.takerIn
 rw [show W.findIn K (.ref C) f=some none from n]
 rfl
structure lY (K:JA)(C:Addr)(m:Str)(f:Addr):Prop where
 at_:W.findIn K (.ref C) m=some (some (.ref f))
 fn:W.isFn K (.ref f)=true
 kp:W.keepIn K (.ref f)=true
section
variable {X:Cx}{pins:List (Addr×Obj)}{σ:St}{H:Hp}{s:Shared}{a C dx:Addr}{fs:List (Str×V)}{f:Str}{v:V}{A:Around}{E:Value->Shared->Prop}
theorem lZ {b:Bool}{Q:Value->Shared->Prop}(I:Inv X pins σ H s)(e:H a=some (.ins C dx fs))(c:Cls X.K C)(n:bI X.K C f)(l:fs.lookup f=some v)
  (h:∀u s',Inv X pins σ H s'->aY v u->Q u s'):wpAny (model X.prog X.w) A (getAttr (.ref a) f b) Q E s:=by
 obtain ⟨mA,O,r,_,_,_⟩:=ko I.hok e
 obtain ⟨u,hu,ru⟩:=jC.some_of (v:=v) (o:=mA f) (by rw [←l];exact r f)
 exact qI I.kIn O (c.get f) c.hd n hu (nV ru) (h u _ (I.tok _) ru)
theorem gg {m:Str}{g:Addr}{pl:Sem Bool}{Q:Value×List Value->Shared->Prop}(I:Inv X pins σ H s)(e:H a=some (.ins C dx fs))(c:Cls X.K C)(k:lY X.K C m g)(l:fs.lookup m=none)
  (h:Q (.ref g,[.ref a]) s):wpAny (model X.prog X.w) A (getMethod (.ref a) m pl) Q E s:=by
 obtain ⟨mA,O,r,_,_,_⟩:=ko I.hok e
 have hn:mA m=none:=jC.none_of (by rw [←l];exact r m)
 exact o5 I.kIn O (c.get m) k.at_ k.fn hn h
theorem l1 {y:V}{u:Value}{Q:Unit->Shared->Prop}(I:Inv X pins σ H s)(e:H a=some (.ins C dx fs))(c:Cls X.K C)(n:bI X.K C f)(hl:fs.length < 1000)(ry:aY y u)
  (h:∀s',Inv X pins σ (upd H a (.ins C dx (bQ f y fs))) s'->Q () s'):wpAny (model X.prog X.w) A (setAttr (.ref a) f u) Q E s:=by
 obtain ⟨mA,O,r,wi,_,ho⟩:=ko I.hok e
 have hz:(fs.map (·.1)).length<=sizeLine:=by rw [JB,sizeLine_eq];omega
 refine qJ I.kIn O c.sa c.po n.taker c.hd wi hz fun h' O' sb=>h _ ?_
 have hd:∃o,h'.get? dx=some o:=let ⟨o,_,_,e',_⟩:=O'.ns;⟨o,e'⟩
 refine I.write (x:=a) (e:=dx) (by rw [e];exact True.intro) (.inr ho) (fun b q hb z=>(sb.2 b hb).trans z) hd ?_
 refine ⟨by rw [aj O.ne];exact ho,?_,O.ne,O'.obj,_,O'.ns,fun g=>?_,fun g hg=>?_⟩
 ·have:=ik f y fs;omega
 ·show jC ((bQ f y fs).lookup g) (if g=f then some u else mA g)
  rw [ij]
  by_cases q:g=f
  ·rw [if_pos q,if_pos q];exact ry
  ·rw [if_neg q,if_neg q];exact r g
 ·by_cases q:g=f
  ·rw [q];exact (g8 f y fs).1
  ·refine (g8 f y fs).2 g (wi g fun z=>hg ?_)
   show (if g=f then some u else mA g)=none
   rw [if_neg q];exact z
theorem Inv.made (I:Inv X pins σ H s):Inv X pins σ (upd (upd H s.heap.objs.size (.own (s.heap.objs.size+1))) (s.heap.objs.size+1) (.ins C s.heap.objs.size []))
  {s with heap:=(s.heap.push W.emptyDict).push (W.instObj C s.heap.objs.size)}:=by
 have e1:(s.heap.push W.emptyDict).get? s.heap.objs.size=some W.emptyDict:=Heap.get?_push_size s.heap rfl
 have e2:((s.heap.push W.emptyDict).push (W.instObj C s.heap.objs.size)).get? (s.heap.objs.size+1)=some (W.instObj C s.heap.objs.size):=by
  have:=Heap.get?_push_size (s.heap.push W.emptyDict) (o:=W.instObj C s.heap.objs.size) rfl
  rwa [Heap.size_push] at this
 have e3:(s.heap.push W.emptyDict).Ns s.heap.objs.size (fun _=>none):=⟨W.emptyDict,#[],_,e1,rfl,(fun e he=>absurd he (by simp)),fun _=>rfl⟩
 have I1:=I.laid (a:=s.heap.objs.size) (o:=.own (s.heap.objs.size+1)) (h':=s.heap.push W.emptyDict) (t':=s.toks) (fun b u q=>Heap.get?_push_of_some _ q) (Nat.le_refl _) ⟨_,e1⟩
 refine I1.laid (a:=s.heap.objs.size+1) (o:=.ins C s.heap.objs.size []) (t':=s.toks) (fun b u q=>Heap.get?_push_of_some _ q) (Nat.le_of_eq (Heap.size_push _ _)) ?_
 have ne:s.heap.objs.size≠s.heap.objs.size+1:=Nat.ne_of_lt (Nat.lt_succ_self _)
 refine ⟨by rw [aj ne,ae],Nat.zero_le _,ne,e2,fun _=>none,(Heap.Ns1.of_empty e3).at fun o q=>Heap.get?_push_of_some _ q,fun _=>True.intro,fun y hy=>absurd rfl hy⟩
theorem qK {prog:Program}{w:World}{env:Env}{e:Expr}{f:Str}{pos:Pos}{s:Shared}{Q:Value->Shared->Prop}(hb:attributeBase e f env (eval e env)=eval e env)
  (h:wpAny (model prog w) A (eval e env) (fun o s₁=>wpAny (model prog w) A (getAttr o f true) Q E s₁) E s):wpAny (model prog w) A (eval (.Attribute e f pos) env) Q E s:=
 Attribute_any_ h (by rw [arm_eval_Attribute,hb])
end
noncomputable def vg (K:JA)(ta:TE)(f:Str):TE:=fun σ H Q=>ta σ H fun x H1=>∃a C dx fs v,x=.ref a/\H1 a=some (.ins C dx fs)/\Cls K C/\bI K C f/\fs.lookup f=some v/\Q v H1
noncomputable def vh (K:JA)(ta tv:TE)(f:Str):TS:=fun D σ H=>tv σ H fun y H1=>ta σ H1 fun x H2=>∃a C dx fs,x=.ref a/\H2 a=some (.ins C dx fs)/\Cls K C/\bI K C f/\fs.length < 1000/\
 D.nx σ (upd H2 a (.ins C dx (bQ f y fs)))
section
variable {X:Cx}{o e value:Expr}{f:Str}{pos pos' tpos:Pos}{ta tv:TE}
theorem ub (he:PE X e ta)(hb:attributeBase e f X.env (eval e X.env)=eval e X.env):PE X (.Attribute e f pos) (vg X.K ta f):=by
 intro pins s σ H Q I h
 refine qK hb (thn (he pins s σ H _ I h) fun u s1 ⟨x,H1,I1,rx,a,C,dx,fs,v,ex,ea,c,n,l,q⟩=>?_)
 subst ex
 obtain rfl:u=Value.ref a:=rx
 exact lZ I1 ea c n l fun u' s2 I2 ru=>⟨v,H1,I2,ru,q⟩
theorem uc (ha:PE X o ta)(hv:PE X value tv)(hs:swapsWith value (some (.Attribute o f pos')) pos.line X.env=pure false):PS X (.Assign [.Attribute o f pos'] value pos) (vh X.K ta tv f):=by
 intro pins s σ H D I h
 refine plainObj_wpAny_Assign_Attribute (thn (hv pins s σ H _ I h) fun u s1 ⟨y,H1,I1,ry,q⟩=>thn (ha pins s1 σ H1 _ I1 q) fun ov s2 ⟨x,H2,I2,rx,a,C,dx,fs,ex,ea,c,n,l,q2⟩=>?_) hs
 subst ex
 obtain rfl:ov=Value.ref a:=rx
 exact l1 I2 ea c n l ry fun s3 I3=>⟨σ,_,I3,q2⟩
theorem sZ {pl:Sem Bool}{m:Str}{apos:Pos}{args:List Expr}{pins:List (Addr×Obj)}{s:Shared}{σ:St}{H:Hp}{Q:Value->Shared->Prop}{te:TE}(he:PE X e te)(I:Inv X pins σ H s)
  (h:te σ H fun x H1=>∃a C dx fs g,x=.ref a/\H1 a=some (.ins C dx fs)/\Cls X.K C/\lY X.K C m g/\fs.lookup m=none/\
   ∀s1,Inv X pins σ H1 s1->wpAny (model X.prog X.w) X.A (callWith pos (.ref g) [.ref a] (backTo pos (starEach args X.env)) (backToKw pos (keywordEach [] X.env))) Q X.xe s1)
  (ht:eval (.Call (.Attribute e m apos) args [] pos) X.env=(do
   let ov ←eval e X.env
   standAt apos.atName
   let (f,first) ←holding [ov] (getMethod ov m pl)
   callWith pos f first (backTo pos (starEach args X.env)) (backToKw pos (keywordEach [] X.env)))) :
  wpAny (model X.prog X.w) X.A (eval (.Call (.Attribute e m apos) args [] pos) X.env) Q X.xe s:=by
 refine W.methodCall_KW (pl:=pl) (thn (he pins s σ H _ I h) fun u s1 ⟨x,H1,I1,rx,a,C,dx,fs,g,ex,ea,c,k,l,q⟩=>?_) ht
 subst ex
 obtain rfl:u=Value.ref a:=rx
 exact gg I1 ea c k l (q s1 I1)
end
structure bp (k:Nat)(A:Around):Prop where
 hd:A.handled=none
 dp:A.depth+3 * k+5 < recursionLimit
 un:A.units+16 * k+200 < cLine
theorem bp.mono {j k:Nat}{A:Around}(r:bp k A)(h:j<=k):bp j A:=⟨r.hd,by have:=r.dp;omega,by have:=r.un;omega⟩
theorem bp.deeper {k:Nat}{A:Around}(r:bp (k+1) A)(env:Env):bp k (A.deeper env):=
 ⟨r.hd,by have:=r.dp;show A.depth+1+3 * k+5 < _;omega,by have:=r.un;show A.units+3+16 * k+200 < _;omega⟩
theorem l3 {A:Around}{C:Addr}{us:List Value}{kw:List (Str×Value)}:(A.under (.builtin "type.__call__" ⟨.ref C::us,kw⟩)).depth=A.depth+1:=by
 first | rfl | simp [Around.under,Code.weight,Code.isCreation,Code.isGuard,Code.isCaller,Code.frames,Code.isFrame,guardIds]
theorem l4 {A:Around}{C:Addr}{us:List Value}{kw:List (Str×Value)}:(A.under (.builtin "type.__call__" ⟨.ref C::us,kw⟩)).units=A.units+1:=by
 first | rfl | simp [Around.under,Code.cUnits,Code.frames,Code.isFrame]
theorem bp.make {k:Nat}{A:Around}(r:bp (k+1) A)(C:Addr)(us:List Value)(kw:List (Str×Value)):bp k (A.under (.builtin "type.__call__" ⟨.ref C::us,kw⟩)):=
 ⟨r.hd,by have:=r.dp;rw [l3];omega,by have:=r.un;rw [l4];omega⟩
theorem bp.depth {k:Nat}{A:Around}(r:bp k A):A.depth < recursionLimit:=by have:=r.dp;omega
theorem bp.units0 {k:Nat}{A:Around}(r:bp k A):A.units < cLine:=by have:=r.un;omega
noncomputable def jE:TA:=fun _ H Q=>Q [] H
noncomputable def eN (ta:TE)(tr:TA):TA:=fun σ H Q=>ta σ H fun x H1=>tr σ H1 fun xs H2=>Q (x::xs) H2
section
variable {X:Cx}{e:Expr}{es:List Expr}{te:TE}{t:TA}{pos:Pos}
theorem gh:PA X [] jE:=fun _ _ _ _ H Q I h=>Calls.spliced_nil ⟨[],H,I,.nil,h⟩
theorem fG (ha:PE X e te)(hr:PA X es t)(hs:starEach (e::es) X.env=(false,eval e X.env)::starEach es X.env:=by rfl):PA X (e::es) (eN te t):=by
 intro pos pins s σ H Q I h
 rw [hs]
 show wpAny _ _ (spliced ((false,eval e X.env)::backTo pos (starEach es X.env))) _ _ s
 refine Calls.spliced_cons (thn (ha pins s σ H _ I h) fun u s1 ⟨x,H1,I1,r1,q1⟩=>?_)
 exact thn (hr pos pins s1 σ H1 _ I1 q1) fun us s2 ⟨xs,H2,I2,r2,q2⟩=>⟨x::xs,H2,I2,.cons r1 r2,q2⟩
noncomputable def vi (t:TA):TE:=fun σ H Q=>t σ H fun xs H1=>xs.length<=sizeLine/\∀p,H1 p=none->Q (.ref p) (upd H1 p (.tup xs))
noncomputable def vj (t:TA):TE:=fun σ H Q=>t σ H fun xs H1=>xs.length<=sizeLine/\∀p,H1 p=none->Q (.ref p) (upd H1 p (.lst xs))
theorem ba {x1}(h:PA X es t):PE X (.Tuple es x1 pos) (vi t):=by
 intro pins s σ H Q I hq
 refine wpAny_Tuple_spliced (thn (h pos pins s σ H _ I hq) fun us s1 ⟨xs,H1,I1,r,z,q⟩=>⟨by rw [←r.length];exact z,?_⟩)
 have hf:H1 s1.heap.objs.size=none:=I1.hok.fresh (Nat.le_refl _)
 refine ⟨.ref s1.heap.objs.size,upd H1 s1.heap.objs.size (.tup xs),I1.laid (t':=s1.toks) (fun b u e=>Heap.get?_push_of_some _ e) (Nat.le_refl _) ?_,rfl,q _ hf⟩
 exact ⟨z,us,r,⟨_,Heap.get?_push_size _ rfl,⟨rfl,_,rfl⟩,rfl⟩⟩
theorem bg (h:PA X es t):PE X (.List es pos) (vj t):=by
 intro pins s σ H Q I hq
 refine wpAny_List_spliced (thn (h pos pins s σ H _ I hq) fun us s1 ⟨xs,H1,I1,r,z,q⟩=>⟨by rw [←r.length];exact z,?_⟩)
 have hf:H1 s1.heap.objs.size=none:=I1.hok.fresh (Nat.le_refl _)
 refine ⟨.ref s1.heap.objs.size,upd H1 s1.heap.objs.size (.lst xs),I1.laid (t':=s1.toks) (fun b u e=>Heap.get?_push_of_some _ e) (Nat.le_refl _) ?_,rfl,q _ hf⟩
 exact ⟨z,us,0,r,Heap.get?_push_size _ rfl⟩
end
noncomputable abbrev Sp:=List V->Hp->VK->XK->Prop
noncomputable abbrev CXT:=List Env->Hp->Shared->XK->Value->Shared->Prop
structure l5 (P:Program)(w:World)(K:JA)(mg:Str->Option Value)(base:Heap)(A:Around)(outer:List Env)(s:Shared)(H:Hp):Prop where
 frames:A.frames=some outer
 mod:Mod K mg base
 bs:∀b o,base.get? b=some o->s.heap.get? b=some o/\H b=none
 bsz:base.objs.size<=s.heap.objs.size
 funs:s.heap.FunFrames base outer
 frf:∀b∈frs outer,H b=none
 hok:HOk P w H s.heap
 bare:AllBare s.gens
def CE (outer:List Env)(P:Program)(w:World)(H:Hp)(s:Shared)(Q:VK)(u:Value)(s':Shared):Prop:=
 ∃v H',s'.os=s.os/\AllBare s'.gens/\Un (frs outer) [] H H' s.heap s'.heap/\HOk P w H' s'.heap/\aY v u/\Q v H'
def CR (CX:CXT)(outer:List Env)(P:Program)(w:World)(H:Hp)(s:Shared)(Q:VK)(E:XK)(r:Result)(s':Shared):Prop:=
 match r with
 | .ok (.ret u)=>CE outer P w H s Q u s'
 | .ok _=>False
 | .error e=>CX outer H s E e s'
structure c5 (P:Program)(w:World)(K:JA)(mg:Str->Option Value)(base:Heap)(CX:CXT)(k:Nat)(f:Addr)(fd:FuncData)(ps:List Str)(sp:Sp):Prop where
 len:∀vs H Q E,sp vs H Q E->vs.length=ps.length
 run:∀(A:Around) (outer:List Env) (s:Shared) (H:Hp) (args:Args) (us:List Value) (vs:List V) (Q:VK) (E:XK),bp k A->l5 P w K mg base A outer s H->BindsTo s fd args (ps.zip us)->aM vs us->sp vs H Q E->
  codeAny (model P w) A (.call (.ref f) args) (CR CX outer P w H s Q E) s
theorem c5.imp {P:Program}{w:World}{K:JA}{mg:Str->Option Value}{base:Heap}{CX:CXT}{k:Nat}{f:Addr}{fd:FuncData}{ps:List Str}{sp sp':Sp}(F:c5 P w K mg base CX k f fd ps sp)
  (h:∀vs H Q E,sp' vs H Q E->sp vs H Q E):c5 P w K mg base CX k f fd ps sp':=
 ⟨fun vs H Q E q=>F.len vs H Q E (h _ _ _ _ q),fun A outer s H args us vs Q E hr he hb hv hs=>F.run A outer s H args us vs Q E hr he hb hv (h _ _ _ _ hs)⟩
theorem l5.make {P:Program}{w:World}{K:JA}{mg:Str->Option Value}{base:Heap}{A:Around}{outer:List Env}{s:Shared}{H:Hp}(e:l5 P w K mg base A outer s H)(C:Addr)(us:List Value)(kw:List (Str×Value)) :
  l5 P w K mg base (A.under (.builtin "type.__call__" ⟨.ref C::us,kw⟩)) outer s H:=⟨by first | exact e.frames | (simpa [Around.under,Code.envs,Code.isFrame,pushEnvs] using e.frames),e.mod,e.bs,e.bsz,e.funs,e.frf,e.hok,e.bare⟩
section
variable {X:Cx}{pins:List (Addr×Obj)}{σ:St}{H:Hp}{s s':Shared}
theorem Inv.env0 (I:Inv X pins σ H s):l5 X.prog X.w X.K X.mg X.base X.A X.stack s H:=
 ⟨I.ok.frames,I.ok.mod,I.bs,Nat.le_trans I.ok.bsz I.sz,I.stack,I.stkFree,I.hok,I.bare⟩
theorem Inv.after {Q:VK}{u:Value}(I:Inv X pins σ H s)(h:CE X.stack X.prog X.w H s Q u s'):EP X pins σ Q u s':=by
 obtain ⟨v,H',os,bare,un,hok,r,q⟩:=h
 obtain ⟨hh,g,d,t,os'⟩:=s'
 obtain rfl:os'=s.os:=os
 exact ⟨v,H',I.call (h':=hh) (g':=g) (d':=d) (t':=t) (ch:=[]) un hok bare (fun b z=>absurd z (by simp)),r,q⟩
end
noncomputable def mR (sp:Sp)(dvs:List V)(E:XK)(t:TA):TE:=fun σ H Q=>t σ H fun vs H1=>sp (vs++dvs) H1 Q E
noncomputable def kZ (C:Addr)(m:Str)(sp:Sp)(dvs:List V)(E:XK)(ta:TE)(t:TA):TE:=fun σ H Q=>ta σ H fun x H1=>∃a dx fs,x=.ref a/\H1 a=some (.ins C dx fs)/\fs.lookup m=none/\
 t σ H1 fun vs H2=>sp (x::(vs++dvs)) H2 Q E
noncomputable def o7 (C:Addr)(sp:Sp)(dvs:List V)(E:XK)(t:TA):TE:=fun σ H Q=>t σ H fun vs H1=>∀x dx,H1 x=none->H1 dx=none->dx≠x->
 sp (.ref x::(vs++dvs)) (upd (upd H1 dx (.own x)) x (.ins C dx [])) (fun v H2=>v=.non/\Q (.ref x) H2) E
def bF (K:JA)(fd:FuncData)(ps:List Str)(ds:List Value):Prop:=
 ∀(s:Shared) (us:List Value),K.In s.heap->(us++ds).length=ps.length->BindsTo s fd ⟨us,[]⟩ (ps.zip (us++ds))
theorem bF.all {K:JA}{fd:FuncData}{ps:List Str}(h:∀us:List Value,us.length=ps.length->bindArgs fd ⟨us,[]⟩=pure (ps.zip us)):bF K fd ps []:=fun s us _ hl=>by
 rw [List.append_nil] at hl ⊢
 exact .of_eq (h us hl)
def bX (CX:CXT)(X:Cx)(E:XK):Prop:=∀(pins:List (Addr×Obj)) (σ:St) (H:Hp) (s:Shared) (e:Value) (s':Shared),Inv X pins σ H s->CX X.stack H s E e s'->X.xe e s'
section
variable {X:Cx}{CX:CXT}{k:Nat}{f C:Addr}{fd:FuncData}{ps:List Str}{sp:Sp}{dvs:List V}{ds:List Value}{E:XK}{x m:Str}{p pos apos:Pos}{e o:Expr}{es:List Expr}{ta:TE}{t:TA}
theorem l7 {pins:List (Addr×Obj)}{σ:St}{H:Hp}{s:Shared}{Q:VK}{us:List Value}{vs:List V}(F:c5 X.prog X.w X.K X.mg X.base CX k f fd ps sp)(hr:bp k X.A)(hb:bF X.K fd ps ds)(hd:aM dvs ds)(hx:bX CX X E)
  (I:Inv X pins σ H s) (r:aM vs us) (h:sp (vs++dvs) H Q E):wpAny (model X.prog X.w) X.A (call (.ref f) us) (EP X pins σ Q) X.xe s:=by
 have r2:aM (vs++dvs) (us++ds):=r.append hd
 have hl:(us++ds).length=ps.length:=by rw [←r2.length];exact F.len _ _ _ _ h
 refine wpAny_call (codeAny_mono (F.run X.A X.stack s H ⟨us,[]⟩ (us++ds) (vs++dvs) Q E hr I.env0 (hb s us I.kIn hl) r2 h) fun r s' hq=>?_)
 cases r with
 | error e=>exact hx pins σ H s e s' I hq
 | ok fl=>
  cases fl with
  | ret u=>exact I.after hq
  | next=>exact False.elim hq
  | brk=>exact False.elim hq
  | cont=>exact False.elim hq
theorem qL (F:c5 X.prog X.w X.K X.mg X.base CX k f fd ps sp)(hr:bp k X.A)(hg:Gl X x)(hm:X.mg x=some (.ref f))(hk:W.keepIn X.K (.ref f)=true)(hb:bF X.K fd ps ds)(hd:aM dvs ds)(hx:bX CX X E)
  (ha:PA X (e::es) t) (hdb:(x == ("__debug__":Str))=false:=by decide) (he:starEach (e::es) X.env=(false,eval e X.env)::starEach es X.env:=by rfl) (hpl:(backTo pos (starEach es X.env)).any (·.1)=false:=by rfl) :
  PE X (.Call (.Name x p) (e::es) [] pos) (mR sp dvs E t):=by
 intro pins s σ H Q I h
 refine wpAny_Call_Name_kw (fF I hg hm ?_ hdb)
 refine W.callWith_K (h₀:=X.base) I.ok.mod.kin hk (thn (ha pos pins s σ H _ I h) fun us s1 ⟨vs,H1,I1,r,q⟩=>⟨I1.kIn,?_⟩) he hpl
 exact l7 F hr hb hd hx I1 r q
theorem qM {pl:Sem Bool}(he:PE X o ta)(c:Cls X.K C)(hm:lY X.K C m f)(F:c5 X.prog X.w X.K X.mg X.base CX k f fd ps sp)(hr:bp k X.A)(hb:bF X.K fd ps ds)(hd:aM dvs ds)(hx:bX CX X E)(ha:PA X (e::es) t)
  (hst:starEach (e::es) X.env=(false,eval e X.env)::starEach es X.env:=by rfl) (hpl:(backTo pos (starEach es X.env)).any (·.1)=false:=by rfl)
  (ht:eval (.Call (.Attribute o m apos) (e::es) [] pos) X.env=(do
   let ov ←eval o X.env
   standAt apos.atName
   let (f,first) ←holding [ov] (getMethod ov m pl)
   callWith pos f first (backTo pos (starEach (e::es) X.env)) (backToKw pos (keywordEach [] X.env))):=by rfl) :
  PE X (.Call (.Attribute o m apos) (e::es) [] pos) (kZ C m sp dvs E ta t):=by
 intro pins s σ H Q I h
 refine W.methodCall_KW (pl:=pl) (thn (he pins s σ H _ I h) fun u s1 ⟨x,H1,I1,rx,a,dx,fs,ex,ea,l,q⟩=>?_) ht
 subst ex
 obtain rfl:u=Value.ref a:=rx
 refine gg I1 ea c hm l ?_
 refine W.callWith_K (first:=[.ref a]) (h₀:=X.base) I.ok.mod.kin hm.kp (thn (ha pos pins s1 σ H1 _ I1 q) fun us s2 ⟨vs,H2,I2,r,q2⟩=>⟨I2.kIn,?_⟩) hst hpl
 exact l7 (us:=.ref a::us) (vs:=.ref a::vs) F hr hb hd hx I2 (.cons rfl r) q2
theorem o8 {pl:Sem Bool}(he:PE X o ta)(c:Cls X.K C)(hm:lY X.K C m f)(F:c5 X.prog X.w X.K X.mg X.base CX k f fd ps sp)(hr:bp k X.A)(hb:bF X.K fd ps ds)(hd:aM dvs ds)(hx:bX CX X E)
  (ht:eval (.Call (.Attribute o m apos) [] [] pos) X.env=(do
   let ov ←eval o X.env
   standAt apos.atName
   let (f,first) ←holding [ov] (getMethod ov m pl)
   callWith pos f first (backTo pos (starEach [] X.env)) (backToKw pos (keywordEach [] X.env))):=by rfl) :
  PE X (.Call (.Attribute o m apos) [] [] pos) (kZ C m sp dvs E ta jE):=by
 intro pins s σ H Q I h
 refine W.methodCall_KW (pl:=pl) (thn (he pins s σ H _ I h) fun u s1 ⟨x,H1,I1,rx,a,dx,fs,ex,ea,l,q⟩=>?_) ht
 subst ex
 obtain rfl:u=Value.ref a:=rx
 refine gg I1 ea c hm l ?_
 exact W.callWith_K0 (first:=[.ref a]) I1.kIn hm.kp (l7 (us:=[.ref a]) (vs:=[.ref a]) F hr hb hd hx I1 (.cons rfl .nil) q)
structure Mk (K:JA)(C f:Addr):Prop where
 makes:W.makesIn K C=true
 init:W.findIn K (.ref C) "__init__"=some (some (.ref f))
 fn:W.isFn K (.ref f)=true
 kp:W.keepIn K (.ref C)=true
theorem o9 {pins:List (Addr×Obj)}{σ:St}{H:Hp}{s:Shared}{Q:VK}{us:List Value}{vs:List V}(M:Mk X.K C f)(F:c5 X.prog X.w X.K X.mg X.base CX k f fd ps sp)(hr:bp (k+1) X.A)(hb:bF X.K fd ps ds)(hd:aM dvs ds)
  (hx:bX CX X E) (I:Inv X pins σ H s) (r:aM vs us)
  (h:∀x dx,H x=none->H dx=none->dx≠x->sp (.ref x::(vs++dvs)) (upd (upd H dx (.own x)) x (.ins C dx [])) (fun v H2=>v=.non/\Q (.ref x) H2) E) :
  wpAny (model X.prog X.w) X.A (call (.ref C) us) (EP X pins σ Q) X.xe s:=by
 have hq:=h (s.heap.objs.size+1) s.heap.objs.size (I.hok.fresh (Nat.le_succ _)) (I.hok.fresh (Nat.le_refl _)) (Nat.ne_of_lt (Nat.lt_succ_self _))
 have I2:=Inv.made (C:=C) I
 have r2:aM (V.ref (s.heap.objs.size+1)::(vs++dvs)) (Value.ref (s.heap.objs.size+1)::(us++ds)):=.cons rfl (r.append hd)
 have hl:(Value.ref (s.heap.objs.size+1)::us++ds).length=ps.length:=by
  have e:=r2.length
  rw [F.len _ _ _ _ hq] at e
  exact e.symm
 refine wpAny_call (o6 (f:=f) I.kIn M.makes M.init (beq_iff_eq.mp M.fn) (codeAny_mono (F.run _ X.stack _ _ ⟨Value.ref (s.heap.objs.size+1)::us,[]⟩ (Value.ref (s.heap.objs.size+1)::(us++ds)) _ _ E (hr.make C us [])
  (I2.env0.make C us []) (hb _ (Value.ref (s.heap.objs.size+1)::us) I2.kIn hl) r2 hq) fun r s' hq'=>?_))
 cases r with
 | error e=>exact hx pins σ _ _ e s' I2 hq'
 | ok fl=>
  cases fl with
  | ret u=>
   obtain ⟨v,H',I3,rv,ev,q3⟩:=I2.after hq'
   subst ev
   exact ⟨rv,⟨V.ref (s.heap.objs.size+1),H',I3,rfl,q3⟩⟩
  | next=>exact False.elim hq'
  | brk=>exact False.elim hq'
  | cont=>exact False.elim hq'
theorem qN (M:Mk X.K C f)(F:c5 X.prog X.w X.K X.mg X.base CX k f fd ps sp)(hr:bp (k+1) X.A)(hg:Gl X x)(hm:X.mg x=some (.ref C))(hb:bF X.K fd ps ds)(hd:aM dvs ds)(hx:bX CX X E)
  (ha:PA X (e::es) t) (hdb:(x == ("__debug__":Str))=false:=by decide) (he:starEach (e::es) X.env=(false,eval e X.env)::starEach es X.env:=by rfl) (hpl:(backTo pos (starEach es X.env)).any (·.1)=false:=by rfl) :
  PE X (.Call (.Name x p) (e::es) [] pos) (o7 C sp dvs E t):=by
 intro pins s σ H Q I h
 refine wpAny_Call_Name_kw (fF I hg hm ?_ hdb)
 refine W.callWith_K (h₀:=X.base) I.ok.mod.kin M.kp (thn (ha pos pins s σ H _ I h) fun us s1 ⟨vs,H1,I1,r,q⟩=>⟨I1.kIn,?_⟩) he hpl
 exact o9 M F hr hb hd hx I1 r q
end
structure aN (N P:List Str)(sc:Scope):Prop where
 kind:sc.kind=.function
 co:sc.isCoroutine=false
 gen:sc.isGenerator=false
 nd:N.Nodup
 pre:N.take P.length=P
 par:∀x∈P,sc.names.lookup x=some .local\/sc.names.lookup x=some .cell
 nofree:∀y∈sc.names,y.2≠.free
theorem jT {kindOf:Str->Option NameKind}{x:Str}:∀{binds:List (Str×Value)} {m:Str->Option Value},(∀v,(x,v)∉binds)->bindL kindOf binds m x=m x
 | [],_,_=>rfl
 | (n,v)::r,m,h=>by
  unfold bindL
  rw [jT fun w hw=>h w (List.mem_cons_of_mem _ hw)]
  split
  ·have:x≠n:=by rintro rfl;exact h v List.mem_cons_self
   simp [this]
  ·rfl
theorem jU {kindOf:Str->Option NameKind}{x:Str}:∀{binds:List (Str×Value)} {m:Str->Option Value},(∀v,(x,v)∉binds)->bindC kindOf binds m x=m x
 | [],_,_=>rfl
 | (n,v)::r,m,h=>by
  unfold bindC
  rw [jU fun w hw=>h w (List.mem_cons_of_mem _ hw)]
  split
  ·rfl
  ·have:x≠n:=by rintro rfl;exact h v List.mem_cons_self
   simp [this]
theorem jV {kindOf:Str->Option NameKind}{x:Str}{v:Value}:∀{P:List Str} {vs:List Value} {i:Nat} {m:Str->Option Value},P.Nodup->P[i]?=some x->vs[i]?=some v->kindOf x=some .local->
  bindL kindOf (P.zip vs) m x=some v
 | [],_,_,_,_,h,_,_=>by simp at h
 | _::_,[],_,_,_,_,h,_=>by simp at h
 | p::P,w::vs,0,m,nd,h1,h2,hk=>by
  simp at h1 h2;subst h1;subst h2
  show bindL kindOf ((p,w)::P.zip vs) m p=_
  unfold bindL
  rw [jT fun v hv=>(List.nodup_cons.mp nd).1 (List.of_mem_zip hv).1,if_pos hk]
  simp
 | p::P,w::vs,i+1,m,nd,h1,h2,hk=>by
  show bindL kindOf ((p,w)::P.zip vs) m x=_
  unfold bindL
  exact jV (i:=i) (List.nodup_cons.mp nd).2 (by simpa using h1) (by simpa using h2) hk
theorem jW {kindOf:Str->Option NameKind}{x:Str}{v:Value}:∀{P:List Str} {vs:List Value} {i:Nat} {m:Str->Option Value},P.Nodup->P[i]?=some x->vs[i]?=some v->kindOf x≠some .local->
  bindC kindOf (P.zip vs) m x=some v
 | [],_,_,_,_,h,_,_=>by simp at h
 | _::_,[],_,_,_,_,h,_=>by simp at h
 | p::P,w::vs,0,m,nd,h1,h2,hk=>by
  simp at h1 h2;subst h1;subst h2
  show bindC kindOf ((p,w)::P.zip vs) m p=_
  unfold bindC
  rw [jU fun v hv=>(List.nodup_cons.mp nd).1 (List.of_mem_zip hv).1,if_neg hk]
  simp
 | p::P,w::vs,i+1,m,nd,h1,h2,hk=>by
  show bindC kindOf ((p,w)::P.zip vs) m x=_
  unfold bindC
  exact jW (i:=i) (List.nodup_cons.mp nd).2 (by simpa using h1) (by simpa using h2) hk
noncomputable def eO (N:List Str)(vs:List V):St:=vs.map some++List.replicate (N.length - vs.length) none
noncomputable def iX (CX:CXT)(P:Program)(w:World)(K:JA)(mg:Str->Option Value)(base:Heap)(N:List Str)(qual:Str)(scope:Scope)(f:Addr)(cd:Value)(A:Around)(outer:List Env)(s:Shared)(H:Hp)(E:XK):Cx where
 prog:=P
 w:=w
 K:=K
 mg:=mg
 base:=base
 A:=A.deeper (envOfC qual scope s.heap.objs.size f cd)
 N:=N
 s₀:=s
 H₀:=H
 env:=envOfC qual scope s.heap.objs.size f cd
 outer:=outer
 stack:=envOfC qual scope s.heap.objs.size f cd::outer
 ex:=[]
 calm:=true
 fn:=fun _=>true
 pn:=[]
 xe:=fun e s'=>wpAny (model P w) (A.deeper (envOfC qual scope s.heap.objs.size f cd)) (leaving (envOfC qual scope s.heap.objs.size f cd) e) (fun _ s''=>CX outer H s E e s'') (fun e' s''=>CX outer H s E e' s'') s'
theorem k6 {sc:Scope}{n:Nat}{x:Str}(h:sc.names.lookup x=some .cell):∃c,(cellsFrom n sc.names []).lookup x=some c:=by
 have q:=W.cellsFrom_some sc.names n [] (.inl h)
 exact Option.isSome_iff_exists.mp q
theorem nW {CX:CXT}{P:Program}{w:World}{K:JA}{mg:Str->Option Value}{base:Heap}{N ps:List Str}{qual:Str}{scope:Scope}{f:Addr}{cd:Value}{A:Around}{outer:List Env}{s s1:Shared}{H:Hp}{E:XK}{us:List Value}{vs:List V}
  (S:aN N ps scope) (hd:A.handled=none) (e0:l5 P w K mg base A outer s H) (hl:vs.length=ps.length) (r:aM vs us)
  (x:InCallC s s.heap.objs.size (bindL (envOfC qual scope s.heap.objs.size f cd).kindOf (ps.zip us) fun _=>none) (cellsFrom (s.heap.objs.size+1) scope.names []) (bindC (envOfC qual scope s.heap.objs.size f cd).kindOf (ps.zip us) fun _=>none) s1) :
  Inv (iX CX P w K mg base N qual scope f cd A outer s H E) [] (eO N vs) H s1:=by
 have hpl:ps.length<=N.length:=by have:=congrArg List.length S.pre;rw [List.length_take] at this;omega
 obtain ⟨h1,tk,rfl,hk⟩:=x.done
 have noA:∀b:Addr,b∉(iX CX P w K mg base N qual scope f cd A outer s H E).ex:=fun b z=>absurd (show b∈([]:List Addr) from z) (by simp)
 refine ⟨⟨e0.mod,S.kind,rfl,rfl,Nat.le_refl _,fun y z c h1 h2=>?_,fun y hy=>?_,fun y c _ h=>?_,fun _=>hd,Around.frames_deeper e0.frames,.inr ⟨rfl,rfl⟩,fun b z=>absurd z (noA b),e0.bs,e0.bsz,fun b _ _=>noA b,fun b z=>absurd z (noA b),e0.funs,e0.frf⟩,
  rfl,e0.bare,Un.kept hk,⟨_,x.toInCall.ns,fun i y v h1 h2 h3=>?_⟩,fun y c h=>⟨_,x.cell y c h⟩,e0.hok.fresh (Nat.le_refl _),fun y c h=>?_,fun p hp=>absurd (show p∈([]:List (Addr×Obj)) from hp) (by simp),e0.hok.kept hk,?_⟩
 ·exact name_of_addr x.apart (PySem.mem_of_lookup h1) (PySem.mem_of_lookup h2)
 ·have hy:scope.names.lookup y=some .cell\/scope.names.lookup y=some .free:=hy
  rcases hy with hy | hy
  ·exact k6 hy
  ·exact absurd rfl (S.nofree _ (PySem.mem_of_lookup hy))
 ·exact Nat.le_of_lt (x.above y c (PySem.mem_of_lookup h))
 ·have hi:i < vs.length:=by
   unfold eO at h2
   by_cases hi:i < vs.length
   ·exact hi
   ·rw [List.getElem?_append_right (by simpa using hi)] at h2
    rw [List.getElem?_replicate] at h2
    split at h2<;>cases h2
  have ha:vs[i]?=some v:=by
   unfold eO at h2
   rw [List.getElem?_append_left (by simpa using hi),List.getElem?_map] at h2
   cases e:vs[i]? with
   | none=>rw [e] at h2;cases h2
   | some a=>rw [e] at h2;cases h2;rfl
  obtain ⟨u,hu,rv⟩:=r.get ha
  have hp:ps[i]?=some y:=by
   rw [←S.pre,List.getElem?_take_of_lt (by omega)];exact h1
  have ndP:ps.Nodup:=by rw [←S.pre];exact S.nd.sublist (List.take_sublist _ _)
  refine ⟨u,rv,?_⟩
  rcases S.par y (List.mem_of_getElem? hp) with k | k
  ·exact .inl ⟨k,jV ndP hp hu k⟩
  ·obtain ⟨c,e⟩:=k6 (n:=s.heap.objs.size+1) k
   refine .inr ⟨.inl k,c,e,?_⟩
   have q:=x.cell y c e
   rw [jW ndP hp hu (by show scope.names.lookup y≠_;rw [k];decide)] at q
   exact q
 ·exact e0.hok.fresh (Nat.le_of_lt (x.above y c (PySem.mem_of_lookup h)))
 ·unfold eO
  show _=N.length
  rw [List.length_append,JB,List.length_replicate]
  omega
theorem td {CX:CXT}{P:Program}{w:World}{K:JA}{mg:Str->Option Value}{base:Heap}{k:Nat}{f:Addr}{name qual:Str}{params:Arguments}{body:List Stmt}{scope:Scope}{dV kV doc pm cdv ct oc:Value}{an od:Option Addr}
  {osl:Array (Option Value)} {N ps:List Str} {sp:Sp} (lk:K.lookup f=some ⟨oc,od,.func (W.fnOf name qual params body scope dV kV doc pm an cdv ct),osl⟩) (hcd:W.codeIn K cdv qual=true) (S:aN N ps scope)
  (len:∀vs H Q E,sp vs H Q E->vs.length=ps.length)
  (hbody:∀(A:Around) (outer:List Env) (s:Shared) (H:Hp) (vs:List V) (Q:VK) (E:XK),bp k (A.deeper (envOfC qual scope s.heap.objs.size f cdv))->sp vs H Q E->
   ∃t,PSs (iX CX P w K mg base N qual scope f cdv A outer s H E) body t/\t {nx:=fun _ H'=>Q .non H',rt:=Q} (eO N vs) H) :
  c5 P w K mg base CX (k+1) f (W.fnOf name qual params body scope dV kV doc pm an cdv ct) ps sp:=by
 refine ⟨len,fun A outer s H args us vs Q E hr e0 hb r hsp=>?_⟩
 have hl:=len _ _ _ _ hsp
 have KX:K.In s.heap:=e0.mod.kin.keeps fun b o e=>(e0.bs b o e).1
 have lim:s.heap.NoLimit:=e0.mod.nolimit.keeps fun b o e=>(e0.bs b o e).1
 have hkind:∀y∈ps.zip us,scope.names.lookup y.1=some .local\/(scope.names.lookup y.1=some .cell/\((cellsFrom (s.heap.objs.size+1) scope.names []).lookup y.1).isSome=true):=fun ⟨n,v⟩ hy=>by
  rcases S.par n (List.of_mem_zip hy).1 with q | q
  ·exact .inl q
  ·exact .inr ⟨q,W.cellsFrom_some _ _ _ (.inl q)⟩
 refine codeAny_call_function hr.depth (KX _ _ lk) rfl S.co S.gen rfl (W.codeRec_of KX hcd) (hb _ _ _ _ ?_)
 refine wpAny_newFunctionEnv_cells S.kind hkind fun env he s1 x=>?_
 subst he
 refine ⟨lim.keeps x.toInCall.keep,codeAny_func ?_⟩
 obtain ⟨t,ht,hq⟩:=hbody A outer s H vs Q E (hr.deeper _) hsp
 have I:Inv (iX CX P w K mg base N qual scope f cdv A outer s H E) [] (eO N vs) H s1:=nW S hr.hd e0 hl r x
 refine wpAny_mono (ht [] s1 (eO N vs) H _ I hq) (fun fl s' hs=>?_) fun e s' hs=>hs
 have fin:∀{σ':St} {H':Hp} {v:V} {u:Value},Inv (iX CX P w K mg base N qual scope f cdv A outer s H E) [] σ' H' s'->aY v u->Q v H'->CE outer P w H s Q u s':=
  fun {σ' H' v u} J rv q=>⟨v,H',J.os,J.bare,J.base,J.hok,rv,q⟩
 cases fl with
 | ret u=>
  obtain ⟨v,σ',H',J,rv,q⟩:=hs
  exact fin J rv q
 | next=>
  obtain ⟨σ',H',J,q⟩:=hs
  exact fin (v:=V.non) (u:=Value.none) J rfl q
 | brk=>
  obtain ⟨_,_,_,q⟩:=hs
  exact False.elim q
 | cont=>
  obtain ⟨_,_,_,q⟩:=hs
  exact False.elim q
section
variable {X:Cx}{x:Str}{p pos:Pos}{e:Expr}{es:List Expr}{t:TA}{id T:String}{r:List V->Hp->VK->Prop}
noncomputable def tCB (r:List V->Hp->VK->Prop)(t:TA):TE:=fun σ H Q=>t σ H fun vs H1=>r vs H1 Q
theorem aE (hc:bW X (.builtin id) r)(hg:Gl X x)(hm:X.mg x=none)(hv:bootBuiltins x=some (.builtin id))(ha:PA X (e::es) t)(hn:x≠"__name__":=by decide)(hdb:(x == ("__debug__":Str))=false:=by decide)
  (he:starEach (e::es) X.env=(false,eval e X.env)::starEach es X.env:=by rfl) (hpl:(backTo pos (starEach es X.env)).any (·.1)=false:=by rfl):PE X (.Call (.Name x p) (e::es) [] pos) (tCB r t):=by
 intro pins s σ H Q I h
 refine wpAny_Call_Name_kw (g6 I hg hm hv ?_ hn hdb)
 exact PyProof.Rows.callWith_builtin1 (thn (ha pos pins s σ H _ I h) fun us s1 ⟨vs,H1,I1,r1,q1⟩=>hc pins s1 σ H1 vs us Q I1 r1 q1) he hpl
theorem bU (hc:bW X (.type T) r)(hg:Gl X x)(hm:X.mg x=none)(hv:bootBuiltins x=some (.type T))(ha:PA X (e::es) t)(hn:x≠"__name__":=by decide)(hdb:(x == ("__debug__":Str))=false:=by decide)
  (he:starEach (e::es) X.env=(false,eval e X.env)::starEach es X.env:=by rfl) (hpl:(backTo pos (starEach es X.env)).any (·.1)=false:=by rfl):PE X (.Call (.Name x p) (e::es) [] pos) (tCB r t):=by
 intro pins s σ H Q I h
 refine wpAny_Call_Name_kw (g6 I hg hm hv ?_ hn hdb)
 exact PyProof.Rows.callWith_type1 (thn (ha pos pins s σ H _ I h) fun us s1 ⟨vs,H1,I1,r1,q1⟩=>hc pins s1 σ H1 vs us Q I1 r1 q1) he hpl
end
end L2
namespace HT
open PySem PyProof.Rows
section
open PySem.SeqAt
open PySem.AutoSeq1 (wpAny_loadPart')
open PySem.MeetsSeq PySem.MeetsSeq2 PySem.MeetsSeq3
end
section
variable {prog:Program}{w:World}{A:Around}{E:Value->Shared->Prop}{s:Shared}
noncomputable def sIx (n d:Nat):Option Int->Nat
 | none=>d
 | some v=>if v < 0 then (v+(n:Int)).toNat else min v.toNat n
theorem pf (n d:Nat):sIx n d none=d:=rfl
theorem qO (n d k:Nat):sIx n d (some (k:Int))=min k n:=by
 show (if (k:Int) < 0 then ((k:Int)+(n:Int)).toNat else min (k:Int).toNat n)=min k n
 rw [if_neg (by omega),Int.toNat_natCast]
end
end HT
namespace L2
open PySem PySem.Spec PyProof.Rows
noncomputable abbrev TO:=St->Hp->(Option Int->Hp->Prop)->Prop
def PO (X:Cx)(e:Option Expr)(t:TO):Prop:=
 ∀(pins:List (Addr×Obj)) (s:Shared) (σ:St) (H:Hp) (Q:Option Int->Hp->Prop),Inv X pins σ H s->t σ H Q->
  wpAny (model X.prog X.w) X.A (evalPart e X.env) (fun u s'=>∃o H',Inv X pins σ H' s'/\IsPart u o/\Q o H') X.xe s
noncomputable def mS:TO:=fun _ H Q=>Q none H
noncomputable def tf (t:TE):TO:=fun σ H Q=>t σ H fun x H1=>∃i,x=.int i/\Q (some i) H1
section
variable {X:Cx}{e:Expr}{te:TE}{lo hi:Option Expr}{tl th:TO}{pos p2:Pos}
theorem qP:PO X none mS:=by
 intro pins s σ H Q I h
 rw [evalPart_none]
 exact wpAny_pure ⟨none,H,I,.none,h⟩
theorem qQ (h:PE X e te):PO X (some e) (tf te):=by
 intro pins s σ H Q I hw
 rw [evalPart_some]
 refine thn (h pins s σ H _ I hw) fun u s1 ⟨x,H1,I1,r1,q1⟩=>?_
 obtain ⟨i,rfl,q⟩:=q1
 obtain ⟨t,rfl⟩:=r1
 exact ⟨some i,H1,I1,.int i t,q⟩
def SlR (X:Cx)(r:V->Option Int->Option Int->Hp->VK->Prop):Prop:=
 ∀(pins:List (Addr×Obj)) (s:Shared) (σ:St) (H:Hp) (x:V) (v vl vu:Value) (lo hi:Option Int) (sl:Addr) (Q:VK),Inv X pins σ H s->aY x v->s.heap.IsSliceOf sl vl vu .none->IsPart vl lo->IsPart vu hi->r x lo hi H Q->
  ∃T id,typeLookup (.type T) "__getitem__"=pure (some (.builtin id))/\s.TypeIs v T/\wpAny (model X.prog X.w) X.A (getItem v (.ref sl)) (EP X pins σ Q) X.xe s
noncomputable def tSl (r:V->Option Int->Option Int->Hp->VK->Prop)(te:TE)(tl th:TO):TE:=fun σ H Q=>te σ H fun x H1=>tl σ H1 fun l H2=>th σ H2 fun u H3=>r x l u H3 Q
theorem ph {r:V->Option Int->Option Int->Hp->VK->Prop}(hr:SlR X r)(he:PE X e te)(hl:PO X lo tl)(hu:PO X hi th):PE X (.Subscript e (.Slice lo hi none p2) pos) (tSl r te tl th):=by
 intro pins s σ H Q I h
 refine Subscript_ (thn (he pins s σ H _ I h) fun v s1 ⟨x,H1,I1,r1,q1⟩=>?_)
 refine wpAny_Slice (thn (hl pins s1 σ H1 _ I1 q1) fun vl s2 ⟨l,H2,I2,pl,q2⟩=>thn (hu pins s2 σ H2 _ I2 q2) fun vu s3 ⟨u,H3,I3,pu,q3⟩=>?_)
 rw [evalPart_none]
 refine wpAny_pure ?_
 have I4:Inv X pins σ H3 {s3 with heap:=s3.heap.push {cls:=.type "slice",data:=.fields #[vl,vu,.none]}}:=I3.kept (t':=s3.toks) fun b ob q=>Heap.get?_push_of_some _ q
 obtain ⟨T,id,hT,ht,hg⟩:=hr pins {s3 with heap:=s3.heap.push {cls:=.type "slice",data:=.fields #[vl,vu,.none]}} σ H3 x v vl vu l u s3.heap.objs.size Q I4 r1 (Heap.IsSliceOf.new ..) pl pu q3
 show wpAny (model X.prog X.w) X.A (subscriptTail e (.Slice lo hi none p2) v (.ref s3.heap.objs.size)) (EP X pins σ Q) X.xe {s3 with heap:=s3.heap.push {cls:=.type "slice",data:=.fields #[vl,vu,.none]}}
 exact tail_any (ops:=[.ref s3.heap.objs.size,v]) ht hT hg (by with_unfolding_all rfl)
noncomputable def k8 (xs:List V)(lo hi:Option Int):List V:=(xs.drop (HT.sIx xs.length 0 lo)).take (HT.sIx xs.length xs.length hi - HT.sIx xs.length 0 lo)
theorem lg (xs:List V)(lo hi:Option Int):(k8 xs lo hi).length<=xs.length:=by
 unfold k8
 rw [List.length_take,List.length_drop]
 omega
end
noncomputable def ixN (n:Nat)(i:Int):Option Nat:=if 0<=i then (if i < n then some i.toNat else none) else if -(n:Int)<=i then some (i+n).toNat else none
noncomputable def atI {α:Type}(xs:List α)(i:Int):Option α:=(ixN xs.length i).bind fun j=>xs[j]?
theorem mT {n:Nat}{i:Int}{j:Nat}(h:ixN n i=some j):seqIndex? i n=some j/\j < n/\-(n:Int)<=i/\i < n:=by
 unfold ixN at h
 by_cases h0:0<=i
 ·rw [if_pos h0] at h
  by_cases h1:i < n
  ·rw [if_pos h1] at h
   have e:i.toNat=j:=Option.some.inj h
   exact ⟨by rw [seqIndex_of h0 h1,e],by omega,by omega,h1⟩
  ·rw [if_neg h1] at h;cases h
 ·rw [if_neg h0] at h
  by_cases h1:-(n:Int)<=i
  ·rw [if_pos h1] at h
   have e:(i+n).toNat=j:=Option.some.inj h
   exact ⟨by rw [seqIndex_neg (by omega) h1,e],by omega,h1,by omega⟩
  ·rw [if_neg h1] at h;cases h
theorem kq {α:Type}{xs:List α}{i:Int}{v:α}(h:atI xs i=some v):∃j,seqIndex? i xs.length=some j/\xs[j]?=some v/\j < xs.length/\-(xs.length:Int)<=i/\i < xs.length:=by
 unfold atI at h
 cases e:ixN xs.length i with
 | none=>rw [e] at h;cases h
 | some j=>
  rw [e] at h
  obtain ⟨h1,h2,h3,h4⟩:=mT e
  exact ⟨j,h1,h,h2,h3,h4⟩
theorem mU {α:Type}{xs:List α}{j:Nat}{v:α}(h:xs[j]?=some v):atI xs (j:Int)=some v:=by
 have hj:j < xs.length:=(List.getElem?_eq_some_iff.mp h).1
 have e:ixN xs.length (j:Int)=some j:=by
  unfold ixN
  rw [if_pos (by omega),if_pos (by omega)];simp
 unfold atI;rw [e];exact h
def mV (b:Expr):Prop:=∀o i,subscripted b false o i=operate [o,i] (getItem o i)
def IxR (X:Cx)(r:R2):Prop:=
 ∀(value slice:Expr) (pins:List (Addr×Obj)) (s:Shared) (σ:St) (H:Hp) (x y:V) (v u:Value) (Q:VK),Inv X pins σ H s->aY x v->aY y u->r x y H Q->
  subscripted slice false v u=operate [v,u] (getItem v u)->wpAny (model X.prog X.w) X.A (subscriptTail value slice v u) (EP X pins σ Q) X.xe s
def MtR (X:Cx)(id:String)(r:V->List V->Hp->VK->Prop):Prop:=
 ∀(pins:List (Addr×Obj)) (s:Shared) (σ:St) (H:Hp) (x:V) (xs:List V) (v:Value) (us:List Value) (Q:VK),Inv X pins σ H s->aY x v->aM xs us->r x xs H Q->
  wpAny (model X.prog X.w) X.A (call (.builtin id) (v::us)) (EP X pins σ Q) X.xe s
section
variable {X:Cx}{a b:Expr}{ta tb:TE}{pos:Pos}
theorem IxR.or {r r':R2}(h:IxR X r)(h':IxR X r'):IxR X (fun x y H Q=>r x y H Q\/r' x y H Q):=by
 intro value slice pins s σ H x y v u Q I rx ry q hs
 rcases q with q | q
 ·exact h value slice pins s σ H x y v u Q I rx ry q hs
 ·exact h' value slice pins s σ H x y v u Q I rx ry q hs
theorem vk {r:R2}(hr:IxR X r)(ha:PE X a ta)(hb:PE X b tb)(hs:mV b):PE X (.Subscript a b pos) (tOp r ta tb):=by
 intro pins s σ H Q I h
 exact Subscript_ (tU ha hb I h fun v u s2 x y H2 I2 rx ry q=>hr a b pins s2 σ H2 x y v u Q I2 rx ry q (hs _ _))
noncomputable def ud (K:JA):R2:=fun x y H Q=>∃p xs i v,x=.ref p/\y=.int i/\SqL K H p xs/\atI xs i=some v/\Q v H
noncomputable def ue (K:JA):R2:=fun x y H Q=>∃p xs i v,x=.ref p/\y=.int i/\SqT K H p xs/\atI xs i=some v/\Q v H
noncomputable def vm:R2:=fun x y H Q=>∃z i c,x=.str z/\y=.int i/\z.length<=sizeLine/\atI z.cps.toList i=some c/\Q (.str ⟨#[c]⟩) H
theorem mW:IxR X (ud X.K):=by
 intro value slice pins s σ H x y v u Q I rx ry h hs
 obtain ⟨p,xs,i,z,rfl,rfl,hq,he,q⟩:=h
 cases rx
 obtain ⟨t,rfl⟩:=ry
 obtain ⟨its,r,pl,hz⟩:=I.list hq
 obtain ⟨j,h1,h2,h3,h4,h5⟩:=kq he
 obtain ⟨w,ew,rw'⟩:=r.get h2
 have hl:=r.length
 have hn:=iW
 have fin:EP X pins σ Q w s:=⟨z,H,I,rw',q⟩
 by_cases h0:0<=i
 ·have hj:i.toNat=j:=by
   rw [seqIndex_of h0 h5] at h1
   exact Option.some.inj h1
  exact item_listR pl.isList h0 (by omega) (by rw [hj];simpa using ew) fin hs
 ·have hj:(i+(its.toArray.size:Int)).toNat=j:=by
   rw [seqIndex_neg (by omega) h4] at h1
   rw [List.size_toArray,←hl]
   exact Option.some.inj h1
  exact subscriptTail_builtinR (x:=w) pl.isList.typeIs slot_list_getitem.lookup
   (wpAny_getItem_list_neg (Q:=fun r s'=>r=w/\EP X pins σ Q r s') pl.isList (by omega) (by rw [List.size_toArray]<;>omega) (by omega) (by rw [hj];simpa using ew) ⟨rfl,fin⟩) hs
theorem pj:IxR X (ue X.K):=by
 intro value slice pins s σ H x y v u Q I rx ry h hs
 obtain ⟨p,xs,i,z,rfl,rfl,hq,he,q⟩:=h
 cases rx
 obtain ⟨t,rfl⟩:=ry
 obtain ⟨its,r,pl,hz⟩:=I.tuple hq
 obtain ⟨j,h1,h2,h3,h4,h5⟩:=kq he
 obtain ⟨w,ew,rw'⟩:=r.get h2
 have hl:=r.length
 have hn:=iW
 have fin:EP X pins σ Q w s:=⟨z,H,I,rw',q⟩
 exact subscriptTail_builtinR (x:=w) pl.typeIs slot_tuple_getitem.lookup
  (getItem_tuple (j:=j) (Q:=fun r s'=>r=w/\EP X pins σ Q r s') pl (by omega) (by omega) (by rw [List.size_toArray,←hl];exact h1) (by simpa using ew) ⟨rfl,fin⟩) hs
theorem uf:IxR X vm:=by
 intro value slice pins s σ H x y v u Q I rx ry h hs
 obtain ⟨z,i,c,rfl,rfl,hz,he,q⟩:=h
 obtain ⟨t,rfl⟩:=rx
 obtain ⟨t',rfl⟩:=ry
 obtain ⟨j,h1,h2,h3,h4,h5⟩:=kq he
 have hl:z.cps.toList.length=z.length:=by simp [Str.length]
 rw [hl] at h1 h4 h5
 have hn:=iW
 exact tail_any (typeIs_str s z t) slot_str_getitem.lookup (getItem_str (c:=c) (by
  have e1:decide (i < -(2 ^ 63:Int))=false:=decide_eq_false (by omega)
  have e2:decide (i≥2 ^ 63)=false:=decide_eq_false (by omega)
  rw [e1,e2,Bool.or_false]) (by rw [h1];simpa using h2) ⟨.str ⟨#[c]⟩,H,I.tok _,⟨_,rfl⟩,q⟩) hs
noncomputable def rIx (K:JA):R2:=fun x y H Q=>ud K x y H Q\/ue K x y H Q\/vm x y H Q
theorem pq:IxR X (rIx X.K):=mW.or (pj.or uf)
theorem l8 (its:List Value)(n j:Nat)(u:Value):Obj.mapSeq (·.setIfInBounds j u) {cls:=.type "list",data:=.seq its.toArray n}={cls:=.type "list",data:=.seq (its.set j u).toArray n}:=by
 simp [Obj.mapSeq]
theorem Inv.lst {pins:List (Addr×Obj)}{σ:St}{H:Hp}{s:Shared}{p:Addr}{xs:List V}(I:Inv X pins σ H s)(h:H p=some (.lst xs)) :
  ∃(its:List Value) (n:Nat),aM xs its/\s.heap.get? p=some {cls:=.type "list",data:=.seq its.toArray n}/\xs.length<=sizeLine:=by
 obtain ⟨z,its,n,r,e⟩:=I.hok p _ h
 exact ⟨its,n,r,e,z⟩
theorem Inv.lstUpd {pins:List (Addr×Obj)}{σ:St}{H:Hp}{s:Shared}{p:Addr}{xs ys:List V}{its its':List Value}{n n':Nat}{f:Obj->Obj}(I:Inv X pins σ H s)(h:H p=some (.lst xs))
  (ho:s.heap.get? p=some {cls:=.type "list",data:=.seq its.toArray n}) (hf:f {cls:=.type "list",data:=.seq its.toArray n}={cls:=.type "list",data:=.seq its'.toArray n'}) (r:aM ys its') (hz:ys.length<=sizeLine) (t:Nat) :
  Inv X pins σ (upd H p (.lst ys)) {s with heap:=s.heap.update p f,toks:=t}:=by
 have e:(s.heap.update p f).get? p=some {cls:=.type "list",data:=.seq its'.toArray n'}:=by
  rw [Heap.get?_update_self f ho (by rw [hf]<;>rfl),hf]
 refine I.write (x:=p) (e:=p) (by rw [h];trivial) (.inl rfl) (fun b u hb q=>(Heap.get?_update_other _ _ (Ne.symm hb)).trans q) ⟨_,e⟩ ?_
 exact ⟨hz,its',n',r,e⟩
noncomputable def tj:V->V->V->Hp->(Hp->Prop)->Prop:=fun o i v H Q=>∃p xs k j,o=.ref p/\i=.int k/\H p=some (.lst xs)/\ixN xs.length k=some j/\Q (upd H p (.lst (xs.set j v)))
theorem pw:tS X tj:=by
 intro pins s σ H o i v ov iv u Q I ro ri rv h
 obtain ⟨p,xs,k,j,rfl,rfl,hp,hj,q⟩:=h
 cases ro
 obtain ⟨t,rfl⟩:=ri
 obtain ⟨its,n,r,ho,hz⟩:=I.lst hp
 obtain ⟨h1,h2,h3,h4⟩:=mT hj
 have hl:=r.length
 have hn:=iW
 have I':Inv X pins σ (upd H p (.lst (xs.set j v))) {s with heap:=s.heap.update p (Obj.mapSeq (·.setIfInBounds j u))}:=
  I.lstUpd hp ho (l8 its n j u) (r.set rv j) (by rw [List.length_set];exact hz) s.toks
 by_cases h0:0<=k
 ·have hk:k.toNat=j:=by
   rw [seqIndex_of h0 h4] at h1
   exact Option.some.inj h1
  exact W.ki_setAt ho h0 (by omega) (by rw [List.size_toArray,←hl];exact h4) (by rw [hk];exact ⟨_,I',q⟩)
 ·have hk:(k+(its.toArray.size:Int)).toNat=j:=by
   rw [seqIndex_neg (by omega) h3] at h1
   rw [List.size_toArray,←hl]
   exact Option.some.inj h1
  exact W.ki_setBack ho (by omega) (by rw [List.size_toArray,←hl];exact h3) (by omega) (by rw [hk];exact ⟨_,I',q⟩)
theorem kr (lo hi:Option Int)(n:Nat):(sliceBounds lo hi none n).1=((HT.sIx n 0 lo:Nat):Int)/\(sliceBounds lo hi none n).2.1=((HT.sIx n n hi:Nat):Int)/\(sliceBounds lo hi none n).2.2=1:=by
 refine ⟨?_,?_,rfl⟩
 ·cases lo with
  | none=>simp [sliceBounds,HT.sIx]
  | some i=>
   simp only [sliceBounds,HT.sIx,Option.getD_none,show (1:Int) > 0 by decide,if_true]
   by_cases h:i < 0
   ·simp only [h,if_true]<;>omega
   ·simp only [h,if_false]<;>omega
 ·cases hi with
  | none=>simp [sliceBounds,HT.sIx]
  | some i=>
   simp only [sliceBounds,HT.sIx,Option.getD_none,show (1:Int) > 0 by decide,if_true]
   by_cases h:i < 0
   ·simp only [h,if_true]<;>omega
   ·simp only [h,if_false]<;>omega
theorem jF (its:List Value)(lo hi:Option Int):slicePick its.toArray lo hi none=((its.drop (HT.sIx its.length 0 lo)).take (HT.sIx its.length its.length hi - HT.sIx its.length 0 lo)).toArray:=by
 obtain ⟨h1,h2,h3⟩:=kr lo hi its.toArray.size
 unfold slicePick
 rw [h1,h2,h3]
 simp only [sliceRange_one,pick_run,List.size_toArray]<;>rfl
noncomputable def vn (K:JA):V->Option Int->Option Int->Hp->VK->Prop:=fun x lo hi H Q=>∃a xs,x=.ref a/\SqL K H a xs/\∀p,H p=none->Q (.ref p) (upd H p (.lst (k8 xs lo hi)))
theorem qR:SlR X (vn X.K):=by
 intro pins s σ H x v vl vu lo hi sl Q I rx hs pl pu h
 obtain ⟨a,xs,rfl,hx,q⟩:=h
 cases rx
 obtain ⟨its,r,ht,hz⟩:=I.list hx
 have hlen:=r.length
 refine ⟨"list",_,slot_list_getitem.lookup,ht.isList.typeIs,?_⟩
 refine wpAny_getItem_list_slice ht.isList hs pl pu .none (by simp) ?_ (by rw [List.size_toArray]<;>omega)
 rw [jF,←hlen]
 refine ⟨.ref s.heap.objs.size,_,I.laid (t':=s.toks) (o:=.lst (k8 xs lo hi)) (fun b ob q=>Heap.get?_push_of_some _ q) (Nat.le_refl _) ?_,rfl,q _ (I.hok.fresh (Nat.le_refl _))⟩
 exact ⟨Nat.le_trans (lg xs lo hi) hz,_,0,(r.drop (HT.sIx xs.length 0 lo)).take (HT.sIx xs.length xs.length hi - HT.sIx xs.length 0 lo),Heap.get?_push_size _ rfl⟩
noncomputable def aQ:V->Bool
 | .non=>true
 | .bl _=>true
 | .int _=>true
 | .str _=>true
 | _=>false
noncomputable def eqV:V->V->Bool
 | .non,.non=>true
 | .bl a,.bl b=>a == b
 | .bl a,.int b=>(if a then 1 else 0) == b
 | .int a,.bl b=>a == (if b then 1 else 0)
 | .int a,.int b=>a == b
 | .str a,.str b=>a == b
 | _,_=>false
theorem g9 {A:Around}{s:Shared}{y x:V}{u v:Value}(ry:aY y u)(rx:aY x v)(fy:aQ y=true)(fx:aQ x=true):SeqAt.EqAt A s u v (eqV y x):=by
 cases y with
 | non=>
  cases ry
  cases x with
  | non=>cases rx;exact SeqAt.EqAt.same _
  | bl b=>cases rx;exact SeqAt.EqAt.none_bool b
  | int b=>obtain ⟨t,rfl⟩:=rx;exact SeqAt.EqAt.none_int b t
  | str b=>obtain ⟨t,rfl⟩:=rx;exact SeqAt.EqAt.none_str b t
  | _=>exact absurd (show false=true from fx) Bool.false_ne_true
 | bl a=>
  cases ry
  cases x with
  | non=>cases rx;exact SeqAt.EqAt.bool_none a
  | bl b=>cases rx;exact SeqAt.EqAt.bool_bool a b
  | int b=>obtain ⟨t,rfl⟩:=rx;exact SeqAt.EqAt.bool_int a b t
  | str b=>obtain ⟨t,rfl⟩:=rx;exact SeqAt.EqAt.bool_str a b t
  | _=>exact absurd (show false=true from fx) Bool.false_ne_true
 | int a=>
  obtain ⟨t',rfl⟩:=ry
  cases x with
  | non=>cases rx;exact SeqAt.EqAt.int_none a t'
  | bl b=>cases rx;exact SeqAt.EqAt.int_bool a t' b
  | int b=>obtain ⟨t,rfl⟩:=rx;exact SeqAt.EqAt.int_int a t' b t
  | str b=>obtain ⟨t,rfl⟩:=rx;exact SeqAt.EqAt.int_str a t' b t
  | _=>exact absurd (show false=true from fx) Bool.false_ne_true
 | str a=>
  obtain ⟨t',rfl⟩:=ry
  cases x with
  | non=>cases rx;exact SeqAt.EqAt.str_none a t'
  | bl b=>cases rx;exact SeqAt.EqAt.str_bool a t' b
  | int b=>obtain ⟨t,rfl⟩:=rx;exact SeqAt.EqAt.str_int a t' b t
  | str b=>obtain ⟨t,rfl⟩:=rx;exact SeqAt.EqAt.str_str a t' b t
  | _=>exact absurd (show false=true from fx) Bool.false_ne_true
 | _=>exact absurd (show false=true from fy) Bool.false_ne_true
noncomputable def eqU (x:V)(u:Value):Bool:=match u with
 | .none=>eqV .non x
 | .bool b=>eqV (.bl b) x
 | .int i _=>eqV (.int i) x
 | .str z _=>eqV (.str z) x
 | _=>false
theorem ma {x y:V}{u:Value}(r:aY y u)(f:aQ y=true):eqU x u=eqV y x:=by
 cases y with
 | non=>cases r;rfl
 | bl b=>cases r;rfl
 | int i=>obtain ⟨t,rfl⟩:=r;rfl
 | str z=>obtain ⟨t,rfl⟩:=r;rfl
 | _=>exact absurd (show false=true from f) Bool.false_ne_true
theorem gB {x:V}:∀{xs:List V} {us:List Value},aM xs us->xs.all aQ=true->us.any (eqU x)=xs.any fun y=>eqV y x
 | _,_,.nil,_=>rfl
 | y::xs,u::us,.cons r t,f=>by
  rw [List.all_cons,Bool.and_eq_true] at f
  rw [List.any_cons,List.any_cons,ma r f.1,gB t f.2]
theorem dA {A:Around}{s:Shared}{x:V}{v:Value}(rx:aY x v)(fx:aQ x=true):∀{xs:List V} {us:List Value},aM xs us->xs.all aQ=true->∀u∈us,SeqAt.EqAt A s u v (eqU x u)
 | _,_,.nil,_=>fun u hu=>by cases hu
 | y::xs,u::us,.cons r t,f=>fun u' hu=>by
  rw [List.all_cons,Bool.and_eq_true] at f
  rcases List.mem_cons.mp hu with rfl | hu
  ·rw [ma r f.1];exact g9 r rx f.1 fx
  ·exact dA rx fx t f.2 u' hu
noncomputable def inV (x:V)(xs:List V):Bool:=xs.any fun y=>eqV y x
noncomputable def rIn (K:JA)(neg:Bool):R2:=fun x y H Q=>∃p xs,y=.ref p/\(SqL K H p xs\/SqT K H p xs)/\aQ x=true/\xs.all aQ=true/\Q (.bl (if neg then !inV x xs else inV x xs)) H
theorem nX:OpR X (compareOp .In) (rIn X.K false):=by
 intro pins s σ H x y v u Q I rx ry h
 obtain ⟨p,xs,rfl,hq,fx,fs,q⟩:=h
 cases ry
 rcases hq with hq | hq
 ·obtain ⟨its,r,pl,hz⟩:=I.list hq
  refine SeqAt.in_listAt (eqU x) pl.isList (fun w hw=>dA rx fx r fs w (by simpa using hw)) ⟨.bl _,H,I,rfl,?_⟩
  rw [show its.toArray.any (eqU x)=its.any (eqU x) by simp,gB r fs]
  exact q
 ·obtain ⟨its,r,pl,hz⟩:=I.tuple hq
  refine SeqAt.in_tupleAt (eqU x) pl (fun w hw=>dA rx fx r fs w (by simpa using hw)) ⟨.bl _,H,I,rfl,?_⟩
  rw [show its.toArray.any (eqU x)=its.any (eqU x) by simp,gB r fs]
  exact q
theorem ku:OpR X (compareOp .NotIn) (rIn X.K true):=by
 intro pins s σ H x y v u Q I rx ry h
 obtain ⟨p,xs,rfl,hq,fx,fs,q⟩:=h
 cases ry
 rcases hq with hq | hq
 ·obtain ⟨its,r,pl,hz⟩:=I.list hq
  refine SeqAt.notIn_listAt (eqU x) pl.isList (fun w hw=>dA rx fx r fs w (by simpa using hw)) ⟨.bl _,H,I,rfl,?_⟩
  rw [show its.toArray.any (eqU x)=its.any (eqU x) by simp,gB r fs]
  exact q
 ·obtain ⟨its,r,pl,hz⟩:=I.tuple hq
  refine SeqAt.notIn_tupleAt (eqU x) pl (fun w hw=>dA rx fx r fs w (by simpa using hw)) ⟨.bl _,H,I,rfl,?_⟩
  rw [show its.toArray.any (eqU x)=its.any (eqU x) by simp,gB r fs]
  exact q
theorem kv:bW X (.builtin "len") (fun xs H Q=>∃p ys,xs=[.ref p]/\(SqL X.K H p ys\/SqT X.K H p ys)/\Q (.int ys.length) H):=by
 intro pins s σ H xs us Q I r h
 obtain ⟨p,ys,rfl,hq,q⟩:=h
 obtain ⟨u,rfl,rx⟩:=mQ r
 cases rx
 have hn:=iW
 rcases hq with hq | hq
 ·obtain ⟨its,r',pl,hz⟩:=I.list hq
  have hlen:=r'.length
  exact Calls.call_len_list pl.isList (by simp only [List.size_toArray]<;>omega) ⟨.int ys.length,H,I.tok _,⟨s.toks+1,by rw [List.size_toArray,hlen]⟩,q⟩
 ·obtain ⟨its,r',pl,hz⟩:=I.tuple hq
  have hlen:=r'.length
  exact len_tuple pl (by simp only [List.size_toArray]<;>omega) ⟨.int ys.length,H,I.tok _,⟨s.toks+1,by rw [List.size_toArray,hlen]⟩,q⟩
theorem kx:bW X (.type "list") (fun xs H Q=>∃p ys,xs=[.ref p]/\(SqL X.K H p ys\/SqT X.K H p ys)/\∀l,H l=none->Q (.ref l) (upd H l (.lst ys))):=by
 intro pins s σ H xs us Q I r h
 obtain ⟨p,ys,rfl,hq,q⟩:=h
 obtain ⟨u,rfl,rx⟩:=mQ r
 cases rx
 have fin:∀(its:List Value),aM ys its->ys.length<=sizeLine->∀(h':Heap) (c':Nat),(∀b o',s.heap.get? b=some o'->h'.get? b=some o')->
   h'.get? s.heap.objs.size=some {cls:=.type "list",dict:=none,data:=.seq its.toArray c',slots:=#[]}->EP X pins σ Q (.ref s.heap.objs.size) {s with heap:=h'}:=fun its r' hz h' c' kp e=>
  ⟨.ref s.heap.objs.size,_,I.laid (t':=s.toks) kp (Nat.le_refl _) (show cw X.prog X.w _ h' _ (.lst ys) from ⟨hz,its,c',r',e⟩),rfl,q _ (I.hok.fresh (Nat.le_refl _))⟩
 rcases hq with hq | hq
 ·obtain ⟨its,r',pl,hz⟩:=I.list hq
  have hlen:=r'.length
  obtain ⟨o,ho,hc,n,hd⟩:=pl.isList
  exact call_list_seq p (.inl rfl) ho hc hd (fun h' c' kp e=>fin its r' hz h' c' kp e) (by simp only [List.size_toArray]<;>omega)
 ·obtain ⟨its,r',pl,hz⟩:=I.tuple hq
  have hlen:=r'.length
  obtain ⟨o,ho,hc,n,hd⟩:=pl
  exact call_list_seq p (.inr rfl) ho hc hd (fun h' c' kp e=>fin its r' hz h' c' kp e) (by simp only [List.size_toArray]<;>omega)
def tyV (K:JA)(T:String)(x:V)(H:Hp):Prop:=match x with
 | .str _=>T="str"
 | .int _=>T="int"
 | .ref p=>(T="list"/\∃xs,SqL K H p xs)\/(T="tuple"/\∃o,K.lookup p=some o/\o.cls=.type "tuple"/\o.dict=none)\/
   (T="dict"/\((∃kvs,H p=some (.dK kvs))\/∃kvs,H p=some (.dT kvs)))\/(T="set"/\∃S n,H p=some (.set S n))
 | _=>False
theorem px {pins:List (Addr×Obj)}{σ:St}{H:Hp}{s:Shared}{T:String}{x:V}{v:Value}(I:Inv X pins σ H s)(r:aY x v)(ty:tyV X.K T x H) :
  s.TypeIs v T/\∀a,v=.ref a->∃ob,s.heap.get? a=some ob/\ob.dict=none:=by
 cases x with
 | str z=>
  obtain ⟨t,rfl⟩:=r
  cases (show T="str" from ty)
  exact ⟨typeIs_str s z t,fun _ e=>nomatch e⟩
 | int i=>
  obtain ⟨t,rfl⟩:=r
  cases (show T="int" from ty)
  exact ⟨typeIs_int s i t,fun _ e=>nomatch e⟩
 | ref p=>
  cases r
  rcases ty with ⟨rfl,xs,hq⟩ | ⟨rfl,o,hk,hc,hd⟩ | ⟨rfl,hk⟩ | ⟨rfl,S,n,hk⟩
  ·obtain ⟨its,_,pl,_⟩:=I.list hq
   refine ⟨pl.isList.typeIs,fun a e=>?_⟩
   cases e
   obtain ⟨o,n,e,c,hd,_⟩:=pl
   exact ⟨o,e,hd⟩
  ·refine ⟨⟨o,I.kIn p o hk,hc⟩,fun a e=>?_⟩
   cases e
   exact ⟨o,I.kIn _ o hk,hd⟩
  ·have z:∃o,s.heap.get? p=some o/\o.ExactDict:=by
    rcases hk with ⟨kvs,hk⟩ | ⟨kvs,hk⟩
    ·obtain ⟨_,_,_,_,o,_,_,e,ex,_⟩:=I.hok p _ hk
     exact ⟨o,e,ex⟩
    ·obtain ⟨_,_,_,_,o,_,_,e,ex,_⟩:=I.hok p _ hk
     exact ⟨o,e,ex⟩
   obtain ⟨o,e,ex⟩:=z
   refine ⟨⟨o,e,ex.1⟩,fun a e2=>?_⟩
   cases e2
   exact ⟨o,e,ex.2.1⟩
  ·obtain ⟨o,_,_,_,e,ex,_⟩:=I.hok p _ hk
   refine ⟨⟨o,e,ex.1⟩,fun a e2=>?_⟩
   cases e2
   exact ⟨o,e,ex.2.1⟩
 | _=>exact False.elim ty
noncomputable def vo (K:JA)(T:String)(r:V->List V->Hp->VK->Prop)(to:TE):TE:=fun σ H Q=>to σ H fun x H1=>tyV K T x H1/\r x [] H1 Q
noncomputable def tBM (K:JA)(T:String)(r:V->List V->Hp->VK->Prop)(to:TE)(t:TA):TE:=fun σ H Q=>to σ H fun x H1=>tyV K T x H1/\t σ H1 fun xs H2=>r x xs H2 Q
variable {o e:Expr}{es:List Expr}{to:TE}{t:TA}{name:Str}{apos cpos:Pos}{T id:String}{r:V->List V->Hp->VK->Prop}
theorem ug (pa:PlainAttrs T)(slot:Slot T name id)(hty:typeOf (.builtin id)=pure (.type "method_descriptor"))(hm:MtR X id r)(ho:PE X o to)
  (hbase:attributeBase o name X.env (eval o X.env)=eval o X.env:=by rfl) (hline:(apos.endLine == cpos.line)=true:=by rfl):PE X (.Call (.Attribute o name apos) [] [] cpos) (vo X.K T r to):=by
 intro pins s σ H Q I h
 refine wpAny_Call_method0_late hbase hline (thn (ho pins s σ H _ I h) fun v s1 ⟨x,H1,I1,r1,ty,q1⟩=>?_)
 obtain ⟨h1,h2⟩:=px I1 r1 ty
 exact ⟨T,id,pa,slot,hty,h1,h2,Calls.callWith_builtin rfl (PySem.evalArgs_none (hm pins s1 σ H1 x [] v [] Q I1 r1 .nil q1))⟩
theorem eT (pa:PlainAttrs T)(slot:Slot T name id)(hty:typeOf (.builtin id)=pure (.type "method_descriptor"))(hm:MtR X id r)(ho:PE X o to)(ha:PA X (e::es) t)
  (hbase:attributeBase o name X.env (eval o X.env)=eval o X.env:=by rfl)
  (hfew:((backTo cpos (starEach (e::es) X.env)).all (fun x=>!x.1) && (backToKw cpos (keywordEach [] X.env)).all (fun x=>x.1.isSome)
   && decide ((e::es).length+([]:List Keyword).length+(if ([]:List Keyword).isEmpty then 0 else 1) < 30))=true:=by rfl)
  (hline:(apos.endLine == cpos.line)=true:=by rfl) (hs:starEach (e::es) X.env=(false,eval e X.env)::starEach es X.env:=by rfl) (hplain:(backTo cpos (starEach es X.env)).any (·.1)=false:=by rfl) :
  PE X (.Call (.Attribute o name apos) (e::es) [] cpos) (tBM X.K T r to t):=by
 intro pins s σ H Q I h
 refine wpAny_Call_method_late hbase hfew hline rfl (thn (ho pins s σ H _ I h) fun v s1 ⟨x,H1,I1,r1,ty,q1⟩=>?_)
 obtain ⟨h1,h2⟩:=px I1 r1 ty
 refine ⟨T,id,pa,slot,hty,h1,h2,?_⟩
 have hA:=ha cpos pins s1 σ H1 _ I1 q1
 rw [hs] at hA ⊢
 refine Calls.callWith_builtin (by show (false || (backTo cpos (starEach es X.env)).any (·.1))=false;rw [hplain]<;>rfl) (Calls.evalArgs_plain ?_)
 exact thn hA fun us s2 ⟨vs,H2,I2,r2,q2⟩=>hm pins s2 σ H2 x vs v us Q I2 r1 r2 q2
end
def MtM (X:Cx)(id:String)(r:V->List V->Hp->VK->Prop):Prop:=
 ∀(pins:List (Addr×Obj)) (s:Shared) (σ:St) (H:Hp) (x:V) (xs:List V) (v:Value) (us:List Value) (Q:VK),Inv X pins σ H s->aY x v->aM xs us->r x xs H Q->
  wpAny (model X.prog X.w) X.A (call (.builtin id) (v::us)) (EP X pins σ Q) X.xe s
theorem aM.one:∀{x:V} {us:List Value},aM [x] us->∃u,us=[u]/\aY x u
 | _,_,.cons r .nil=>⟨_,rfl,r⟩
theorem aM.two:∀{x y:V} {us:List Value},aM [x,y] us->∃u v,us=[u,v]/\aY x u/\aY y v
 | _,_,_,.cons r (.cons q .nil)=>⟨_,_,rfl,r,q⟩
theorem aM.zero:∀{us:List Value},aM [] us->us=[]
 | _,.nil=>rfl
theorem aM.dropLast {xs:List V}{us:List Value}(h:aM xs us):aM xs.dropLast us.dropLast:=by
 induction h with
 | nil=>exact .nil
 | cons r t ih=>
  cases t with
  | nil=>exact .nil
  | cons q t'=>exact .cons r ih
theorem md {α:Type}(l:List α):l.eraseIdx (l.length - 1)=l.dropLast:=by
 induction l with
 | nil=>rfl
 | cons a r ih=>
  cases r with
  | nil=>rfl
  | cons b r=>
   have e:(a::b::r).length - 1=((b::r).length - 1)+1:=by
    have h1:(a::b::r).length=r.length+2:=rfl
    have h2:(b::r).length=r.length+1:=rfl
    omega
   rw [e,List.eraseIdx_cons_succ,ih]
   all_goals rfl
section
variable {X:Cx}{pins:List (Addr×Obj)}{σ:St}{H:Hp}{s:Shared}{l b:Addr}{xs ys zs:List V}
theorem Inv.lset {its its':List Value}{n:Nat}{f:Array Value->Array Value}{t':Nat}(I:Inv X pins σ H s)(hH:H l=some (.lst xs))
  (e:s.heap.get? l=some {cls:=.type "list",data:=.seq its.toArray n}) (hf:f its.toArray=its'.toArray) (hv:aM ys its') (hz:ys.length<=sizeLine) :
  Inv X pins σ (upd H l (.lst ys)) {s with heap:=s.heap.update l (Obj.mapSeq f),toks:=t'}:=by
 have q:=PySem.IsL.update e f
 rw [hf] at q
 refine I.write (x:=l) (e:=l) (by rw [hH];exact trivial) (.inl rfl) (fun b' u hb hu=>(Heap.get?_update_other s.heap (Obj.mapSeq f) (Ne.symm hb)).trans hu) ⟨_,q⟩ ?_
 exact ⟨hz,its',_,hv,q⟩
theorem Inv.fresh (I:Inv X pins σ H s):H s.heap.objs.size=none:=I.hok.fresh (Nat.le_refl _)
theorem Inv.lstM (I:Inv X pins σ H s)(hH:H l=some (.lst xs)):xs.length<=sizeLine/\∃(its:List Value) (n:Nat),aM xs its/\xs.length=its.length/\s.heap.get? l=some {cls:=.type "list",data:=.seq its.toArray n}:=by
 obtain ⟨z,its,n,r,e⟩:=I.hok l _ hH
 exact ⟨z,its,n,r,r.length,e⟩
end
section
variable {X:Cx}
noncomputable def mX:V->List V->Hp->VK->Prop:=fun x vs H Q=>∃l xs y,x=.ref l/\vs=[y]/\H l=some (.lst xs)/\xs.length < sizeLine/\Q .non (upd H l (.lst (xs++[y])))
theorem nY:MtM X "list.append" mX:=by
 intro pins s σ H x vs v us Q I rx rv h
 obtain ⟨l,xs,y,rfl,rfl,hH,hz,q⟩:=h
 cases rx
 obtain ⟨u,rfl,ru⟩:=rv.one
 obtain ⟨z,its,n,r,hl,e⟩:=I.lstM hH
 refine call_meets F.slot_list_append ⟨_,e,rfl⟩ F.entry_list_append (F.args_list_append_2 _ _) (PySem.list_append l its.toArray n u (by rw [List.size_toArray];omega)) ⟨e,?_⟩
 refine ⟨.non,_,I.lset (its':=its++[u]) hH e (by simp) (r.append (.cons ru .nil)) ?_,rfl,q⟩
 rw [List.length_append,List.length_singleton]
 omega
noncomputable def uh:V->List V->Hp->VK->Prop:=fun x vs H Q=>∃l xs y,x=.ref l/\vs=[]/\H l=some (.lst xs)/\xs[xs.length - 1]?=some y/\Q y (upd H l (.lst xs.dropLast))
theorem ui:MtM X "list.pop" uh:=by
 intro pins s σ H x vs v us Q I rx rv h
 obtain ⟨l,xs,y,rfl,rfl,hH,hy,q⟩:=h
 cases rx
 have hus:=rv.zero
 subst hus
 obtain ⟨z,its,n,r,hl,e⟩:=I.lstM hH
 obtain ⟨u,hu,ru⟩:=r.get hy
 have hy':its.toArray[its.toArray.size - 1]?=some u:=by
  show its.toArray[its.length - 1]?=some u
  rw [←Array.getElem?_toList,←hl]
  exact hu
 refine call_meets F.slot_list_pop ⟨_,e,rfl⟩ F.entry_list_pop (F.args_list_pop_1 _) (MeetsSeq.list_pop_last l its.toArray n u hy' (by rw [List.size_toArray];omega)) ⟨e,?_⟩
 refine ⟨y,_,I.lset (its':=its.dropLast) hH e ?_ r.dropLast ?_,ru,q⟩
 ·show its.toArray.eraseIdxIfInBounds (its.toArray.size - 1)=its.dropLast.toArray
  rw [List.size_toArray,List.eraseIdxIfInBounds_toArray,md]
 ·rw [List.length_dropLast]
  omega
end
section
variable {prog:Program}{w:World}{A:Around}{E:Value->Shared->Prop}{s:Shared}
set_option maxRecDepth 100000 in
end
end L2
namespace Att
open PySem PySem.W PySem.Calls PyProof.Rows
theorem iE {P:Params}{h:Heap}:∀(ns:List Int) (vs:List Value),WellAll P h vs (ns.map WData.int)->IntsAre vs ns:=by
 intro ns
 induction ns with
 | nil=>
  intro vs w
  rw [List.map_nil] at w
  cases w
  exact .nil
 | cons n ns ih=>
  intro vs w
  rw [List.map_cons] at w
  cases w with
  | cons a b=>
   cases a
   exact .cons _ _ (ih _ b)
theorem nZ {l:OpenLaw}{n:Nat}(hn:l.most=some n){P:Params}{h:Heap}{args:List WData}{vals:List Value}
  (hpre:l.row.toRowW.claim.pre args=true) (hwl:WellAll P h vals args) :
  ∃a vs ns,vals=[Value.ref a]/\args=[WData.list (ns.map WData.int)]/\h.get? a=some {cls:=.type "list",data:=.seq vs.toArray}/\IntsAre vs ns/\ns.length<=n:=by
 have hsh:WShape.hasAll [] args [.list .int]=true:=(pre_splitW hpre).1
 have hc:l.pre.holds [] {args:=args}=true:=(pre_splitW hpre).2
 obtain ⟨d,r,rfl,h1,h2⟩:=hasAllW_cons hsh
 obtain rfl:=hasAllW_nil h2
 obtain ⟨xs,rfl,h3⟩:=hasW_list h1
 obtain ⟨ns,rfl⟩:=items_int h3
 have hlen:ns.length<=n:=by
  unfold OpenLaw.pre at hc
  have h4:(WTm.not (.lt (.lit (.int (n:Int))) (.len (.arg 0)))).holds [] {args:=[.list (ns.map .int)]}=true:=by
   have h4:=(holds_andW hc).1
   rw [hn] at h4
   exact h4
  have h5:=condW_of h4 (w_not (w_lt w_lit (w_len_list (w_arg rfl))))
  rw [JB] at h5
  refine Nat.le_of_not_lt fun q=>?_
  have q':(n:Int) < ((ns.length:Nat):Int):=by omega
  first
   | (rw [decide_eq_true q'] at h5;exact absurd h5 (by decide))
   | (simp at h5;omega)
 cases hwl with
 | cons w1 w2=>
  cases w2
  cases w1 with
  | list ho hall=>exact ⟨_,_,ns,rfl,rfl,ho,iE ns _ hall,hlen⟩
theorem n6 (l:OpenLaw)(args:List WData):l.row.toRowW.claim.post args (.bool true) args=true:=
 postW_of (r:=l.row.toRowW) (X:=(true == true))
  (show WShape.has [] (.bool true) .bool=true by first | rfl | decide | simp [WShape.has,WShape.arms,WShape.armsAll])
  (show (WTm.eq .res (.lit (.bool true))).value [] {args:=args,res:=some (.bool true),after:=args}=some (.bool (true == true)) from w_eq_bool (w_res rfl) w_lit) rfl
theorem lh {l:OpenLaw}{n:Nat}{q:Program}{loose:List Str}{XP:(Str->Option Value)->Heap->Prop}{YP:World->Heap->Prop}{d:DefRec}
  (hn:l.most=some n) (hdf:d.params.defaults=[])
  (call:∀(w:World) (s₀ s₁:Shared) (mg mb:Str->Option Value) (fa:Addr) (o:Obj) (pm cd doc:Value) (a:Addr) (vs:List Value) (ns:List Int),
   Ground q loose [] XP w s₀ mg mb s₁.heap->YP w s₁.heap->
   s₁.heap.get? fa=some o->o.data=.func (docDef d.name d.params d.body d.scope pm cd doc)->s₁.heap.CodeRec cd d.name->mg d.name=some (.ref fa)->
   s₁.heap.get? a=some {cls:=.type "list",data:=.seq vs.toArray}->IntsAre vs ns->ns.length<=n->s₁.gens=#[]->
   codeAny (model l.prog w) callerA (.call (.ref fa) ⟨[.ref a],[]⟩) (fun r s'=>r=.ok (.ret (.bool true))/\OldK s₁.heap s'.heap/\s'.os=s₁.os/\AllBare s'.gens) s₁) :
  WalkO q loose XP YP l.row.toRowW d [] (fun f vs=>PySem.call f vs):=by
 intro w s₀ s₁ mg mb G Y fa o pm cd doc dV kV ho hd hcd hD hmg hg args vals as hpre hlay hrd hwl hlo
 obtain rfl:dV=.none:=Dflts.none hD hdf
 obtain rfl:kV=.none:=Dflts.noKw hD
 obtain ⟨a,vs,ns,rfl,rfl,hobj,hints,hlen⟩:=nZ hn hpre hwl
 refine enter_call (codeAny_mono (call w s₀ s₁ mg mb fa o pm cd doc a vs ns G Y ho (fd_plain hd) hcd hmg hobj hints hlen hg) fun r s' hq=>?_)
 obtain ⟨rfl,h2,h3,h4⟩:=hq
 exact ⟨.inl ⟨.bool true,.bool true,[],rfl,fun _=>rfl,.bool true,n6 l _,fun _=>⟨List.Pairwise.nil,fun _ hm=>(nomatch hm)⟩⟩,h2,h3,h4⟩
end Att
namespace L2
open PySem PySem.Spec PyProof.Rows
theorem jX:∀{vs:List Value} {ns:List Int},IntsAre vs ns->aM (ns.map V.int) vs
 | _,_,.nil=>.nil
 | _,_,.cons n t h=>.cons ⟨t,rfl⟩ (jX h)
def uj (H:Hp):Prop:=∀b,H b=none\/∃o xs,H b=some (.frz o (.lst xs))
theorem pz {P:Program}{w:World}{K:JA}{mg mb:Str->Option Value}{CX:CXT}{k:Nat}{fa a:Addr}{fd:FuncData}{x:Str}{sp:Sp}{s₁:Shared}{vs:List Value}{ns:List Int}
  (KX:K.In s₁.heap) (hns:s₁.heap.Ns mainGlobals mg) (hb:s₁.heap.Ns builtinsNs mb) (hbb:∀x:Str,x≠"__name__"->mb x=bootBuiltins x) (hlim:s₁.heap.NoLimit) (hg:s₁.gens=#[])
  (ha:s₁.heap.get? a=some {cls:=.type "list",data:=.seq vs.toArray}) (hi:IntsAre vs ns) (hl:ns.length<=sizeLine) (hr:bp k callerA)
  (F:∀base:Heap,K.In base->base.Ns mainGlobals mg->c5 P w K mg base CX k fa fd [x] sp) (hbind:∀(s:Shared) (u:Value),BindsTo s fd ⟨[u],[]⟩ [(x,u)])
  (hsp:∀H:Hp,uj H->SqL K H a (ns.map V.int)->sp [.ref a] H (fun v _=>v=.bl true) fun _ _ _=>False)
  (hCX:∀H e s',CX [] H s₁ (fun _ _ _=>False) e s'->False) :
  codeAny (model P w) callerA (.call (.ref fa) ⟨[.ref a],[]⟩) (fun r s'=>r=.ok (.ret (.bool true))/\OldK s₁.heap s'.heap/\s'.os=s₁.os/\AllBare s'.gens) s₁:=by
 have rv:=jX hi
 have lenV:=hi.length
 have core:∀H:Hp,uj H->SqL K H a (ns.map V.int)->HOk P w H s₁.heap->(∀b,H b≠none->b=a)->(H a≠none->K.lookup a=none)->
   codeAny (model P w) callerA (.call (.ref fa) ⟨[.ref a],[]⟩) (fun r s'=>r=.ok (.ret (.bool true))/\OldK s₁.heap s'.heap/\s'.os=s₁.os/\AllBare s'.gens) s₁:=by
  intro H hO hS hok hA hK
  have base_of:∀{b:Addr} {o:Obj},s₁.heap.get? b=some o->H b=none->(ki s₁.heap H).get? b=some o:=fun e n=>oM e n
  have noA:∀{b:Addr} {o:Obj} {es:Array DictEntry} {ep:Nat},s₁.heap.get? b=some o->o.data=.dict es ep->H b=none:=fun {b o es ep} e d=>by
   cases q:H b with
   | none=>rfl
   | some u=>
    have e':b=a:=hA b (by rw [q];simp)
    subst e'
    rw [ha] at e;cases e
    have d':Data.seq vs.toArray _=Data.dict es ep:=d
    cases d'
  have nsK:∀{b:Addr} {m:Str->Option Value},s₁.heap.Ns b m->(ki s₁.heap H).Ns b m:=fun {b m} ⟨o,es,ep,e,d,r⟩=>⟨o,es,ep,base_of e (noA e d),d,r⟩
  have hKb:K.In (ki s₁.heap H):=fun b o e=>base_of (KX b o e) (by
   cases q:H b with
   | none=>rfl
   | some u=>
    have e':b=a:=hA b (by rw [q];simp)
    subst e'
    rw [hK (by rw [q];simp)] at e;cases e)
  have hM:Mod K mg (ki s₁.heap H):=⟨hKb,nsK hns,⟨mb,nsK hb,hbb⟩,let ⟨mc,h1,h2⟩:=hlim;⟨mc,nsK h1,h2⟩⟩
  have e0:l5 P w K mg (ki s₁.heap H) callerA [] s₁ H:=⟨rfl,hM,fun b o e=>qC e,Nat.le_of_eq (nN _ _),trivial,fun b hb=>absurd (show b∈([]:List Addr) from hb) (by simp),hok,.of_eq hg⟩
  refine codeAny_mono ((F _ hKb (nsK hns)).run callerA [] s₁ H ⟨[.ref a],[]⟩ [.ref a] [.ref a] _ _ hr e0 (hbind s₁ (.ref a)) (.cons rfl .nil) (hsp H hO hS)) fun r s' h=>?_
  cases r with
  | error e=>exact (hCX H e s' h).elim
  | ok fl=>
   cases fl with
   | next=>exact False.elim h
   | brk=>exact False.elim h
   | cont=>exact False.elim h
   | ret u=>
    obtain ⟨v,H',os,bare,un,hok',r',q⟩:=h
    have q':v=.bl true:=q
    subst q'
    obtain rfl:u=Value.bool true:=r'
    refine ⟨rfl,OldK.of_keep fun b o e=>?_,os,bare⟩
    cases q:H b with
    | none=>exact un.keep b o e q (by intro z;exact absurd (show b∈([]:List Addr) from z) (by simp)) (by simp)
    | some u=>
     rcases hO b with z | ⟨ob,xs,z⟩
     ·rw [q] at z;cases z
     ·have z2:=un.frzs b ob _ z
      obtain ⟨e1,_⟩:=hok b _ z
      obtain ⟨e2,_⟩:=hok' b _ z2
      rw [e] at e1;cases e1
      exact e2
 cases hk:K.lookup a with
 | some o=>
  have e:=KX a o hk
  rw [ha] at e
  cases e
  refine core (fun _=>none) (fun _=>.inl rfl) (.inr ⟨_,vs.toArray,_,hk,rfl,rfl,rfl,by rw [List.size_toArray,lenV];exact hl,by simpa using rv⟩) (fun b u z=>by have z':(none:Option HO)=some u:=z;cases z') (fun b z=>absurd rfl z) fun z=>absurd rfl z
 | none=>
  refine core (fun b=>if b=a then some (.frz {cls:=.type "list",data:=.seq vs.toArray} (.lst (ns.map V.int))) else none) (fun b=>?_) (.inl (.inr ⟨{cls:=.type "list",data:=.seq vs.toArray},if_pos rfl⟩)) (fun b u z=>?_) (fun b z=>?_) fun _=>hk
  ·by_cases hb:b=a
   ·exact .inr ⟨_,_,if_pos hb⟩
   ·exact .inl (if_neg hb)
  ·by_cases hb:b=a
   ·have z':=(if_pos hb).symm.trans z
    cases z'
    subst hb
    exact ⟨ha,by rw [JB];exact hl,vs,_,rv,ha⟩
   ·have z':=(if_neg hb).symm.trans z
    cases z'
  ·by_cases hb:b=a
   ·exact hb
   ·exact absurd (if_neg hb) z
theorem qS {l:W.OpenLaw}{n k:Nat}{q:Program}{loose:List Str}{XP:(Str->Option Value)->Heap->Prop}{YP:World->Heap->Prop}{d:DefRec}{K:Params->JA}{CX:World->CXT}{sp:World->Sp}{x:Str}
  (hn:l.most=some n) (hn2:n<=sizeLine) (hdf:d.params.defaults=[]) (hr:bp k callerA)
  (hY:∀(w:World) (h:Heap),YP w h->(K w.params).In h)
  (F:∀(w:World) (mg:Str->Option Value) (fa:Addr) (h:Heap),(K w.params).In h->h.Ns mainGlobals mg->mg d.name=some (.ref fa)->
   ∃fd:FuncData,(∀(s:Shared) (u:Value),BindsTo s fd ⟨[u],[]⟩ [(x,u)])/\
    ∀base:Heap,(K w.params).In base->base.Ns mainGlobals mg->c5 l.prog w (K w.params) mg base (CX w) k fa fd [x] (sp w))
  (hsp:∀(w:World) (H:Hp) (a:Addr) (ns:List Int),ns.length<=n->uj H->SqL (K w.params) H a (ns.map V.int)->sp w [.ref a] H (fun v _=>v=.bl true) fun _ _ _=>False)
  (hCX:∀(w:World) (H:Hp) (s:Shared) (e:Value) (s':Shared),CX w [] H s (fun _ _ _=>False) e s'->False) :
  W.WalkO q loose XP YP l.row.toRowW d [] (fun f vs=>PySem.call f vs):=by
 refine Att.lh hn hdf fun w s₀ s₁ mg mb fa o pm cd doc a vs ns G Y ho hd hcd hmg hobj hints hlen hg=>?_
 have KX:=hY w _ Y
 obtain ⟨fd,hb,hF⟩:=F w mg fa _ KX G.T.g hmg
 exact pz KX G.T.g G.T.b G.T.builtins G.T.nolimit hg hobj hints (Nat.le_trans hlen hn2) hr hF hb (fun H hO hS=>hsp w H a ns hlen hO hS) fun H e s'=>hCX w H s₁ e s'
noncomputable def dW (s:Stmt)(j:Nat):Stmt:=match s with
 | .ClassDef _ _ _ body _ _ _ _ _ _ _=>body.getD j (.Pass ⟨0,0,0,0⟩)
 | _=>.Pass ⟨0,0,0,0⟩
noncomputable def bw (s:Stmt):Arguments:=match s with
 | .FunctionDef _ a _ _ _ _ _ _ _ _=>a
 | _=>{posonlyargs:=[],args:=[],vararg:=none,kwonlyargs:=[],kw_defaults:=[],kwarg:=none,defaults:=[]}
noncomputable def a8 (s:Stmt):List Stmt:=match s with
 | .FunctionDef _ _ b _ _ _ _ _ _ _=>b
 | _=>[]
noncomputable def ao (s:Stmt):Scope:=match s with
 | .FunctionDef _ _ _ _ _ _ sc _ _ _=>sc
 | _=>{kind:=.function,names:=[],isGenerator:=false,isCoroutine:=false}
noncomputable abbrev CX0:CXT:=fun _ _ _ _ _ _=>False
noncomputable abbrev E0:XK:=fun _ _ _=>False
theorem jY {X:Cx}:bX CX0 X E0:=fun _ _ _ _ _ _ _ h=>h.elim
structure Fun (K:JA)(x qual:Str)(st:Stmt)(f:Addr)(fd:FuncData):Prop where
 ex:∃(oc:Value) (od:Option Addr) (kV doc pm:Value) (an:Option Addr) (cdv ct:Value) (osl:Array (Option Value)),
  fd=W.fnOf x qual (bw st) (a8 st) (ao st) .none kV doc pm an cdv ct/\K.lookup f=some ⟨oc,od,.func fd,osl⟩/\W.codeIn K cdv qual=true
 kp:W.keepIn K (.ref f)=true
section
variable {P:Program}{w:World}{K:JA}{mg:Str->Option Value}{base:Heap}
theorem Fun.ok {x qual:Str}{st:Stmt}{f:Addr}{fd:FuncData}{N ps:List Str}{k:Nat}{sp:Sp}(F:Fun K x qual st f fd)(S:aN N ps (ao st))(len:∀vs H Q E,sp vs H Q E->vs.length=ps.length)
  (hbody:∀(cdv:Value) (A:Around) (outer:List Env) (s:Shared) (H:Hp) (vs:List V) (Q:VK) (E:XK),bp k (A.deeper (envOfC qual (ao st) s.heap.objs.size f cdv))->sp vs H Q E->
   ∃t,PSs (iX CX0 P w K mg base N qual (ao st) f cdv A outer s H E).nox (a8 st) t/\t {nx:=fun _ H'=>Q .non H',rt:=Q} (eO N vs) H):c5 P w K mg base CX0 (k+1) f fd ps sp:=by
 obtain ⟨oc,od,kV,doc,pm,an,cdv,ct,osl,rfl,lk,hcd⟩:=F.ex
 refine td lk hcd S len fun A outer s H vs Q E hr hsp=>?_
 obtain ⟨t,h,q⟩:=hbody cdv A outer s H vs Q E hr hsp
 exact ⟨t,h.nox,q⟩
theorem Fun.binds {x qual:Str}{st:Stmt}{f:Addr}{fd:FuncData}{ps:List Str}(F:Fun K x qual st f fd)
  (h:∀(kV doc pm:Value) (an:Option Addr) (cdv ct:Value) (us:List Value),us.length=ps.length->bindArgs (W.fnOf x qual (bw st) (a8 st) (ao st) .none kV doc pm an cdv ct) ⟨us,[]⟩=pure (ps.zip us)):bF K fd ps []:=by
 obtain ⟨oc,od,kV,doc,pm,an,cdv,ct,osl,rfl,lk,hcd⟩:=F.ex
 exact .all (h kV doc pm an cdv ct)
theorem me {x qual:Str}{st:Stmt}{f:Addr}{oc:Value}{od an:Option Addr}{osl:Array (Option Value)}{kV doc pm cdv ct:Value}(l:K.lookup f=some ⟨oc,od,.func (W.fnOf x qual (bw st) (a8 st) (ao st) .none kV doc pm an cdv ct),osl⟩)
  (c:W.codeIn K cdv qual=true) (k:W.keepIn K (.ref f)=true):Fun K x qual st f (W.fnOf x qual (bw st) (a8 st) (ao st) .none kV doc pm an cdv ct):=⟨⟨oc,od,kV,doc,pm,an,cdv,ct,osl,rfl,l,c⟩,k⟩
end
theorem cf {n:Nat}(h:n<=1000):n < sizeLine:=Nat.lt_of_le_of_lt h (by decide)
section
variable {X:Cx}
theorem pv (i:Nat){x:Str}{pos:Pos}(hN:X.N[i]?=some x:=by rfl)(hv:Vis X.env.scope x:=by first | exact Or.inl rfl | exact Or.inr (Or.inl rfl) | exact Or.inr (Or.inr rfl))(hd:(x == ("__debug__":Str))=false:=by decide)
  (hcd:(x == ("__classdict__":Str))=false:=by decide):PE X (.Name x pos) (tN i):=tO hN hv hd hcd
end
theorem vp {A B:Prop}(h:B):if false=true then A else B:=by
 rw [if_neg Bool.false_ne_true]
 exact h
theorem vq {A B:Prop}(h:A):if true=true then A else B:=by
 rw [if_pos rfl]
 exact h
def au (H H':Hp):Prop:=∀b o,H b=some o->H' b=some o
theorem au.refl (H:Hp):au H H:=fun _ _ h=>h
theorem au.trans {H H1 H2:Hp}(a:au H H1)(b:au H1 H2):au H H2:=fun c o h=>b c o (a c o h)
theorem au.free {H H':Hp}(e:au H H'){l:Addr}(h:H' l=Option.none):H l=Option.none:=by
 cases q:H l with
 | none=>rfl
 | some o=>
  rw [e l o q] at h
  cases h
theorem au.seq {K:JA}{H H':Hp}{a:Addr}{xs:List V}(e:au H H')(h:SqL K H a xs):SqL K H' a xs:=by
 rcases h with (h | ⟨o,h⟩) | h
 ·exact .inl (.inl (e _ _ h))
 ·exact .inl (.inr ⟨o,e _ _ h⟩)
 ·exact .inr h
end L2
set_option maxHeartbeats 4000000
namespace L2
open PySem PySem.Spec PyProof.Rows
noncomputable def c8 (cells:List (Str×Addr)):List (Str×NameKind)->List (Str×Addr)->List (Str×Addr)
 | [],acc=>acc
 | (n,k)::r,acc=>if (k == NameKind.free)=true then (match cells.lookup n with | some c=>c8 cells r ((n,c)::acc) | none=>c8 cells r acc) else c8 cells r acc
theorem eU {scope:Scope}{env:Env}(h:∀y∈scope.names,y.2=.free->∃c,env.cells.lookup y.1=some c):closureFor scope env=pure (c8 env.cells scope.names []):=by
 have key:∀(l:List (Str×NameKind)) (acc:List (Str×Addr)),(∀y∈l,y.2=.free->∃c,env.cells.lookup y.1=some c)->
   (forIn l acc fun x s=>if (x.snd == NameKind.free)=true then do
       let c ←cellOf env x.fst
       pure (ForInStep.yield ((x.fst,c)::s))
      else pure (ForInStep.yield s))=(pure (c8 env.cells l acc):Sem _):=by
  intro l
  induction l with
  | nil=>intro acc _;rfl
  | cons y r ih=>
   intro acc hy
   obtain ⟨n,k⟩:=y
   have ih':=fun a=>ih a fun z hz=>hy z (List.mem_cons_of_mem _ hz)
   by_cases hk:(k == NameKind.free)=true
   ·obtain ⟨c,hc⟩:=hy (n,k) List.mem_cons_self (by simpa using hk)
    have hc':env.cells.lookup n=some c:=hc
    simp only [List.forIn_cons,hk,if_true,cellOf,hc',pure_bind,c8]
    exact ih' _
   ·simp only [List.forIn_cons,hk,if_false,pure_bind,c8]
    exact ih' _
 simp only [closureFor]
 rw [key _ _ h]
 rfl
theorem iK {cells:List (Str×Addr)}:∀{l:List (Str×NameKind)} {acc:List (Str×Addr)} {x:Str} {c:Addr},(∀x c,acc.lookup x=some c->cells.lookup x=some c)->(c8 cells l acc).lookup x=some c->cells.lookup x=some c
 | [],acc,x,c,h,e=>h x c e
 | (n,k)::r,acc,x,c,h,e=>by
  unfold c8 at e
  split at e
  ·split at e
   ·rename_i d hd
    refine iK (l:=r) (acc:=(n,d)::acc) (fun y b hy=>?_) e
    rw [List.lookup_cons] at hy
    split at hy
    ·rename_i z
     have zn:y=n:=by simpa using z
     cases hy
     rw [zn];exact hd
    ·exact h y b hy
   ·exact iK h e
  ·exact iK h e
theorem gC {cells:List (Str×Addr)}{x:Str}:∀{l:List (Str×NameKind)} {acc:List (Str×Addr)},(∃c,acc.lookup x=some c)->∃c,(c8 cells l acc).lookup x=some c
 | [],acc,h=>h
 | (n,k)::r,acc,h=>by
  unfold c8
  split
  ·split
   ·rename_i d hd
    refine gC (l:=r) ?_
    rw [List.lookup_cons]
    split
    ·exact ⟨_,rfl⟩
    ·exact h
   ·exact gC h
  ·exact gC h
theorem eV {cells:List (Str×Addr)}{x:Str}:∀{l:List (Str×NameKind)} {acc:List (Str×Addr)},l.lookup x=some .free->(∃c,cells.lookup x=some c)->∃c,(c8 cells l acc).lookup x=some c
 | [],acc,h,_=>by simp at h
 | (n,k)::r,acc,h,hc=>by
  rw [List.lookup_cons] at h
  unfold c8
  split at h
  ·rename_i z
   have zn:x=n:=by simpa using z
   cases h
   subst zn
   obtain ⟨c,hc⟩:=hc
   rw [if_pos (by decide),hc]
   refine gC ⟨c,?_⟩
   rw [List.lookup_cons]
   simp
  ·split
   ·split
    ·exact eV h hc
    ·exact eV h hc
   ·exact eV h hc
theorem cF {env:Env}:∀{names:List (Str×NameKind)} {x:Str},names.lookup x=some .free->
  (names.map fun (n,k)=>if (k == NameKind.free && env.scope.kind == .function && env.kindOf n == some .cell) then (n,NameKind.cell) else (n,k)).lookup x=some .cell\/
  (names.map fun (n,k)=>if (k == NameKind.free && env.scope.kind == .function && env.kindOf n == some .cell) then (n,NameKind.cell) else (n,k)).lookup x=some .free
 | [],_,h=>by simp at h
 | (n,k)::r,x,h=>by
  have ih:=@cF env r x
  show List.lookup x ((if (k == NameKind.free && env.scope.kind == .function && env.kindOf n == some .cell)=true then (n,NameKind.cell) else (n,k))::_)=_\/List.lookup x ((if (k == NameKind.free && env.scope.kind == .function && env.kindOf n == some .cell)=true then (n,NameKind.cell) else (n,k))::_)=_
  cases hx:x == n with
  | true=>
   simp only [List.lookup_cons,hx] at h
   cases h
   by_cases hc:(NameKind.free == NameKind.free && env.scope.kind == .function && env.kindOf n == some .cell)=true
   ·rw [if_pos hc];left;simp only [List.lookup_cons,hx]
   ·rw [if_neg hc];right;simp only [List.lookup_cons,hx]
  | false=>
   simp only [List.lookup_cons,hx] at h
   by_cases hc:(k == NameKind.free && env.scope.kind == .function && env.kindOf n == some .cell)=true
   ·rw [if_pos hc];simp only [List.lookup_cons,hx];exact ih h
   ·rw [if_neg hc];simp only [List.lookup_cons,hx];exact ih h
theorem cG {env:Env}:∀{names:List (Str×NameKind)} {x:Str},(∀y∈names,y.2≠NameKind.cell)->
  ((names.map fun (n,k)=>if (k == NameKind.free && env.scope.kind == .function && env.kindOf n == some .cell) then (n,NameKind.cell) else (n,k)).lookup x=some .cell\/
  (names.map fun (n,k)=>if (k == NameKind.free && env.scope.kind == .function && env.kindOf n == some .cell) then (n,NameKind.cell) else (n,k)).lookup x=some .free)->names.lookup x=some .free
 | [],_,_,h=>by simp at h
 | (n,k)::r,x,hn,h=>by
  have ih:=@cG env r x fun y hy=>hn y (List.mem_cons_of_mem _ hy)
  have h':List.lookup x ((if (k == NameKind.free && env.scope.kind == .function && env.kindOf n == some .cell)=true then (n,NameKind.cell) else (n,k))::(r.map fun (n,k)=>if (k == NameKind.free && env.scope.kind == .function && env.kindOf n == some .cell) then (n,NameKind.cell) else (n,k)))=some .cell\/List.lookup x ((if (k == NameKind.free && env.scope.kind == .function && env.kindOf n == some .cell)=true then (n,NameKind.cell) else (n,k))::(r.map fun (n,k)=>if (k == NameKind.free && env.scope.kind == .function && env.kindOf n == some .cell) then (n,NameKind.cell) else (n,k)))=some .free:=h
  cases hx:x == n with
  | true=>
   simp only [List.lookup_cons,hx]
   by_cases hc:(k == NameKind.free && env.scope.kind == .function && env.kindOf n == some .cell)=true
   ·have hk:k=NameKind.free:=by
     rw [Bool.and_eq_true,Bool.and_eq_true] at hc
     simpa using hc.1.1
    rw [hk]
   ·rw [if_neg hc] at h'
    simp only [List.lookup_cons,hx] at h'
    rcases h' with h' | h'
    ·exact absurd (Option.some.inj h') (hn (n,k) List.mem_cons_self)
    ·exact h'
  | false=>
   simp only [List.lookup_cons,hx]
   by_cases hc:(k == NameKind.free && env.scope.kind == .function && env.kindOf n == some .cell)=true
   ·rw [if_pos hc] at h';simp only [List.lookup_cons,hx] at h';exact ih h'
   ·rw [if_neg hc] at h';simp only [List.lookup_cons,hx] at h';exact ih h'
noncomputable def blk (X:Cx)(Nc:List Str)(scope:Scope)(C:Addr)(s₀:Shared)(H₀:Hp)(ex:List Addr):Cx:=
 {X with N:=Nc,s₀:=s₀,H₀:=H₀,env:=compEnvC scope (c8 X.env.cells scope.names []) C X.env,outer:=X.stack,ex:=ex,fn:=fun _=>false,pn:=[],xe:=fun _ _=>False}
noncomputable def bf (cm:List (Option Nat))(σ:St):St:=cm.map fun o=>match o with
 | none=>none
 | some i=>(σ[i]?).getD none
def Wk (σ σ':St):Prop:=σ.length=σ'.length/\∀(i:Nat) (v:V),σ[i]?=some (some v)->σ'[i]?=some (some v)
noncomputable def lj (wi:TI)(g:TG)(tc:TT)(te:TE)(cm:List (Option Nat)):TE:=fun σ H Q=>wi σ H fun J H1=>∃W:Nat->Nat->List V->Hp->Prop,(∃m,W 0 m [] H1)/\∀i m acc H,W i m acc H->
 (J.stop i H/\∀p,H p=none->Q (.ref p) (upd H p (.lst acc)))\/
 (J.go i H/\acc.length < sizeLine/\∀x H',J.yld i H x H'->g x (bf cm σ) H' fun σ2 H2=>Wk (bf cm σ) σ2/\tc σ2 H2 fun b H3=>if b=true then te σ2 H3 fun v H4=>∃m',m' < m/\W (i+1) m' (acc++[v]) H4 else ∃m',m' < m/\W (i+1) m' acc H3)
def PIf (X:Cx)(ifs:List Expr)(t:TT):Prop:=
 ∀(pins:List (Addr×Obj)) (s:Shared) (σ:St) (H:Hp) (Q:Bool->Hp->Prop),Inv X pins σ H s->t σ H Q->
  wpAny (model X.prog X.w) X.A (forIn ifs true fun c r=>if r=true then do let ok ←isTrue c X.env (eval c X.env);pure (ForInStep.yield ok) else pure (ForInStep.yield r)) (TP X pins σ Q) X.xe s
noncomputable def qT:TT:=fun _ H Q=>Q true H
theorem iL {X:Cx}:PIf X [] qT:=fun _ _ σ H _ I h=>wpAny_pure ⟨H,I,h⟩
theorem gD {X:Cx}{c:Expr}{t:TT}(h:PT X c t):PIf X [c] t:=fun pins s σ H Q I q=>wpAny_tests_one (h pins s σ H Q I q)
theorem Inv.track {X:Cx}{pins:List (Addr×Obj)}{σ:St}{H:Hp}{s:Shared}{D:Addr}{o:HO}(I:Inv X pins σ H s)(hn:H D=none)(h0:X.s₀.heap.objs.size<=D)(hL:D≠X.env.locals)
  (hcl:∀x c,X.env.cells.lookup x=some c->c≠D) (hp:∀p∈X.pn++pins,p.1≠D) (new:cw X.prog X.w (upd H D o) s.heap D o):Inv X pins σ (upd H D o) s:=by
 have hb:∀b u,X.s₀.heap.get? b=some u->b≠D:=fun b u e=>Nat.ne_of_lt (Nat.lt_of_lt_of_le (Heap.lt_size e) h0)
 refine ⟨I.ok,I.os,I.bare,⟨I.base.keep,I.base.slot,fun b u e n hx=>?_,I.base.there,fun b xs e=>?_,fun b u xs e=>?_,fun b ps e=>?_⟩,I.loc,I.cell,?_,fun x c e=>?_,fun p hpp=>?_,fun b u e=>?_,I.len⟩
 ·rw [aj (hb b u e)];exact I.base.free b u e n hx
 ·have q:=I.base.tups b xs e;rw [aj (ah q hn)];exact q
 ·have q:=I.base.frzs b u xs e;rw [aj (ah q hn)];exact q
 ·obtain ⟨more,q⟩:=I.base.tbls b ps e;exact ⟨more,by rw [aj (ah q hn)];exact q⟩
 ·rw [aj (Ne.symm hL)];exact I.free
 ·rw [aj (hcl x c e)];exact I.freeC x c e
 ·obtain ⟨a,b,c⟩:=I.pin p hpp
  exact ⟨a,by rw [aj (hp p hpp)];exact b,c⟩
 ·by_cases hb:b=D
  ·subst hb;rw [ae] at e;cases e;exact new
  ·rw [aj hb] at e
   exact (I.hok b u e).stay (fun c v _ q=>q) (fun c q=>by rw [aj (ah q hn)];exact q) fun c xs q=>by rw [aj (ah q hn)];exact q
theorem cx {env:Env}{yc:Str}:∀{names:List (Str×NameKind)} {x:Str},(∀z∈names,z.2=NameKind.cell->z.1=yc)->
  ((names.map fun (n,k)=>if (k == NameKind.free && env.scope.kind == .function && env.kindOf n == some .cell) then (n,NameKind.cell) else (n,k)).lookup x=some .cell\/
  (names.map fun (n,k)=>if (k == NameKind.free && env.scope.kind == .function && env.kindOf n == some .cell) then (n,NameKind.cell) else (n,k)).lookup x=some .free)->x=yc\/names.lookup x=some .free
 | [],_,_,h=>by simp at h
 | (n,k)::r,x,hn,h=>by
  have ih:=@cx env yc r x fun y hy=>hn y (List.mem_cons_of_mem _ hy)
  have h':List.lookup x ((if (k == NameKind.free && env.scope.kind == .function && env.kindOf n == some .cell)=true then (n,NameKind.cell) else (n,k))::(r.map fun (n,k)=>if (k == NameKind.free && env.scope.kind == .function && env.kindOf n == some .cell) then (n,NameKind.cell) else (n,k)))=some .cell\/List.lookup x ((if (k == NameKind.free && env.scope.kind == .function && env.kindOf n == some .cell)=true then (n,NameKind.cell) else (n,k))::(r.map fun (n,k)=>if (k == NameKind.free && env.scope.kind == .function && env.kindOf n == some .cell) then (n,NameKind.cell) else (n,k)))=some .free:=h
  cases hx:x == n with
  | true=>
   simp only [List.lookup_cons,hx]
   by_cases hc:(k == NameKind.free && env.scope.kind == .function && env.kindOf n == some .cell)=true
   ·have hk:k=NameKind.free:=by
     rw [Bool.and_eq_true,Bool.and_eq_true] at hc
     simpa using hc.1.1
    rw [hk];exact .inr rfl
   ·rw [if_neg hc] at h'
    simp only [List.lookup_cons,hx] at h'
    rcases h' with h' | h'
    ·have e:=hn (n,k) List.mem_cons_self (Option.some.inj h')
     have:x=n:=by simpa using hx
     exact .inl (this.trans e)
    ·exact .inr h'
  | false=>
   simp only [List.lookup_cons,hx]
   by_cases hc:(k == NameKind.free && env.scope.kind == .function && env.kindOf n == some .cell)=true
   ·rw [if_pos hc] at h';simp only [List.lookup_cons,hx] at h';exact ih h'
   ·rw [if_neg hc] at h';simp only [List.lookup_cons,hx] at h';exact ih h'
noncomputable def cC (yo:Option Str)(C:Addr)(cl:List (Str×Addr)):List (Str×Addr):=match yo with | some yc=>(yc,C+1)::cl | none=>cl
noncomputable def fnG (yo:Option Str):Str->Bool:=match yo with | some yc=>fun x=>x == yc | none=>fun _=>false
noncomputable def pA (X:Cx)(Nc:List Str)(scope:Scope)(yo:Option Str)(C:Addr)(s₀:Shared)(H₀:Hp)(ex:List Addr):Cx:=
 {X with N:=Nc,s₀:=s₀,H₀:=H₀,env:=compEnvC scope (cC yo C (c8 X.env.cells scope.names [])) C X.env,outer:=X.stack,ex:=ex,fn:=fnG yo,pn:=[],xe:=fun _ _=>False}
theorem hG {yo:Option Str}{C:Addr}{cl:List (Str×Addr)}{x:Str}(h:yo≠some x):(cC yo C cl).lookup x=cl.lookup x:=by
 cases yo with
 | none=>rfl
 | some yc=>show List.lookup x ((yc,C+1)::cl)=_;rw [List.lookup_cons,show (x == yc)=false by simpa using fun z=>h (by rw [z])]
theorem n8 {yo:Option Str}{C c:Addr}{cl:List (Str×Addr)}{x:Str}(e:(cC yo C cl).lookup x=some c):(yo=some x/\c=C+1)\/(yo≠some x/\cl.lookup x=some c):=by
 by_cases h:yo=some x
 ·rw [h] at e
  have e':List.lookup x ((x,C+1)::cl)=some c:=e
  rw [List.lookup_cons] at e'
  simp at e'
  exact .inl ⟨h,e'.symm⟩
 ·rw [hG h] at e
  exact .inr ⟨h,e⟩
theorem uk {yo:Option Str}{x:Str}(e:fnG yo x=true):yo=some x:=by
 cases yo with
 | none=>cases e
 | some yc=>rw [show x=yc from eq_of_beq e]
theorem eW {env:Env}{yo:Option Str}{names:List (Str×NameKind)}{x:Str}(hn:∀z∈names,z.2=NameKind.cell->yo=some z.1)
  (h:(names.map fun (n,k)=>if (k == NameKind.free && env.scope.kind == .function && env.kindOf n == some .cell) then (n,NameKind.cell) else (n,k)).lookup x=some .cell\/
  (names.map fun (n,k)=>if (k == NameKind.free && env.scope.kind == .function && env.kindOf n == some .cell) then (n,NameKind.cell) else (n,k)).lookup x=some .free):yo=some x\/names.lookup x=some .free:=by
 cases yo with
 | none=>exact .inr (cG (fun y hy e=>by cases hn y hy e) h)
 | some yc=>exact (cx (fun z hz e=>(Option.some.inj (hn z hz e)).symm) h).imp (fun e=>by rw [e]) id
section
variable {X:Cx}
theorem jZ {tg iter elt:Expr}{ifs:List Expr}{scope:Scope}{pos:Pos}{Nc:List Str}{cm:List (Option Nat)}{g:TG}{tc:TT}{te:TE}{yo:Option Str}{pins:List (Addr×Obj)}{σ:St}{it:Addr}{fp:List Addr}{tn:Nat->Heap->Prop}{J:It}{H2:Hp}{s2:Shared}{W:Nat->Nat->List V->Hp->Prop}{m0:Nat}{h₁:Heap}{QV:VK}{use:Option (Value->Sem Unit)}{R:Value->Shared->Prop}
  (hc:X.calm=true) (hkind:scope.kind=.function) (hcell:∀z∈scope.names,z.2=.cell->yo=some z.1) (hyc:∀yc,yo=some yc->scope.names.lookup yc=some .cell)
  (hfr:∀y∈scope.names,y.2=.free->∃c,X.env.cells.lookup y.1=some c) (hlen:cm.length=Nc.length)
  (hcm:∀(j:Nat) (x:Str) (i:Nat),Nc[j]?=some x->cm[j]?=some (some i)->X.N[i]?=some x/\scope.names.lookup x=some .free/\(X.env.kindOf x=some .cell\/X.env.kindOf x=some .free))
  (hg:∀C s₀ H₀ ex,PG (pA X Nc scope yo C s₀ H₀ ex) tg g) (ht:∀C s₀ H₀ ex,PIf (pA X Nc scope yo C s₀ H₀ ex) ifs tc) (he:∀C s₀ H₀ ex,PE (pA X Nc scope yo C s₀ H₀ ex) elt te)
  (I2:Inv X pins σ H2 s2) (T:oV X.prog X.w X.K tg J fp it tn) (st2:tn 0 s2.heap) (f2:∀b∈fp,g7 X pins H2 b) (w0:W 0 m0 [] H2)
  (turn:∀i m acc H,W i m acc H->(J.stop i H/\∀p,H p=none->QV (.ref p) (upd H p (.lst acc)))\/(J.go i H/\acc.length < sizeLine/\∀x H',J.yld i H x H'->g x (bf cm σ) H' fun σ2 H2=>Wk (bf cm σ) σ2/\tc σ2 H2 fun b H3=>if b=true then te σ2 H3 fun v H4=>∃m',m' < m/\W (i+1) m' (acc++[v]) H4 else ∃m',m' < m/\W (i+1) m' acc H3))
  (hns₁:h₁.Ns (s2.heap.push {cls:=.type "list",dict:=none,data:=.seq ([]:List Value).toArray}).objs.size fun _=>none) (keep1:∀b u,(s2.heap.push {cls:=.type "list",dict:=none,data:=.seq ([]:List Value).toArray}).get? b=some u->h₁.get? b=some u)
  (hcl₁:∀yc,yo=some yc->h₁.IsCell ((s2.heap.push {cls:=.type "list",dict:=none,data:=.seq ([]:List Value).toArray}).objs.size+1) none)
  (fin:∀(s6:Shared) (H5:Hp) (acc:List V) (m:Str->Option Value),s6.heap.Ns (s2.heap.push {cls:=.type "list",dict:=none,data:=.seq ([]:List Value).toArray}).objs.size m->g7 X pins (upd H5 s2.heap.objs.size (.lst acc)) (s2.heap.push {cls:=.type "list",dict:=none,data:=.seq ([]:List Value).toArray}).objs.size->
   (∀h',Heap.SameBut (s2.heap.push {cls:=.type "list",dict:=none,data:=.seq ([]:List Value).toArray}).objs.size s6.heap h'->Inv X pins σ (upd H5 s2.heap.objs.size (.lst acc)) {s6 with heap:=h'})->QV (.ref s2.heap.objs.size) (upd H5 s2.heap.objs.size (.lst acc))->
   ∀fl,compPost (model X.prog X.w) X.A X.xe use R (.ref s2.heap.objs.size) (s2.heap.push {cls:=.type "list",dict:=none,data:=.seq ([]:List Value).toArray}).objs.size (.ok fl) s6) :
  codeAny (model X.prog X.w) X.A (.compStart (.ListComp elt [⟨tg,iter,ifs,0⟩] scope pos) 0 (.ref it) (.ref s2.heap.objs.size) (compEnvC scope (cC yo (s2.heap.push {cls:=.type "list",dict:=none,data:=.seq ([]:List Value).toArray}).objs.size (c8 X.env.cells scope.names [])) (s2.heap.push {cls:=.type "list",dict:=none,data:=.seq ([]:List Value).toArray}).objs.size X.env))
   (compPost (model X.prog X.w) X.A X.xe use R (.ref s2.heap.objs.size) (s2.heap.push {cls:=.type "list",dict:=none,data:=.seq ([]:List Value).toArray}).objs.size) {s2 with heap:=h₁,toks:=s2.toks+([]:List (Str×Value)).length}:=by
 have hk3:∀b u,s2.heap.get? b=some u->(s2.heap.push {cls:=.type "list",dict:=none,data:=.seq ([]:List Value).toArray}).get? b=some u:=fun b u q=>Heap.get?_push_of_some _ q
 have I3:Inv X pins σ H2 {s2 with heap:=s2.heap.push {cls:=.type "list",dict:=none,data:=.seq ([]:List Value).toArray},toks:=s2.toks}:=I2.kept hk3
 have hD3:(s2.heap.push {cls:=.type "list",dict:=none,data:=.seq ([]:List Value).toArray}).get? s2.heap.objs.size=some {cls:=.type "list",data:=.seq ([]:List Value).toArray}:=Heap.get?_push_size _ rfl
 have hCs:(s2.heap.push {cls:=.type "list",dict:=none,data:=.seq ([]:List Value).toArray}).objs.size=s2.heap.objs.size+1:=Heap.size_push _ _
 have hDn:H2 s2.heap.objs.size=none:=I2.hok.fresh (Nat.le_refl _)
 have st3:tn 0 (s2.heap.push {cls:=.type "list",dict:=none,data:=.seq ([]:List Value).toArray}):=T.keep _ _ _ st2 fun b _ o q=>hk3 b o q
 have fpD:∀b∈fp,b < s2.heap.objs.size:=fun b hb=>by
  obtain ⟨o,e,_⟩:=T.obj _ _ st2 b hb
  exact Heap.lt_size e
 have DX:g7 X pins H2 s2.heap.objs.size:=I2.fpOk (Nat.le_refl _) hDn
 generalize hs3:s2.heap.push {cls:=.type "list",dict:=none,data:=.seq ([]:List Value).toArray}=h3 at *
 generalize hDg:s2.heap.objs.size=D at *
 have exX:∀b∈D::fp,g7 X pins H2 b:=fun b hb=>by
  rcases List.mem_cons.mp hb with z | z
  ·rw [z];exact DX
  ·exact f2 b z
 have exC:∀b∈D::fp,b < h3.objs.size:=fun b hb=>by
  rcases List.mem_cons.mp hb with z | z
  ·rw [z,hCs];exact Nat.lt_succ_self _
  ·rw [hCs];exact Nat.lt_succ_of_lt (fpD b z)
 have exS:∀b∈D::fp,b∉frs X.stack:=fun b hb z=>by
  obtain ⟨_,n1,n2,_⟩:=exX b hb
  rcases List.mem_cons.mp (I2.stkSub b z) with y | y
  ·exact n1 y
  ·exact n2 y
 have clo:∀x c,(c8 X.env.cells scope.names []).lookup x=some c->X.env.cells.lookup x=some c:=fun x c e=>iK (acc:=[]) (fun _ _ z=>by simp at z) e
 have ltX:∀x c,X.env.cells.lookup x=some c->c < h3.objs.size:=fun x c e=>by
  obtain ⟨v,z⟩:=I3.cell x c e
  exact z.lt
 have cloC:∀x c,(cC yo h3.objs.size (c8 X.env.cells scope.names [])).lookup x=some c->(yo=some x/\c=h3.objs.size+1)\/(yo≠some x/\X.env.cells.lookup x=some c):=fun x c e=>(n8 e).imp id fun h=>⟨h.1,clo x c h.2⟩
 have cellne:∀b,b < h3.objs.size->(∀x c,X.env.cells.lookup x=some c->c≠b)->∀x c,(cC yo h3.objs.size (c8 X.env.cells scope.names [])).lookup x=some c->c≠b:=fun b hb hn x c e=>by
  rcases cloC x c e with ⟨_,z⟩ | ⟨_,z⟩
  ·rw [z];exact Nat.ne_of_gt (Nat.lt_succ_of_lt hb)
  ·exact hn x c z
 let s3:Shared:={s2 with heap:=h3}
 let X':Cx:=pA X Nc scope yo h3.objs.size s3 H2 (D::fp)
 have hX':X'=pA X Nc scope yo h3.objs.size s3 H2 (D::fp):=rfl
 have okX:X'.Ok:=by
  refine ⟨I3.ok.mod,hkind,I3.ok.glob,I3.ok.blt,Nat.le_refl _,fun x y c e1 e2=>(by
   rcases cloC x c e1 with ⟨a1,a2⟩ | ⟨_,a2⟩
   ·rcases cloC y c e2 with ⟨b1,b2⟩ | ⟨_,b2⟩
    ·exact Option.some.inj (a1.symm.trans b1)
    ·exact absurd (ltX y c b2) (by rw [a2];exact Nat.not_lt.mpr (Nat.le_succ _))
   ·rcases cloC y c e2 with ⟨b1,b2⟩ | ⟨_,b2⟩
    ·exact absurd (ltX x c a2) (by rw [b2];exact Nat.not_lt.mpr (Nat.le_succ _))
    ·exact I3.ok.inj x y c a2 b2),fun x hx=>?_,fun x c e z=>(cloC x c z).elim (fun h=>by rw [h.2];exact Nat.le_succ _) (fun h=>absurd (uk e) h.1),I3.ok.hd,I3.ok.frames,.inl rfl,fun b hb=>⟨Nat.ne_of_lt (exC b hb),cellne b (exC b hb) (exX b hb).2.2.2.2.1⟩,
   I3.bs,?_,fun b o e hb=>?_,exS,I3.stack,I3.stkFree⟩
  ·rcases eW (env:=X.env) hcell hx with hx' | hx'
   ·exact ⟨h3.objs.size+1,by show List.lookup x (cC yo h3.objs.size _)=_;rw [hx'];show List.lookup x ((x,h3.objs.size+1)::_)=_;rw [List.lookup_cons];simp⟩
   have hmem:(x,NameKind.free)∈scope.names:=by
    have:∀(l:List (Str×NameKind)),l.lookup x=some .free->(x,NameKind.free)∈l:=by
     intro l
     induction l with
     | nil=>intro z;simp at z
     | cons a r ih=>
      obtain ⟨n,k⟩:=a
      intro z
      rw [List.lookup_cons] at z
      split at z
      ·rename_i y
       have yn:x=n:=by simpa using y
       cases z
       rw [yn];exact List.mem_cons_self
      ·exact List.mem_cons_of_mem _ (ih z)
    exact this _ hx'
   have nx:yo≠some x:=fun z=>by rw [hyc x z] at hx';cases hx'
   obtain ⟨c,hc⟩:=eV (acc:=[]) hx' (hfr (x,.free) hmem rfl)
   exact ⟨c,by show List.lookup x (cC yo _ _)=_;rw [hG nx];exact hc⟩
  ·exact Nat.le_trans I3.ok.bsz I3.sz
  ·rcases (exX b hb).2.2.2.1 with z | z
   ·exact I3.ok.noex b o e z
   ·exact absurd (Nat.lt_of_lt_of_le (Heap.lt_size (I3.ok.bs b o e).1) z) (Nat.lt_irrefl _)
 have hσl:(bf cm σ).length=Nc.length:=by
  unfold bf
  rw [JB];exact hlen
 have I4:Inv X' [] (bf cm σ) H2 {s2 with heap:=h₁,toks:=s2.toks+([]:List (Str×Value)).length}:=by
  refine ⟨okX,rfl,I3.bare,Un.kept keep1,⟨_,hns₁,fun j x v e1 e2 e3=>?_⟩,fun x c e=>?_,?_,fun x c e=>(cloC x c e).elim (fun h=>by rw [h.2];exact I3.hok.fresh (Nat.le_succ _)) (fun h=>I3.freeC x c h.2),(fun p hp=>absurd (show p∈([]:List (Addr×Obj)) from hp) (by simp)),I3.hok.kept keep1,hσl⟩
  ·have e2':∃i,cm[j]?=some (some i)/\σ[i]?=some (some v):=by
    unfold bf at e2
    rw [List.getElem?_map] at e2
    cases q:cm[j]? with
    | none=>rw [q] at e2;simp at e2
    | some o=>
     rw [q] at e2
     cases o with
     | none=>simp at e2
     | some i=>
      refine ⟨i,rfl,?_⟩
      simp only [Option.map_some,Option.some.injEq] at e2
      cases q2:σ[i]? with
      | none=>rw [q2] at e2;simp at e2
      | some o2=>rw [q2] at e2;simp at e2;rw [e2]
   obtain ⟨i,ej,ei⟩:=e2'
   obtain ⟨n1,n2,n3⟩:=hcm j x i e1 ej
   obtain ⟨m,hn,hl⟩:=I3.loc
   have n3':Vis X.env.scope x:=by
    rcases n3 with z | z
    ·exact .inr (.inl z)
    ·exact .inr (.inr z)
   obtain ⟨u,r,l⟩:=hl i x v n1 ei n3'
   refine ⟨u,r,?_⟩
   rcases l with ⟨l,_⟩ | ⟨_,c,ec,ic⟩
   ·rcases n3 with z | z
    ·rw [l] at z;cases z
    ·rw [l] at z;cases z
   ·obtain ⟨c',ec'⟩:=eV (cells:=X.env.cells) (acc:=[]) n2 ⟨c,ec⟩
    have hcc:=clo x c' ec'
    rw [ec] at hcc;cases hcc
    obtain ⟨oc,hoc,hdc⟩:=ic
    have nx:yo≠some x:=fun z=>by rw [hyc x z] at n2;cases n2
    refine .inr ⟨?_,c,(by show List.lookup x (cC yo _ _)=_;rw [hG nx];exact ec'),oc,keep1 _ _ hoc,hdc⟩
    exact cF (env:=X.env) n2
  ·rcases cloC x c e with ⟨z0,z⟩ | ⟨_,z⟩
   ·rw [z];exact ⟨none,hcl₁ _ z0⟩
   ·obtain ⟨v,oc,hoc,hdc⟩:=I3.cell x c z
    exact ⟨v,oc,keep1 _ _ hoc,hdc⟩
  ·exact I3.hok.fresh (Nat.le_refl _)
 have stat:∀{H':Hp} {pl:List (Addr×Obj)},(∀b∈fp,H' b=none)->(∀p∈pl,p.1=D)->∀b∈fp,g7 X' pl H' b:=fun {H' pl} hn hpl b hb=>
  ⟨hn b hb,Nat.ne_of_lt (exC b (List.mem_cons_of_mem _ hb)),exS b (List.mem_cons_of_mem _ hb),.inl (List.mem_cons_of_mem _ hb),cellne b (exC b (List.mem_cons_of_mem _ hb)) (f2 b hb).2.2.2.2.1,fun p hp z=>by
   have:p∈pl:=(List.mem_append.mp hp).elim (fun z=>absurd (show p∈([]:List (Addr×Obj)) from z) (by simp)) fun z=>z
   have e:=hpl p this
   rw [e] at z
   exact absurd (fpD b hb) (by rw [←z];exact Nat.lt_irrefl _)⟩
 have hDC:D≠h3.objs.size:=by rw [hCs];exact Nat.ne_of_lt (Nat.lt_succ_self _)
 have hDs:D∉frs X.stack:=exS D List.mem_cons_self
 have loop:∀s5:Shared,s5={s2 with heap:=h₁,toks:=s2.toks+([]:List (Str×Value)).length}->
   codeAny (model X.prog X.w) X.A (.compLoop (.ListComp elt [⟨tg,iter,ifs,0⟩] scope pos) 0 (.ref it) (.ref D) (compEnvC scope (cC yo h3.objs.size (c8 X.env.cells scope.names [])) h3.objs.size X.env))
    (compPost (model X.prog X.w) X.A X.xe use R (.ref D) h3.objs.size) s5:=by
  rintro s5 rfl
  refine codeAny_loop rfl (fun n s'=>∃i acc its k H',Inv X' [] (bf cm σ) H' s'/\tn i s'.heap/\(∀b∈fp,H' b=none)/\s'.heap.get? D=some {cls:=.type "list",data:=.seq (List.toArray its) k}/\H' D=none/\aM acc its/\acc.length<=sizeLine/\W i n acc H') (fun n s' hI=>?_) m0
   ⟨0,[],[],0,H2,I4,T.keep _ _ _ st3 fun b _ o q=>keep1 b o q,fun b hb=>(f2 b hb).1,keep1 _ _ hD3,hDn,.nil,Nat.zero_le _,w0⟩
  obtain ⟨i,acc,its,k,H5,J5,t5,fr5,d5,dn5,va5,ac5,w5⟩:=hI
  show wpAny _ X.A ((compTurn (.ListComp elt [⟨tg,iter,ifs,0⟩] scope pos) 0 (.ref it) (.ref D) (compEnvC scope (cC yo h3.objs.size (c8 X.env.cells scope.names [])) h3.objs.size X.env)).onRaise (fun x=>do noteFrame x (compEnvC scope (cC yo h3.objs.size (c8 X.env.cells scope.names [])) h3.objs.size X.env);theTreesLotGoes x)) _ _ s'
  refine wpAny_noted ?_
  rw [compTurn_list]
  have nocell:∀v,({cls:=.type "list",data:=.seq (List.toArray its) k}:Obj).data≠.cell v:=fun v z=>nomatch z
  have P5:Inv X' [(D,{cls:=.type "list",data:=.seq (List.toArray its) k})] (bf cm σ) H5 s':=J5.pins_of fun p hp=>by
   have e:p=(D,{cls:=.type "list",data:=.seq (List.toArray its) k}):=by simpa using hp
   subst e
   exact ⟨d5,dn5,hDC,hDs,nocell⟩
  have pl1:∀p∈[((D,{cls:=.type "list",data:=.seq (List.toArray its) k}):Addr×Obj)],p.1=D:=fun p hp=>by
   have e:p=(D,{cls:=.type "list",data:=.seq (List.toArray its) k}):=by simpa using hp
   rw [e]
  rcases turn i n acc H5 w5 with ⟨stop,qn⟩ | ⟨go,hsz,step⟩
  ·refine wpAny_bind (wpAny_standAt (wpAny_bind (wpAny_mono (T.done X' rfl rfl rfl hc i _ s' _ H5 (fun _ _=>False) P5 (stat fr5 pl1) t5 stop) (fun r s6 ⟨hr,J6⟩=>?_) fun _ _ f=>f.elim)))
   subst hr
   refine wpAny_pure ?_
   obtain ⟨mC,hnC,_⟩:=J6.loc
   have hCn:H5 h3.objs.size=none:=J6.free
   obtain ⟨dg,dg2,_⟩:=J6.pin (D,{cls:=.type "list",data:=.seq (List.toArray its) k}) (by simp)
   refine fin s6 H5 acc mC hnC (I3.fpOk (b:=h3.objs.size) (H':=upd H5 D (.lst acc)) (Nat.le_refl _) (by rw [aj (Ne.symm hDC)];exact hCn)) (fun h' hsb=>?_) (qn D dg2) _
   have toh:∀b u,b≠h3.objs.size->s6.heap.get? b=some u->h'.get? b=some u:=fun b u hb q=>(hsb.2 b hb).trans q
   have hok':HOk X.prog X.w H5 h':=fun a o e=>(J6.hok a o e).stay (fun b u hb q=>toh b u (by
    rintro rfl
    rcases hb with z | z
    ·rw [←z,hCn] at e;cases e
    ·rw [hCn] at z;cases z) q) (fun _ q=>q) fun _ _ q=>q
   have ltC:∀{b:Addr} {u:Obj},h3.get? b=some u->b≠h3.objs.size:=fun q=>Nat.ne_of_lt (Heap.lt_size q)
   have un':Un (frs X.stack) (D::fp) H2 H5 h3 h':=by
    have u:=J6.base
    refine ⟨fun b o e n hb hx=>toh b o (ltC e) (u.keep b o e n hb hx),fun b o e n hb hx=>?_,u.free,fun b o e hx=>?_,u.tups,u.frzs,u.tbls⟩
    ·obtain ⟨sl,q⟩:=u.slot b o e n hb hx
     exact ⟨sl,toh b _ (ltC e) q⟩
    ·obtain ⟨o',q⟩:=u.there b o e hx
     exact ⟨o',toh b _ (ltC e) q⟩
   have J7:Inv X pins σ H5 {s6 with heap:=h'}:=Inv.call' (s':={s6 with heap:=h'}) (ch:=D::fp) I3 J6.os un' hok' J6.bare fun b hb=>by
    obtain ⟨_,n1,n2,n3,n4,n5⟩:=exX b hb
    exact ⟨n3,n1,n4,n5⟩
   obtain ⟨_,n1,n2,n3,n4,n5⟩:=exX D List.mem_cons_self
   have n3':X.s₀.heap.objs.size<=D:=by
    have:=I2.sz
    rw [hDg] at this
    exact this
   exact J7.track (o:=.lst acc) dg2 n3' n1 n4 n5 ⟨ac5,its,k,va5,toh _ _ hDC dg⟩
  ·refine wpAny_bind (wpAny_standAt (wpAny_bind (wpAny_mono (T.item X' rfl rfl rfl hc i _ s' _ H5 (fun _ _=>False) P5 (stat fr5 pl1) t5 go) (fun r s6 ⟨u,hr,h6⟩=>?_) fun _ _ f=>f.elim)))
   subst hr
   refine wpAny_bind (wpAny_mono h6 (fun _ s7 ⟨x,H7,J7,r7,y7,t7,fr7⟩=>?_) fun _ _ f=>f.elim)
   have P7:=J7.pinned (stat fr7 pl1) (T.obj _ _ t7)
   refine wpAny_bind (wpAny_mono (hg _ _ _ _ _ s7 _ H7 x u _ P7 r7 (step x H7 y7)) (fun _ s8 ⟨σ8,H8,J8,wk8,q8⟩=>?_) fun _ _ f=>f.elim)
   refine wpAny_bind (wpAny_mono (ht _ _ _ _ _ s8 σ8 H8 _ J8 q8) (fun b s9 ⟨H9,J9,q9⟩=>?_) fun _ _ f=>f.elim)
   have back:∀{Ha:Hp} {sa:Shared},Inv X' ([(D,{cls:=.type "list",data:=.seq (List.toArray its) k})]++iS fp s7.heap) σ8 Ha sa->
     Inv X' [] (bf cm σ) Ha sa/\tn (i+1) sa.heap/\(∀b∈fp,Ha b=none)/\sa.heap.get? D=some {cls:=.type "list",data:=.seq (List.toArray its) k}/\Ha D=none:=fun {Ha sa} Ja=>by
    refine ⟨(Ja.weak wk8.1 wk8.2).pins_of fun p hp=>absurd hp (by simp),T.keep _ _ _ t7 fun b hb o e=>(Ja.pin (b,o) (List.mem_append_right _ (List.mem_append_right _ (dU hb e)))).1,fun b hb=>?_,?_⟩
    ·obtain ⟨o,e,d⟩:=T.obj _ _ t7 b hb
     exact (Ja.pin (b,o) (List.mem_append_right _ (List.mem_append_right _ (dU hb e)))).2.1
    ·obtain ⟨z1,z2,_⟩:=Ja.pin (D,{cls:=.type "list",data:=.seq (List.toArray its) k}) (by simp)
     exact ⟨z1,z2⟩
   cases b with
   | false=>
    simp only [Bool.false_eq_true,if_false] at q9 ⊢
    obtain ⟨m',hm,w'⟩:=q9
    obtain ⟨z0,z1,z2,z3,z4⟩:=back J9
    exact wpAny_pure ⟨rfl,m',hm,i+1,acc,its,k,H9,z0,z1,z2,z3,z4,va5,ac5,w'⟩
   | true=>
    simp only [if_true] at q9 ⊢
    refine wpAny_bind (wpAny_bind (wpAny_mono (he _ _ _ _ _ s9 σ8 H9 _ J9 q9) (fun y s10 ⟨v,H10,J10,rv,q10⟩=>wpAny_bind ?_) fun _ _ f=>f.elim))
    obtain ⟨m',hm,w'⟩:=q10
    obtain ⟨z0,z1,z2,z3,z4⟩:=back J10
    have hli:=va5.length
    refine call_meets F.slot_list_append ⟨_,z3,rfl⟩ F.entry_list_append (F.args_list_append_2 _ _) (PySem.list_append D its.toArray k y (by rw [List.size_toArray];omega)) ⟨z3,?_⟩
    obtain ⟨k',q⟩:∃k',(s10.heap.update D (Obj.mapSeq (·.push y))).get? D=some {cls:=.type "list",data:=.seq (List.toArray (its++[y])) k'}:=by
     have q:=PySem.IsL.update z3 (·.push y)
     have e:its.toArray.push y=(its++[y]).toArray:=by simp
     rw [e] at q
     exact ⟨_,q⟩
    refine wpAny_pure (wpAny_pure ⟨rfl,m',hm,i+1,acc++[v],its++[y],k',H10,z0.turned (it:=D) (fun b o hb hu=>(Heap.get?_update_other s10.heap (Obj.mapSeq (·.push y)) (Ne.symm hb)).trans hu) z4 hDC (.inl List.mem_cons_self) (cellne D (exC D List.mem_cons_self) (exX D List.mem_cons_self).2.2.2.2.1) (fun p hp=>absurd (show p∈([]:List (Addr×Obj)) from hp) (by simp)),
     T.keep _ _ _ z1 fun b hb o e=>(Heap.get?_update_other s10.heap (Obj.mapSeq (·.push y)) (Nat.ne_of_gt (fpD b hb))).trans e,z2,q,z4,va5.append (.cons rv .nil),by rw [List.length_append,List.length_singleton];omega,w'⟩)
 exact codeAny_compStart_list (loop _ rfl) (T.self X.A 0 _ _ _ (T.keep _ _ _ st3 fun b _ o q=>keep1 b o q) (loop _ rfl))
theorem qU {tg iter elt:Expr}{ifs:List Expr}{scope:Scope}{pos:Pos}{Nc:List Str}{cm:List (Option Nat)}{wi:TI}{g:TG}{tc:TT}{te:TE}
  (hc:X.calm=true) (hi:PI X tg iter wi) (hkind:scope.kind=.function) (hcell:∀y∈scope.names,y.2≠.cell) (hnames:∀y∈scope.names,y.2=.local->scope.names.lookup y.1=some .local)
  (hfree:∀y∈scope.names,y.2=.free->X.env.kindOf y.1=some .cell\/X.env.kindOf y.1=some .free) (hlen:cm.length=Nc.length)
  (hcm:∀(j:Nat) (x:Str) (i:Nat),Nc[j]?=some x->cm[j]?=some (some i)->X.N[i]?=some x/\scope.names.lookup x=some .free/\(X.env.kindOf x=some .cell\/X.env.kindOf x=some .free))
  (hg:∀C s₀ H₀ ex,PG (blk X Nc scope C s₀ H₀ ex) tg g) (ht:∀C s₀ H₀ ex,PIf (blk X Nc scope C s₀ H₀ ex) ifs tc) (he:∀C s₀ H₀ ex,PE (blk X Nc scope C s₀ H₀ ex) elt te)
  (hs:∀x,foldedSetIterable iter X.env x=pure x:=by intro _;rfl):PE X (.ListComp elt [⟨tg,iter,ifs,0⟩] scope pos) (lj wi g tc te cm):=by
 intro pins s σ H Q I h
 rw [eval_ListComp]
 have hfr:∀y∈scope.names,y.2=.free->∃c,X.env.cells.lookup y.1=some c:=fun y hy e=>I.ok.has y.1 (hfree y hy e)
 refine wpAny_comprehension_free (use:=none) rfl hs (eU hfr) hkind hnames (thn (hi pins s σ H _ I h) fun v s1 h1=>thn h1 fun itv s2 h2=>?_)
 obtain ⟨it,fp,tn,J,H2,e,I2,T,st2,f2,W,⟨m0,w0⟩,turn⟩:=h2
 subst e
 refine wpAny_newObj_type (wpAny_newFunctionEnv hcell (by intro y hy;simp at hy) (fun h₁ hns₁ hsb₁=>?_) hkind)
 dsimp only at hns₁ hsb₁ ⊢
 have keepA:∀b u,(s2.heap.push {cls:=.type "list",dict:=none,data:=.seq ([]:List Value).toArray}).get? b=some u->h₁.get? b=some u:=fun b u q=>(hsb₁.2 b (Nat.ne_of_lt (Heap.lt_size q))).trans (Heap.get?_push_of_some _ q)
 exact jZ (yo:=none) hc hkind (fun z hz e=>absurd e (hcell z hz)) (fun _ e=>by cases e) hfr hlen hcm hg ht he I2 T st2 f2 w0 turn hns₁ keepA (fun _ e=>by cases e) fun s6 H5 acc m hm _ J qn _=>⟨m,hm,fun h' hsb=>⟨.ref s2.heap.objs.size,_,J h' hsb,rfl,qn⟩⟩
end
theorem um {lo:Int}{n:Nat}{g:TG}{tc:TT}{te:TE}{cm:List (Option Nat)}{σ:St}{H:Hp}{Q:VK}(Pv:Nat->List V->Hp->Prop)(h0:Pv 0 [] H)
  (hs:∀i acc H,i < n->Pv i acc H->acc.length < sizeLine/\g (.int (lo+i)) (bf cm σ) H fun σ2 H2=>Wk (bf cm σ) σ2/\tc σ2 H2 fun b H3=>if b=true then te σ2 H3 fun v H4=>Pv (i+1) (acc++[v]) H4 else Pv (i+1) acc H3)
  (mono:∀x σ H N N',(∀σ2 H2,N σ2 H2->N' σ2 H2)->g x σ H N->g x σ H N':=by exact fun _ _ _ _ _ h q=>h _ _ q)
  (monoc:∀σ H N N',(∀b H2,N b H2->N' b H2)->tc σ H N->tc σ H N') (monoe:∀σ H N N',(∀v H2,N v H2->N' v H2)->te σ H N->te σ H N')
  (hd:∀acc H,Pv n acc H->∀p,H p=none->Q (.ref p) (upd H p (.lst acc))) :
  ∃W:Nat->Nat->List V->Hp->Prop,(∃m,W 0 m [] H)/\∀i m acc H,W i m acc H->
   ((Itr lo n).stop i H/\∀p,H p=none->Q (.ref p) (upd H p (.lst acc)))\/
   ((Itr lo n).go i H/\acc.length < sizeLine/\∀x H',(Itr lo n).yld i H x H'->g x (bf cm σ) H' fun σ2 H2=>Wk (bf cm σ) σ2/\tc σ2 H2 fun b H3=>if b=true then te σ2 H3 fun v H4=>∃m',m' < m/\W (i+1) m' (acc++[v]) H4 else ∃m',m' < m/\W (i+1) m' acc H3):=by
 refine ⟨fun i m acc H=>m=n - i/\i<=n/\Pv i acc H,⟨n,by simp,Nat.zero_le _,h0⟩,?_⟩
 rintro i m acc H ⟨rfl,hi,p⟩
 by_cases hlt:i < n
 ·obtain ⟨hz,q⟩:=hs i acc H hlt p
  refine .inr ⟨hlt,hz,fun x H' y=>?_⟩
  obtain ⟨e,y⟩:=y
  subst e y
  refine mono _ _ _ _ _ (fun σ2 H2 ⟨wk,q⟩=>⟨wk,monoc _ _ _ _ (fun b H3 q=>?_) q⟩) q
  cases b with
  | true=>exact monoe _ _ _ _ (fun v H4 q=>⟨n - (i+1),by omega,rfl,hlt,q⟩) q
  | false=>exact ⟨n - (i+1),by omega,rfl,hlt,q⟩
 ·have e:i=n:=by omega
  subst e
  exact .inl ⟨Nat.le_refl _,hd acc H p⟩
theorem jG {K:JA}{a:Addr}{xs:List V}{tc:TT}{te:TE}{cm:List (Option Nat)}{σ:St}{H:Hp}{Q:VK}(p:V->Bool)(f:V->V)(hl:SqL K H a xs)(hn:xs.length<=sizeLine){j:Nat}(hj:(bf cm σ)[j]?=some none)
  (hc:∀x,x∈xs->∀N:Bool->Hp->Prop,N (p x) H->tc ((bf cm σ).set j (some x)) H N)
  (hs:∀x,x∈xs->p x=true->∀N:VK,N (f x) H->te ((bf cm σ).set j (some x)) H N)
  (hd:∀b,H b=none->Q (.ref b) (upd H b (.lst ((xs.filter p).map f)))) :
  ∃W:Nat->Nat->List V->Hp->Prop,(∃m,W 0 m [] H)/\∀i m acc H,W i m acc H->
   ((Itl K a).stop i H/\∀p,H p=none->Q (.ref p) (upd H p (.lst acc)))\/
   ((Itl K a).go i H/\acc.length < sizeLine/\∀x H',(Itl K a).yld i H x H'->dz j x (bf cm σ) H' fun σ2 H2=>Wk (bf cm σ) σ2/\tc σ2 H2 fun b H3=>if b=true then te σ2 H3 fun v H4=>∃m',m' < m/\W (i+1) m' (acc++[v]) H4 else ∃m',m' < m/\W (i+1) m' acc H3):=by
 refine ⟨fun i m acc H'=>m=xs.length - i/\i<=xs.length/\H'=H/\acc=((xs.take i).filter p).map f,⟨xs.length,by simp,Nat.zero_le _,rfl,by simp⟩,?_⟩
 rintro i m acc H' ⟨rfl,hi,rfl,rfl⟩
 by_cases hlt:i < xs.length
 ·have hx:xs[i]?=some xs[i]:=by simp [hlt]
  have hle:(((xs.take i).filter p).map f).length < sizeLine:=by
   rw [JB]
   have:=List.length_filter_le p (xs.take i)
   rw [List.length_take] at this
   omega
  refine .inr ⟨⟨xs,xs[i],hl,hx⟩,hle,fun x H' y=>?_⟩
  obtain ⟨e,y⟩:=y
  subst e
  have hy:=y xs hl
  rw [hx] at hy;cases hy
  have hmem:xs[i]∈xs:=List.getElem_mem hlt
  refine ⟨⟨by simp,fun k v e=>?_⟩,hc _ hmem _ ?_⟩
  ·by_cases hk:j=k
   ·subst hk;rw [hj] at e;cases e
   ·rw [List.getElem?_set_ne hk];exact e
  ·have hstep:((xs.take (i+1)).filter p).map f=((xs.take i).filter p).map f++(if p xs[i] then [f xs[i]] else []):=by
    rw [take_succ_filter p xs i _ hx,List.map_append]
    cases p xs[i]<;>rfl
   cases hp:p xs[i] with
   | true=>
    refine vq (hs _ hmem hp _ ⟨xs.length - (i+1),by omega,rfl,hlt,rfl,?_⟩)
    rw [hstep,hp];rfl
   | false=>
    refine vp ⟨xs.length - (i+1),by omega,rfl,hlt,rfl,?_⟩
    rw [hstep,hp];simp
 ·have e:i=xs.length:=by omega
  subst e
  refine .inl ⟨⟨xs,hl,Nat.le_refl _⟩,?_⟩
  rw [List.take_length]
  exact hd
theorem gE {lo:Int}{n:Nat}{tc:TT}{te:TE}{cm:List (Option Nat)}{σ:St}{H:Hp}{Q:VK}(p:Nat->Bool)(f:Nat->V)(hn:n<=sizeLine){j:Nat}(hj:(bf cm σ)[j]?=some none)
  (hc:∀i,i < n->∀N:Bool->Hp->Prop,N (p i) H->tc ((bf cm σ).set j (some (.int (lo+i)))) H N)
  (hs:∀i,i < n->p i=true->∀N:VK,N (f i) H->te ((bf cm σ).set j (some (.int (lo+i)))) H N)
  (hd:∀b,H b=none->Q (.ref b) (upd H b (.lst (((List.range n).filter p).map f)))) :
  ∃W:Nat->Nat->List V->Hp->Prop,(∃m,W 0 m [] H)/\∀i m acc H,W i m acc H->
   ((Itr lo n).stop i H/\∀p,H p=none->Q (.ref p) (upd H p (.lst acc)))\/
   ((Itr lo n).go i H/\acc.length < sizeLine/\∀x H',(Itr lo n).yld i H x H'->dz j x (bf cm σ) H' fun σ2 H2=>Wk (bf cm σ) σ2/\tc σ2 H2 fun b H3=>if b=true then te σ2 H3 fun v H4=>∃m',m' < m/\W (i+1) m' (acc++[v]) H4 else ∃m',m' < m/\W (i+1) m' acc H3):=by
 refine ⟨fun i m acc H'=>m=n - i/\i<=n/\H'=H/\acc=((List.range i).filter p).map f,⟨n,by simp,Nat.zero_le _,rfl,by simp⟩,?_⟩
 rintro i m acc H' ⟨rfl,hi,rfl,rfl⟩
 by_cases hlt:i < n
 ·have hle:(((List.range i).filter p).map f).length < sizeLine:=by
   rw [JB]
   have:=List.length_filter_le p (List.range i)
   rw [List.length_range] at this
   omega
  refine .inr ⟨hlt,hle,fun x H' y=>?_⟩
  obtain ⟨e,y⟩:=y
  subst e y
  refine ⟨⟨by simp,fun k v e=>?_⟩,hc _ hlt _ ?_⟩
  ·by_cases hk:j=k
   ·subst hk;rw [hj] at e;cases e
   ·rw [List.getElem?_set_ne hk];exact e
  ·have hstep:((List.range (i+1)).filter p).map f=((List.range i).filter p).map f++(if p i then [f i] else []):=by
    rw [List.range_succ,List.filter_append,List.map_append]
    cases hp:p i<;>simp [hp]
   cases hp:p i with
   | true=>
    refine vq (hs _ hlt hp _ ⟨n - (i+1),by omega,rfl,hlt,rfl,?_⟩)
    rw [hstep,hp];rfl
   | false=>
    refine vp ⟨n - (i+1),by omega,rfl,hlt,rfl,?_⟩
    rw [hstep,hp];simp
 ·have e:i=n:=by omega
  subst e
  exact .inl ⟨Nat.le_refl _,hd⟩
theorem bR:bootBuiltins "len"=some (.builtin "len"):=by decide +kernel
theorem aG:bootBuiltins "isinstance"=some (.builtin "isinstance"):=by decide +kernel
theorem gj:bootBuiltins "int"=some (.type "int"):=by decide +kernel
theorem mY:bootBuiltins "bool"=some (.type "bool"):=by decide +kernel
theorem pB:bootBuiltins "str"=some (.type "str"):=by decide +kernel
theorem gF:bootBuiltins "list"=some (.type "list"):=by decide +kernel
theorem iY:bootBuiltins "tuple"=some (.type "tuple"):=by decide +kernel
theorem pC:bootBuiltins "range"=some (.type "range"):=by decide +kernel
theorem ky:bootBuiltins "enumerate"=some (.type "enumerate"):=by decide +kernel
noncomputable def pD (X:Cx)(scope:Scope):Bool:=scope.names.all fun y=>y.2 != .free || (X.env.kindOf y.1 == some .cell || X.env.kindOf y.1 == some .free)
noncomputable def vt (X:Cx)(scope:Scope)(Nc:List Str)(cm:List (Option Nat)):Bool:=(Nc.zip cm).all fun p=>match p.2 with
 | none=>true
 | some i=>X.N[i]? == some p.1 && (scope.names.lookup p.1 == some .free && (X.env.kindOf p.1 == some .cell || X.env.kindOf p.1 == some .free))
theorem pE {X:Cx}{tg iter elt:Expr}{ifs:List Expr}{scope:Scope}{pos:Pos}(Nc:List Str)(cm:List (Option Nat)){wi:TI}{g:TG}{tc:TT}{te:TE}
  (hi:PI X tg iter wi) (hg:∀C s₀ H₀ ex,PG (blk X Nc scope C s₀ H₀ ex) tg g) (ht:∀C s₀ H₀ ex,PIf (blk X Nc scope C s₀ H₀ ex) ifs tc) (he:∀C s₀ H₀ ex,PE (blk X Nc scope C s₀ H₀ ex) elt te)
  (hc:X.calm=true:=by rfl) (hkind:scope.kind=.function:=by rfl) (hcell:∀y∈scope.names,y.2≠.cell:=by decide +kernel) (hnames:∀y∈scope.names,y.2=.local->scope.names.lookup y.1=some .local:=by decide +kernel)
  (hfree:pD X scope=true:=by rfl) (hlen:cm.length=Nc.length:=by rfl) (hcm:vt X scope Nc cm=true:=by rfl)
  (hs:∀x,foldedSetIterable iter X.env x=pure x:=by intro _;rfl):PE X (.ListComp elt [⟨tg,iter,ifs,0⟩] scope pos) (lj wi g tc te cm):=by
 refine qU hc hi hkind hcell hnames (fun y hy e=>?_) hlen (fun j x i e1 e2=>?_) hg ht he hs
 ·have h:=List.all_eq_true.mp hfree y hy
  rw [e] at h
  simpa using h
 ·have hj:(Nc.zip cm)[j]?=some (x,some i):=by
   rw [List.getElem?_zip_eq_some];exact ⟨e1,e2⟩
  have h:=List.all_eq_true.mp hcm _ (List.mem_of_getElem? hj)
  simpa using h
theorem uo {CX:CXT}{P:Program}{w:World}{K:JA}{mg:Str->Option Value}{base:Heap}{N:List Str}{qual:Str}{scope:Scope}{f:Addr}{cd:Value}{A:Around}{outer:List Env}{s:Shared}{H:Hp}{E:XK} :
  (iX CX P w K mg base N qual scope f cd A outer s H E).K=K:=rfl
theorem kz {ns:List Int}{k:Int}(h0:0<=k)(h1:k < ns.length):atI (ns.map V.int) k=some (.int (ns.getD k.toNat 0)):=by
 have hl:k.toNat < ns.length:=by omega
 have q:(ns.map V.int)[k.toNat]?=some (.int (ns.getD k.toNat 0)):=by
  rw [List.getElem?_map,List.getD_eq_getElem?_getD,List.getElem?_eq_getElem hl]
  rfl
 have q2:=mU q
 rw [show ((k.toNat:Nat):Int)=k by omega] at q2
 exact q2
theorem pF {ns:List Int}{k:Nat}(h:ns.length<=k):ns.getD k 0=0:=by
 rw [List.getD_eq_getElem?_getD,List.getElem?_eq_none_iff.mpr h];rfl
noncomputable def dy (ds:List Int):Int:=ds.getD (ds.length - 1) 0
def tm (J:It)(g:TG)(tb:TS)(D:iD)(σ:St)(H1:Hp):Prop:=∃W:Nat->Nat->St->Hp->Prop,(∃m,W 0 m σ H1)/\∀i m σ H,W i m σ H->
 (J.stop i H/\D.nx σ H)\/(J.go i H/\∃N:St->Hp->Prop,(∀σ' H',N σ' H'->∃m',m' < m/\W (i+1) m' σ' H')/\∀x H',J.yld i H x H'->g x σ H' fun σ2 H2=>tb {D with nx:=N,ct:=N,bk:=D.nx} σ2 H2)
theorem qV (wi:TI)(g:TG)(tb:TS)(D:iD)(σ:St)(H:Hp):vc wi g tb D σ H=wi σ H fun J H1=>tm J g tb D σ H1:=rfl
def iZ (J:It)(g:TG)(tc:TT)(te:TE)(cm:List (Option Nat))(σ:St)(Q:VK)(H1:Hp):Prop:=∃W:Nat->Nat->List V->Hp->Prop,(∃m,W 0 m [] H1)/\∀i m acc H,W i m acc H->
 (J.stop i H/\∀p,H p=none->Q (.ref p) (upd H p (.lst acc)))\/
 (J.go i H/\acc.length < sizeLine/\∀x H',J.yld i H x H'->g x (bf cm σ) H' fun σ2 H2=>Wk (bf cm σ) σ2/\tc σ2 H2 fun b H3=>if b=true then te σ2 H3 fun v H4=>∃m',m' < m/\W (i+1) m' (acc++[v]) H4 else ∃m',m' < m/\W (i+1) m' acc H3)
theorem pG (wi:TI)(g:TG)(tc:TT)(te:TE)(cm:List (Option Nat))(σ:St)(H:Hp)(Q:VK):lj wi g tc te cm σ H Q=wi σ H fun J H1=>iZ J g tc te cm σ Q H1:=rfl
theorem a6 {lo:Int}{n:Nat}{g:TG}{tb:TS}{D:iD}{σ:St}{H:Hp}(Pv:Nat->St->Hp->Prop)(h0:Pv 0 σ H)
  (hs:∀i σ H,i < n->Pv i σ H->g (.int (lo+i)) σ H fun σ2 H2=>tb {D with nx:=Pv (i+1),ct:=Pv (i+1),bk:=D.nx} σ2 H2) (hd:∀σ H,Pv n σ H->D.nx σ H):tm (Itr lo n) g tb D σ H:=nS Pv h0 hs hd
theorem eP {lo:Int}{n:Nat}{tc:TT}{te:TE}{cm:List (Option Nat)}{σ:St}{H:Hp}{Q:VK}(p:Nat->Bool)(f:Nat->V)(hn:n<=sizeLine){j:Nat}(hj:(bf cm σ)[j]?=some none)
  (hc:∀i,i < n->∀N:Bool->Hp->Prop,N (p i) H->tc ((bf cm σ).set j (some (.int (lo+i)))) H N)
  (hs:∀i,i < n->p i=true->∀N:VK,N (f i) H->te ((bf cm σ).set j (some (.int (lo+i)))) H N)
  (hd:∀b,H b=none->Q (.ref b) (upd H b (.lst (((List.range n).filter p).map f)))):iZ (Itr lo n) (dz j) tc te cm σ Q H:=gE p f hn hj hc hs hd
theorem lp {K:JA}{a:Addr}{xs:List V}{tc:TT}{te:TE}{cm:List (Option Nat)}{σ:St}{H:Hp}{Q:VK}(p:V->Bool)(f:V->V)(hl:SqL K H a xs)(hn:xs.length<=sizeLine){j:Nat}(hj:(bf cm σ)[j]?=some none)
  (hc:∀x,x∈xs->∀N:Bool->Hp->Prop,N (p x) H->tc ((bf cm σ).set j (some x)) H N)
  (hs:∀x,x∈xs->p x=true->∀N:VK,N (f x) H->te ((bf cm σ).set j (some x)) H N)
  (hd:∀b,H b=none->Q (.ref b) (upd H b (.lst ((xs.filter p).map f)))):iZ (Itl K a) (dz j) tc te cm σ Q H:=jG p f hl hn hj hc hs hd
theorem upo {H:Hp}{a b:Addr}{o u:HO}(h:H b=some u)(hn:H a=none):upd H a o b=some u:=by rw [aj (ah h hn)];exact h
theorem upn {H:Hp}{a b:Addr}{o:HO}(h:upd H a o b=none):H b=none:=by
 by_cases e:b=a
 ·subst e;rw [ae] at h;cases h
 ·rw [aj e] at h;exact h
theorem au.lay {H H':Hp}{a:Addr}{o:HO}(s:au H H')(hn:H' a=none):au H (upd H' a o):=fun b u e=>upo (s b u e) hn
theorem au.rewr {H H':Hp}{a:Addr}{o:HO}(s:au H H')(hn:H a=none):au H (upd H' a o):=fun b u e=>by rw [aj (ah e hn)];exact s b u e
theorem uq {ds:List Int}(h:0 < ds.length):atI (ds.map V.int) (-1)=some (.int (dy ds)):=by
 unfold atI ixN
 rw [if_neg (by decide),JB,if_pos (by omega),Option.bind_some,List.getElem?_map,show (-1+(ds.length:Int)).toNat=ds.length - 1 by omega,List.getElem?_eq_getElem (by omega)]
 unfold dy
 rw [List.getD_eq_getElem?_getD,List.getElem?_eq_getElem (by omega)]
 rfl
theorem kA (a b:Int):eqV (.int a) (.int b)=decide (a=b):=by
 simp [eqV,Bool.beq_eq_decide_eq]
theorem mZ (d:Int)(ds:List Int):inV (.int d) (ds.map V.int)=decide (d∈ds):=by
 unfold inV
 rw [List.any_map]
 by_cases h:d∈ds
 ·rw [decide_eq_true h,List.any_eq_true]
  exact ⟨d,h,by simp [kA]⟩
 ·rw [decide_eq_false h,List.any_eq_false]
  intro x hx
  simp [kA]
  rintro rfl
  exact h hx
theorem kB {xs:List Int}{i:Nat}{x:V}(h:(xs.map V.int)[i]?=some x):∃z,x=V.int z/\xs[i]?=some z/\z∈xs:=by
 rw [List.getElem?_map] at h
 cases e:xs[i]? with
 | none=>rw [e] at h;cases h
 | some z=>rw [e] at h;exact ⟨z,(Option.some.inj h).symm,rfl,List.mem_of_getElem? e⟩
theorem qW (d x y:Int):inV (.int d) [.int x,.int y]=decide (d=x\/d=y):=by
 have:=mZ d [x,y]
 simpa [eq_comm] using this
end L2
namespace L2
end L2
namespace L2
open PySem PySem.Spec PyProof.Rows
noncomputable def CXf (P:Program)(w:World):CXT:=fun outer H s E e s'=>
 ∃(x:Addr) (cls a0:Value) (H':Hp) (B:Heap),e=.ref x/\s'.os=s.os/\AllBare s'.gens/\Un (frs outer) [] H H' s.heap s'.heap/\HOk P w H' s'.heap/\Heap.FlyingW B outer x cls a0 s'.heap/\
  (∀b o,s'.heap.get? b=some o->(H' b≠none\/∃o0,s.heap.get? b=some o0)->b∉frs outer->B.get? b=some o)/\(∀o,s.heap.get? x≠some o)/\H' x=none/\E cls none H'
theorem cw.there {P:Program}{w:World}{H:Hp}{h:Heap}{a:Addr}{o:HO}(l:cw P w H h a o):∃ob,h.get? a=some ob:=by
 cases o with
 | lst xs=>obtain ⟨_,its,n,_,e⟩:=l;exact ⟨_,e⟩
 | tup xs=>obtain ⟨_,its,_,ob,e,_⟩:=l;exact ⟨_,e⟩
 | dK kvs=>obtain ⟨_,_,_,_,ob,_,_,e,_⟩:=l;exact ⟨_,e⟩
 | dT kvs=>obtain ⟨_,_,_,_,ob,_,_,e,_⟩:=l;exact ⟨_,e⟩
 | set S n=>obtain ⟨ob,_,_,_,e,_⟩:=l;exact ⟨_,e⟩
 | ins C dx fs=>obtain ⟨_,_,_,e,_⟩:=l;exact ⟨_,e⟩
 | own y=>exact l
 | xd fs=>obtain ⟨mA,⟨od,_,_,e,_⟩,_⟩:=l;exact ⟨_,e⟩
 | rng lo hi=>obtain ⟨_,_,_,e⟩:=l;exact ⟨_,e⟩
 | frz ob u=>obtain ⟨e,_⟩:=l;exact ⟨_,e⟩
 | tbl ps=>exact ⟨_,l⟩
 | met f y=>exact ⟨_,l⟩
 | ext φ=>obtain ⟨_,h,_⟩:=l;exact h
section
variable {P:Program}{w:World}{K:JA}{mg:Str->Option Value}{base:Heap}{N:List Str}{qual:Str}{scope:Scope}{f:Addr}{cd:Value}{A:Around}{outer:List Env}{s:Shared}{H:Hp}{E:XK}
noncomputable abbrev cxF (P:Program)(w:World)(K:JA)(mg:Str->Option Value)(base:Heap)(N:List Str)(qual:Str)(scope:Scope)(f:Addr)(cd:Value)(A:Around)(outer:List Env)(s:Shared)(H:Hp)(E:XK):Cx:=
 iX (CXf P w) P w K mg base N qual scope f cd A outer s H E
theorem m8 {pins:List (Addr×Obj)}{σ:St}{H1:Hp}{s1:Shared}{h2:Heap}{x:Addr}{cls a0:Value}{B:Heap}(I:Inv (cxF P w K mg base N qual scope f cd A outer s H E) pins σ H1 s1)
  (hB:∀b o,s1.heap.get? b=some o->(H1 b≠none\/∃o0,s.heap.get? b=some o0)->b∉frs (cxF P w K mg base N qual scope f cd A outer s H E).stack->B.get? b=some o)
  (hfl:Heap.FlyingW B outer x cls a0 h2) (hsl:∀b o,s1.heap.get? b=some o->(∀vs,o.data≠.fields vs)->∃sl,h2.get? b=some {o with slots:=sl}) (hx:∀o,s.heap.get? x≠some o) (hx1:H1 x=none) (q:E cls none H1) :
  CXf P w outer H s E (.ref x) {s1 with heap:=h2}:=by
 have neL:∀b o,s.heap.get? b=some o->b≠s.heap.objs.size:=fun b o e=>Nat.ne_of_lt (Heap.lt_size e)
 have stk:∀b,b∈frs (cxF P w K mg base N qual scope f cd A outer s H E).stack->b=s.heap.objs.size\/b∈frs outer:=fun b hb=>by
  rcases List.mem_cons.mp (I.stkSub b hb) with z | z
  ·exact .inl z
  ·exact .inr z
 have hfree:H1 s.heap.objs.size=none:=I.free
 have st:B.StaysIn h2:=hfl.1
 have frD:∀b∈frs outer,∃o,s.heap.get? b=some o/\∀vs,o.data≠.fields vs:=fun b hb=>(I.ok.funs.mem hb).2
 have u:=I.base
 have nf:∀b o,s.heap.get? b=some o->b∉frs outer->b∉frs (cxF P w K mg base N qual scope f cd A outer s H E).stack:=fun b o e hb z=>(stk b z).elim (neL b o e) hb
 have up:∀b∈frs outer,∀o,s.heap.get? b=some o->∃sl,h2.get? b=some {o with slots:=sl}:=fun b hb o e=>by
  obtain ⟨o',e',d⟩:=frD b hb
  rw [e] at e';cases e'
  obtain ⟨sl,q1⟩:=u.any (b:=b) e (I.ok.frf b hb) (by intro z;exact nomatch z)
  obtain ⟨sl',q2⟩:=hsl b _ q1 d
  exact ⟨sl',q2⟩
 refine ⟨x,cls,a0,H1,B,rfl,I.os,I.bare,⟨fun b o e n hb _=>?_,fun b o e n hb _=>up b hb o e,u.free,fun b o e _=>?_,u.tups,u.frzs,u.tbls⟩,fun b o e=>?_,hfl,fun b o e hh hb=>?_,hx,hx1,q⟩
 ·exact st b o (hB b o (u.keep b o e n hb (by intro z;exact nomatch z)) (.inr ⟨o,e⟩) (nf b o e hb))
 ·by_cases hb:b∈frs outer
  ·obtain ⟨sl,q⟩:=up b hb o e
   exact ⟨_,q⟩
  ·obtain ⟨o',e'⟩:=u.there b o e (by intro z;exact nomatch z)
   exact ⟨o',st b o' (hB b o' e' (.inr ⟨o,e⟩) (nf b o e hb))⟩
 ·have ne:b≠s.heap.objs.size:=fun z=>by rw [z,hfree] at e;cases e
  have inB:∀c v,H1 c≠none->s1.heap.get? c=some v->h2.get? c=some v:=fun c v hc q=>st c v (hB c v q (.inl hc) fun z=>by
   rcases stk c z with y | y
   ·rw [y] at hc;exact hc hfree
   ·obtain ⟨o',e',_⟩:=frD c y
    exact hc (u.free c o' e' (I.ok.frf c y) (by intro z;exact nomatch z)))
  refine (I.hok b o e).stay (fun c v hc q=>inB c v ?_ q) (fun _ q=>q) fun _ _ q=>q
  rcases hc with z | z
  ·rw [z,e];simp
  ·rw [z];simp
 ·
  have there1:∃o1,s1.heap.get? b=some o1:=by
   rcases hh with z | ⟨o0,z⟩
   ·cases q:H1 b with
    | none=>exact absurd q z
    | some v=>exact (I.hok b v q).there
   ·exact u.there b o0 z (by intro z;exact nomatch z)
  obtain ⟨o1,e1⟩:=there1
  have nfb:b∉frs (cxF P w K mg base N qual scope f cd A outer s H E).stack:=fun z=>by
   rcases stk b z with y | y
   ·rcases hh with t | ⟨o0,t⟩
    ·rw [y] at t;exact t hfree
    ·exact neL b o0 t y
   ·exact hb y
  have e2:=hB b o1 e1 hh nfb
  have e3:=st b o1 e2
  have e':h2.get? b=some o:=e
  rw [e3] at e';cases e'
  exact e2
theorem n9 {pins:List (Addr×Obj)}{σ:St}{H1:Hp}{s1:Shared}{h':Heap}{x:Addr}{cls:Value}{args:List Value}(I:Inv (cxF P w K mg base N qual scope f cd A outer s H E) pins σ H1 s1)
  (hx:Heap.MadeExcOf s1.heap h' x cls args) (q:E cls none H1):(cxF P w K mg base N qual scope f cd A outer s H E).xe (.ref x) {s1 with heap:=h'}:=by
 have hn:=hx.new
 have hin:∀env∈(cxF P w K mg base N qual scope f cd A outer s H E).stack,∀b,env.frame=some b->b∈frs (cxF P w K mg base N qual scope f cd A outer s H E).stack:=fun env he b hb=>List.mem_filterMap.mpr ⟨env,he,hb⟩
 have hx1:H1 x=none:=by
  cases q:H1 x with
  | none=>rfl
  | some v=>
   obtain ⟨ob,e⟩:=(I.hok x v q).there
   rw [hn] at e;cases e
 refine wpAny_leaves_madeW (base:=W.hideAll s1.heap (frs (cxF P w K mg base N qual scope f cd A outer s H E).stack)) (h:=s1.heap) (s:={s1 with heap:=h'}) I.ok.frames rfl (fun b o q=>W.of_hideAll _ q) (W.funFrames_hide I.stack hin) hx fun h2 t f1 f2 f3 f4=>?_
 refine m8 (s1:=s1) I (fun b o e _ hb=>W.hideAll_get _ e hb) f1 (fun b o e d=>f4 b o (hx.keeps b o e) d) (fun o e=>?_) hx1 q
 obtain ⟨o',e'⟩:=I.base.there x o e (by intro z;exact nomatch z)
 rw [hn] at e';cases e'
theorem i3:bX (CXf P w) (cxF P w K mg base N qual scope f cd A outer s H E) E:=by
 rintro pins σ H1 s1 e s2 I ⟨x,cls,a0,H2,B,rfl,os,bare,un,hok,hfl,hB,hx,hx2,q⟩
 have I2:Inv (cxF P w K mg base N qual scope f cd A outer s H E) pins σ H2 s2:=I.call' os un hok bare fun b hb=>absurd hb (by simp)
 refine wpAny_leaves_onW (s:=s2) I.ok.frames rfl hfl fun h2 f1 f2=>?_
 refine m8 I2 (fun b o e hh hb=>hB b o e ?_ hb) f1 (fun b o e d=>f2 b o e d) (fun o e=>?_) hx2 q
 ·rcases hh with z | ⟨o0,z⟩
  ·exact .inl z
  ·obtain ⟨o1,e1⟩:=I.base.there b o0 z (by intro z;exact nomatch z)
   exact .inr ⟨o1,e1⟩
 ·obtain ⟨o1,e1⟩:=I.base.there x o e (by intro z;exact nomatch z)
  exact hx o1 e1
structure ExC (K:JA)(C:Addr):Prop where
 ex:∃(nm q:Str) (N:Addr) (bs bm:List Value) (hdct:Bool) (sn:List Str) (sub:List Value) (ab:Bool) (col:Option Bool) (dd:Option Addr) (k0 k1 k2 k3 k5:Option Value) (mN:Str->Option Value),
  ∀h,K.In h->h.get? C=some (excClassObj nm q C N bs bm hdct sn sub ab col dd k0 k1 k2 k3 k5 "ValueError.__new__")/\h.Ns N mN/\(∀n∈quietNames,mN n=none)/\OwnTailQ h [.type "ValueError",.type "Exception",.type "BaseException",.type "object"] bm
noncomputable def fH (es:Array DictEntry):Bool:=es.toList.all fun e=>match e.key with | .str _ _=>true | _=>false
theorem tq {K:JA}{h:Heap}{N:Addr}{c:Value}{d:Option Addr}{es:Array DictEntry}{ep:Nat}{sl:Array (Option Value)}(X:K.In h)(l:K.lookup N=some ⟨c,d,.dict es ep,sl⟩)(k:fH es=true):h.Ns N (nsFind es):=by
 refine ⟨_,es,ep,X _ _ l,rfl,fun e he=>?_,fun _=>rfl⟩
 have z:=List.all_eq_true.mp k e (by simpa using he)
 split at z
 ·rename_i n t q;exact ⟨n,t,q⟩
 ·cases z
theorem ur {K:JA}{C N C0 N0:Addr}{nm q:Str}{bs:List Value}{hdct:Bool}{sn:List Str}{sub:List Value}{ab:Bool}{col:Option Bool}{dd:Option Addr}{k0 k1 k2 k3 k5:Option Value}
  {c1 c2 c0:Value} {d1 d2 dd0:Option Addr} {es es0:Array DictEntry} {ep ep0:Nat} {sl1 sl2 sl0:Array (Option Value)} {cd0:ClassData}
  (lC:K.lookup C=some (excClassObj nm q C N bs [.ref C0,.type "ValueError",.type "Exception",.type "BaseException",.type "object"] hdct sn sub ab col dd k0 k1 k2 k3 k5 "ValueError.__new__"))
  (lN:K.lookup N=some ⟨c1,d1,.dict es ep,sl1⟩) (kN:fH es=true) (iN:(quietNames.all fun n=>(nsFind es n).isNone)=true)
  (l0:K.lookup C0=some ⟨c0,dd0,.cls cd0,sl0⟩) (e0:cd0.ns=N0) (lN0:K.lookup N0=some ⟨c2,d2,.dict es0 ep0,sl2⟩) (kN0:fH es0=true) (iN0:(quietNames.all fun n=>(nsFind es0 n).isNone)=true):ExC K C:=
 ⟨nm,q,N,bs,_,hdct,sn,sub,ab,col,dd,k0,k1,k2,k3,k5,nsFind es,fun h X=>⟨X _ _ lC,tq X lN kN,fun n hn=>Option.isNone_iff_eq_none.mp (List.all_eq_true.mp iN n hn),.own (X _ _ l0) (e0▸tq X lN0 kN0) (fun n hn=>Option.isNone_iff_eq_none.mp (List.all_eq_true.mp iN0 n hn)) .base⟩⟩
noncomputable def pH (E:XK)(C:Addr)(t:TA):TS:=fun _ σ H=>t σ H fun vs H1=>vs.length<=sizeLine/\E (.ref C) none H1
theorem cO {x:Str}{C:Addr}{e:Expr}{es:List Expr}{t:TA}{np cpos pos:Pos}(O:ExC K C)(hg:Gl (cxF P w K mg base N qual scope f cd A outer s H E) x)(hm:mg x=some (.ref C))
  (ha:PA (cxF P w K mg base N qual scope f cd A outer s H E) (e::es) t) (hdb:(x == ("__debug__":Str))=false:=by decide)
  (he:starEach (e::es) (cxF P w K mg base N qual scope f cd A outer s H E).env=(false,eval e (cxF P w K mg base N qual scope f cd A outer s H E).env)::starEach es (cxF P w K mg base N qual scope f cd A outer s H E).env:=by rfl)
  (hpl:(backTo cpos (starEach es (cxF P w K mg base N qual scope f cd A outer s H E).env)).any (·.1)=false:=by rfl) :
  PS (cxF P w K mg base N qual scope f cd A outer s H E) (.Raise (some (.Call (.Name x np) (e::es) [] cpos)) none pos) (pH E C t):=by
 intro pins s1 σ H1 D I h
 obtain ⟨nm,q,N,bs,bm,hdct,sn,sub,ab,col,dd,k0,k1,k2,k3,k5,mN,O⟩:=O.ex
 obtain ⟨_,_,hni,T0⟩:=O _ I.kIn
 refine wpAny_Raise_call_subU (C:=C) (nm:=nm) (q:=q) (N:=N) (bs:=bs) (bm:=bm) (hdct:=hdct) (sn:=sn) (sub:=sub) (ab:=ab) (col:=col) (dd:=dd) (k0:=k0) (k1:=k1) (k2:=k2) (k3:=k3) (k5:=k5)
  PySem.F.excBase_ValueError (by decide +kernel) PySem.F.excBase_ValueError (mN:=mN) (T0.tail.hasType PySem.F.excBase_ValueError.hasBase) (I.ok.hd rfl) (by rw [he];show (false || (backTo cpos (starEach es _)).any (·.1))=false;rw [hpl];rfl) (hni _ (.head _)) (fF I hg hm ⟨rfl,?_⟩ hdb)
 have ha':=ha cpos pins s1 σ H1 _ I h
 rw [he] at ha' ⊢
 refine Calls.evalArgs_plain (wpAny_mono ha' (fun us s2 h2=>?_) fun _ _ y=>y)
 obtain ⟨vs,H2,I2,rv,hlen,qE⟩:=h2
 obtain ⟨a1,a2,_,a4⟩:=O _ I2.kIn
 exact ⟨rfl,by rw [←rv.length];exact hlen,a1,a2,a4.tail,fun h' e hx=>n9 I2 hx qE⟩
theorem Fun.okF {x qual:Str}{st:Stmt}{f:Addr}{fd:FuncData}{N ps:List Str}{k:Nat}{sp:Sp}(F:Fun K x qual st f fd)(S:aN N ps (ao st))(len:∀vs H Q E,sp vs H Q E->vs.length=ps.length)
  (hbody:∀(cdv:Value) (A:Around) (outer:List Env) (s:Shared) (H:Hp) (vs:List V) (Q:VK) (E:XK),bp k (A.deeper (envOfC qual (ao st) s.heap.objs.size f cdv))->sp vs H Q E->
   ∃t,PSs (cxF P w K mg base N qual (ao st) f cdv A outer s H E) (a8 st) t/\t {nx:=fun _ H'=>Q .non H',rt:=Q} (eO N vs) H):c5 P w K mg base (CXf P w) (k+1) f fd ps sp:=by
 obtain ⟨oc,od,kV,doc,pm,an,cdv,ct,osl,rfl,lk,hcd⟩:=F.ex
 refine td lk hcd S len fun A outer s H vs Q E hr hsp=>?_
 exact hbody cdv A outer s H vs Q E hr hsp
end
noncomputable abbrev XT:=Value->St->Hp->Prop
noncomputable def Xt (X:Cx)(pins:List (Addr×Obj))(E':XT):Cx:=
 {X with pn:=X.pn++pins,xe:=fun e s'=>∃σ H s,Inv X pins σ H s/\CXf X.prog X.w X.stack H s (fun cls _ H'=>E' cls σ H') e s'}
noncomputable def Xh (X:Cx)(e:Value):Cx:={X with A:=X.A.mark (some e),calm:=false,xe:=fun _ _=>False}
section
variable {X:Cx}{pins pins':List (Addr×Obj)}{σ:St}{H:Hp}{s:Shared}{E':XT}{e:Value}
theorem Cx.Ok.toT (ok:X.Ok):(Xt X pins E').Ok:=⟨ok.mod,ok.kind,ok.glob,ok.blt,ok.above,ok.inj,ok.has,ok.cab,ok.hd,ok.frames,ok.stk,ok.exf,ok.bs,ok.bsz,ok.noex,ok.exfs,ok.funs,ok.frf⟩
theorem Cx.Ok.ofT (ok:(Xt X pins E').Ok):X.Ok:=⟨ok.mod,ok.kind,ok.glob,ok.blt,ok.above,ok.inj,ok.has,ok.cab,ok.hd,ok.frames,ok.stk,ok.exf,ok.bs,ok.bsz,ok.noex,ok.exfs,ok.funs,ok.frf⟩
theorem Inv.toT (I:Inv X pins σ H s):Inv (Xt X pins E') [] σ H s:=⟨I.ok.toT,I.os,I.bare,I.base,I.loc,I.cell,I.free,I.freeC,fun p hp=>I.pin p (by simpa [Xt] using hp),I.hok,I.len⟩
theorem Inv.ofT (I:Inv (Xt X pins E') pins' σ H s):Inv X pins σ H s:=⟨I.ok.ofT,I.os,I.bare,I.base,I.loc,I.cell,I.free,I.freeC,fun p hp=>I.pin p (List.mem_append_left _ hp),I.hok,I.len⟩
theorem Inv.toH (I:Inv X pins σ H s):Inv (Xh X e) pins σ H s:=
 ⟨⟨I.ok.mod,I.ok.kind,I.ok.glob,I.ok.blt,I.ok.above,I.ok.inj,I.ok.has,I.ok.cab,fun z=>(Bool.false_ne_true z).elim,I.ok.frames,I.ok.stk,I.ok.exf,I.ok.bs,I.ok.bsz,I.ok.noex,I.ok.exfs,I.ok.funs,I.ok.frf⟩,I.os,I.bare,I.base,I.loc,I.cell,I.free,I.freeC,I.pin,I.hok,I.len⟩
theorem Inv.ofH (ok:X.Ok)(I:Inv (Xh X e) pins σ H s):Inv X pins σ H s:=⟨ok,I.os,I.bare,I.base,I.loc,I.cell,I.free,I.freeC,I.pin,I.hok,I.len⟩
theorem Inv.flown {H1:Hp}{s1:Shared}{h2:Heap}{B:Heap}(I:Inv X pins σ H s)(os:s1.os=s.os)(bare:AllBare s1.gens)(un:Un (frs X.stack) [] H H1 s.heap s1.heap)(hok:HOk X.prog X.w H1 s1.heap)
  (hB:∀b o,s1.heap.get? b=some o->(H1 b≠none\/∃o0,s.heap.get? b=some o0)->b∉frs X.stack->B.get? b=some o) (st:B.StaysIn h2) (hsl:s1.heap.UpToSlots h2):Inv X pins σ H1 {s1 with heap:=h2}:=by
 have frD:∀b∈frs X.stack,∃o,s.heap.get? b=some o/\∀vs,o.data≠.fields vs:=fun b hb=>(I.stack.mem hb).2
 have up:∀b∈frs X.stack,∀o,s.heap.get? b=some o->∃sl,h2.get? b=some {o with slots:=sl}:=fun b hb o e=>by
  obtain ⟨o',e',d⟩:=frD b hb
  rw [e] at e';cases e'
  obtain ⟨sl,q1⟩:=un.any (b:=b) e (I.stkFree b hb) (by intro z;exact nomatch z)
  obtain ⟨sl',q2⟩:=hsl b _ q1 d
  exact ⟨sl',q2⟩
 refine I.call' (s':={s1 with heap:=h2}) (ch:=[]) os ⟨fun b o e n hb _=>?_,fun b o e n hb _=>up b hb o e,un.free,fun b o e _=>?_,un.tups,un.frzs,un.tbls⟩ (fun b o e=>?_) bare fun b hb=>absurd hb (by simp)
 ·exact st b o (hB b o (un.keep b o e n hb (by intro z;exact nomatch z)) (.inr ⟨o,e⟩) hb)
 ·by_cases hb:b∈frs X.stack
  ·obtain ⟨sl,q⟩:=up b hb o e
   exact ⟨_,q⟩
  ·obtain ⟨o',e'⟩:=un.there b o e (by intro z;exact nomatch z)
   exact ⟨o',st b o' (hB b o' e' (.inr ⟨o,e⟩) hb)⟩
 ·have inB:∀c v,H1 c≠none->s1.heap.get? c=some v->h2.get? c=some v:=fun c v hc q=>st c v (hB c v q (.inl hc) fun z=>by
   obtain ⟨o',e',_⟩:=frD c z
   exact hc (un.free c o' e' (I.stkFree c z) (by intro z;exact nomatch z)))
  refine (hok b o e).stay (fun c v hc q=>inB c v ?_ q) (fun _ q=>q) fun _ _ q=>q
  rcases hc with z | z
  ·rw [z,e];simp
  ·rw [z];simp
noncomputable def qX (y:Addr)(cls:Value):HO:=.ext fun h=>∃o vs,h.get? y=some o/\o.cls=cls/\o.data=.fields vs
theorem oa {H1:Hp}{s1:Shared}{x:Addr}{cls:Value}{oe:Obj}{vs:Array Value}(I0:Inv X pins σ H s)(I:Inv X pins σ H1 s1)(hx:∀o,s.heap.get? x≠some o)(hx1:H1 x=none)(he:s1.heap.get? x=some oe)(hc:oe.cls=cls)(hd:oe.data=.fields vs)
  (hxl:x≠X.env.locals) (hxc:∀y c,X.env.cells.lookup y=some c->c≠x):Inv X pins σ (upd H1 x (qX x cls)) s1:=by
 have hb:∀b u,X.s₀.heap.get? b=some u->b∉X.ex->b≠x:=fun b u e hbx z=>by
  obtain ⟨o',e'⟩:=I0.base.there b u e hbx
  rw [z] at e'
  exact hx o' e'
 refine ⟨I.ok,I.os,I.bare,⟨I.base.keep,I.base.slot,fun b u e n hbx=>?_,I.base.there,fun b xs e=>?_,fun b u xs e=>?_,fun b ps e=>?_⟩,I.loc,I.cell,?_,fun y c e=>?_,fun p hpp=>?_,fun b u e=>?_,I.len⟩
 ·rw [aj (hb b u e hbx)];exact I.base.free b u e n hbx
 ·have q:=I.base.tups b xs e;rw [aj (ah q hx1)];exact q
 ·have q:=I.base.frzs b u xs e;rw [aj (ah q hx1)];exact q
 ·obtain ⟨more,q⟩:=I.base.tbls b ps e;exact ⟨more,by rw [aj (ah q hx1)];exact q⟩
 ·rw [aj (Ne.symm hxl)];exact I.free
 ·rw [aj (hxc y c e)];exact I.freeC y c e
 ·obtain ⟨a,b,c⟩:=I.pin p hpp
  refine ⟨a,?_,c⟩
  rw [aj (fun z=>?_)];exact b
  have:=(I0.pin p hpp).1
  rw [z] at this
  exact hx _ this
 ·by_cases hbb:b=x
  ·subst hbb;rw [ae] at e;cases e
   exact ⟨⟨oe,vs,he,hc,hd⟩,⟨oe,he⟩,fun h1 h2 ⟨o,v,a,b,c⟩ k=>⟨o,v,k _ a,b,c⟩⟩
  ·rw [aj hbb] at e
   exact (I.hok b u e).stay (fun c v _ q=>q) (fun c q=>by rw [aj (ah q hx1)];exact q) fun c xs q=>by rw [aj (ah q hx1)];exact q
theorem fI {i:Nat}{n:Str}{pos:Pos}{A:Around}{M:Model}{Er:Value->Shared->Prop}{Q:Unit->Shared->Prop}(I:Inv X pins σ H s)(hN:X.N.Nodup)(hi:X.N[i]?=some n)(hk:X.env.scope.names.lookup n=some .local)
  (h:∀s',Inv X pins (σ.set i none) H s'->Q () s'):wpAny M A (do bindName X.env n .none;unbindBehindTheSuite X.env n pos) Q Er s:=by
 refine wpAny_bind (wpAny_bindName (gz (v:=V.non) I hN hi (.inl hk) rfl (fun s1 I1=>?_) (.inr hk)))
 unfold unbindBehindTheSuite
 refine wpAny_onRaise ?_
 obtain ⟨m,hn,hl⟩:=id I1.loc
 have hiσ:i < σ.length:=by rw [I.len];exact (List.getElem?_eq_some_iff.mp hi).1
 obtain ⟨u,ru,lk⟩:=hl i n .non hi (List.getElem?_set_self hiσ) (.inl hk)
 have hv:m n=some u:=by
  rcases lk with ⟨_,z⟩ | ⟨z,_⟩
  ·exact z
  ·have hk':X.env.kindOf n=some .local:=hk
   rcases z with z | z
   ·rw [hk'] at z;cases z
   ·rw [hk'] at z;cases z
 have hcls:(X.env.scope.kind == .class || (X.env.scope.kind == .module && X.env.locals != X.env.globals))=false:=by rw [I.ok.kind];rfl
 refine wpAny_unbindName_local hk hn hv hcls fun h' u' hn' hs=>?_
 have ne:∀b o,X.s₀.heap.get? b=some o->b≠X.env.locals:=fun b o e=>Nat.ne_of_lt (Nat.lt_of_lt_of_le (Heap.lt_size e) I.ok.above)
 refine h _ ⟨I1.ok,I1.os,I1.bare,⟨fun b o e n hb hx=>(hs.2 b (ne b o e)).trans (I1.base.keep b o e n hb hx),fun b o e n hb hx=>?_,I1.base.free,fun b o e hx=>?_,I1.base.tups,I1.base.frzs,I1.base.tbls⟩,⟨_,hn',fun j y v' e1 e2 e3=>?_⟩,fun y c e=>?_,I1.free,I1.freeC,fun p hp=>?_,fun b ob e=>?_,?_⟩
 ·obtain ⟨sl,e1⟩:=I1.base.slot b o e n hb hx
  exact ⟨sl,(hs.2 b (ne b o e)).trans e1⟩
 ·obtain ⟨o',e1⟩:=I1.base.there b o e hx
  exact ⟨o',(hs.2 b (ne b o e)).trans e1⟩
 ·by_cases hj:j=i
  ·subst hj
   rw [List.getElem?_set_self hiσ] at e2
   cases e2
  ·rw [List.getElem?_set_ne (Ne.symm hj)] at e2
   obtain ⟨u2,r2,q⟩:=hl j y v' e1 (by rw [List.getElem?_set_ne (Ne.symm hj)];exact e2) e3
   refine ⟨u2,r2,?_⟩
   rcases q with ⟨k,e⟩ | ⟨k,c,e,z⟩
   ·refine .inl ⟨k,?_⟩
    have:y≠n:=fun e=>hj (iR hN e1 (e▸hi))
    simp [this,e]
   ·exact .inr ⟨k,c,e,z.sameBut hs (I1.cne y c e)⟩
 ·obtain ⟨w',z⟩:=I1.cell y c e
  exact ⟨w',z.sameBut hs (I1.cne y c e)⟩
 ·obtain ⟨e,n,ne',nf,d⟩:=I1.pin p hp
  exact ⟨(hs.2 p.1 ne').trans e,n,ne',nf,d⟩
 ·refine (I1.hok b ob e).stay (fun c w' hc q=>(hs.2 c ?_).trans q) (fun _ q=>q) fun _ _ q=>q
  rintro rfl
  rcases hc with z | z
  ·rw [←z,I1.free] at e;cases e
  ·rw [I1.free] at z;cases z
 ·rw [List.length_set];exact I.len
end
section
variable {X:Cx}
noncomputable def vv (K:JA)(C:Addr)(i:Nat)(tb:XT->TS)(th:TS):TS:=fun D σ H=>
 tb (fun cls σ' H'=>W.exmOne K cls (.ref C)=some true/\∀y,H' y=none->
  th {nx:=fun σ H=>D.nx (σ.set i none) H,rt:=D.rt,bk:=fun σ H=>D.bk (σ.set i none) H,ct:=fun σ H=>D.ct (σ.set i none) H} (σ'.set i (some (.ref y))) (upd H' y (qX y cls))) D σ H
theorem uu {body suite:List Stmt}{b₀:Stmt}{x n:Str}{C:Addr}{i:Nat}{tb:XT->TS}{th:TS}{np hpos pos:Pos}(hst:X.stack=X.env::X.outer)(hfr:X.env.frame=some X.env.locals)
  (hb:∀pins E',PSs (Xt X pins E') body (tb E')) (hh:∀e,PSs (Xh X e) (b₀::suite) th) (hN:X.N.Nodup) (hi:X.N[i]?=some n) (hk:X.env.scope.names.lookup n=some .local) (hg:Gl X x) (hm:X.mg x=some (.ref C))
  (hdb:(x == ("__debug__":Str))=false:=by decide):PS X (.Try body [.ExceptHandler (some (.Name x np)) (some n) (b₀::suite) hpos] [] [] pos) (vv X.K C i tb th):=by
 intro pins s σ H D I h
 refine wpAny_Try_except (wpAny_mono (hb pins _ [] s σ H D I.toT h) (fun f s1 h1=>?_) fun e s1 h1=>?_)
 ·cases f with
  | next=>obtain ⟨σ',H',J,q⟩:=h1;exact wpAny_execs_nil ⟨σ',H',J.ofT,q⟩
  | brk=>obtain ⟨σ',H',J,q⟩:=h1;exact ⟨σ',H',J.ofT,q⟩
  | cont=>obtain ⟨σ',H',J,q⟩:=h1;exact ⟨σ',H',J.ofT,q⟩
  | ret u=>obtain ⟨v,σ',H',J,r,q⟩:=h1;exact ⟨v,σ',H',J.ofT,r,q⟩
 ·obtain ⟨σ0,H0,s0,I0,y,cls,a0,H1,B,rfl,os,bare,un,hok,hfl,hB,hx,hx1,em,q⟩:=h1
  have frames:X.A.frames=some (X.env::X.outer):=by rw [←hst];exact I0.ok.frames
  rw [hst] at hfl
  refine wpAny_looks_onW frames hfr hfl fun h4 held4 sm4=>wpAny_landsW held4 fun h5 fl5 sm5=>?_
  have I5:Inv X pins σ0 H1 {s1 with heap:=h5}:=I0.flown os bare un hok hB fl5.1 (sm4.trans sm5)
  refine wpAny_handleBy_cons (codeAny_handlers_test (fF (X:=Xh X (.ref y)) (I5.toH) hg hm ?_ hdb)) (by intro q;cases q)
  obtain ⟨ob,hob,hobc⟩:=fl5.there
  have LT:W.Looks (model X.prog X.w) h5 (typeOf (.ref y)) cls:=hobc▸(W.Looks.ld hob).andThen .now
  refine (W.exm_one (M:=model X.prog X.w) I5.kIn LT em) _ _ _ _ (fun _ _ e=>e) ?_
  refine codeAny_handlers_suite_as ?_
  refine lands_againW fl5 fun h6 fl6 sm6=>?_
  have I6:Inv X pins σ0 H1 {s1 with heap:=h6}:=I0.flown os bare un hok hB fl6.1 ((sm4.trans sm5).trans sm6)
  obtain ⟨_,_,_,oe,vs,T,oT,ts,he,hc,hd,_⟩:=id fl6
  have hyl:y≠X.env.locals:=fun z=>by
   obtain ⟨m,⟨o,es,ep,ho,hod,_⟩,_⟩:=I0.loc
   rw [←z] at ho
   exact hx o ho
  have hyc:∀z c,X.env.cells.lookup z=some c->c≠y:=fun z c e t=>by
   obtain ⟨v,o,ho,_⟩:=I0.cell z c e
   rw [t] at ho
   exact hx o ho
  have I6t:=oa (s1:={s1 with heap:=h6}) I0 I6 hx hx1 he hc.1 hd hyl hyc
  refine gz (X:=Xh X (.ref y)) (v:=V.ref y) (I6t.toH) hN hi (.inl hk) rfl (fun s7 I7=>?_) (.inr hk)
  refine wpAny_mono (hh (.ref y) pins s7 _ _ _ I7 (q y hx1)) (fun f s8 h8=>?_) fun _ _ z=>z.elim
  cases f with
  | next=>obtain ⟨σ8,H8,J,q8⟩:=h8;exact fI (J.ofH I.ok) hN hi hk fun s9 J9=>⟨_,_,J9,q8⟩
  | brk=>obtain ⟨σ8,H8,J,q8⟩:=h8;exact fI (J.ofH I.ok) hN hi hk fun s9 J9=>⟨_,_,J9,q8⟩
  | cont=>obtain ⟨σ8,H8,J,q8⟩:=h8;exact fI (J.ofH I.ok) hN hi hk fun s9 J9=>⟨_,_,J9,q8⟩
  | ret u=>obtain ⟨v,σ8,H8,J,r,q8⟩:=h8;exact fI (J.ofH I.ok) hN hi hk fun s9 J9=>⟨v,_,_,J9,r,q8⟩
noncomputable def mf (sp:Sp)(dvs:List V)(E':XT)(t:TA):TE:=fun σ H Q=>t σ H fun vs H1=>sp (vs++dvs) H1 Q fun cls _ H'=>E' cls σ H'
theorem pI {pins:List (Addr×Obj)}{E':XT}{k:Nat}{f:Addr}{fd:FuncData}{ps:List Str}{sp:Sp}{dvs:List V}{ds:List Value}{x:Str}{p pos:Pos}{e:Expr}{es:List Expr}{t:TA}
  (F:c5 X.prog X.w X.K X.mg X.base (CXf X.prog X.w) k f fd ps sp) (hr:bp k X.A) (hg:Gl X x) (hm:X.mg x=some (.ref f)) (hk:W.keepIn X.K (.ref f)=true) (hb:bF X.K fd ps ds) (hd:aM dvs ds)
  (ha:PA (Xt X pins E') (e::es) t) (hdb:(x == ("__debug__":Str))=false:=by decide) (he:starEach (e::es) X.env=(false,eval e X.env)::starEach es X.env:=by rfl) (hpl:(backTo pos (starEach es X.env)).any (·.1)=false:=by rfl) :
  PE (Xt X pins E') (.Call (.Name x p) (e::es) [] pos) (mf sp dvs E' t):=by
 intro pins' s σ H Q I h
 refine wpAny_Call_Name_kw (fF (X:=Xt X pins E') I hg hm ?_ hdb)
 refine W.callWith_K (h₀:=X.base) I.ok.mod.kin hk (thn (ha pos pins' s σ H _ I h) fun us s1 ⟨vs,H1,I1,r,q⟩=>⟨I1.kIn,?_⟩) he hpl
 have r2:aM (vs++dvs) (us++ds):=r.append hd
 have hl:(us++ds).length=ps.length:=by rw [←r2.length];exact F.len _ _ _ _ q
 refine wpAny_call (codeAny_mono (F.run X.A X.stack s1 H1 ⟨us,[]⟩ (us++ds) (vs++dvs) Q _ hr I1.env0 (hb s1 us I1.kIn hl) r2 q) fun r s' hq=>?_)
 cases r with
 | error e=>exact ⟨σ,H1,s1,I1.ofT,hq⟩
 | ok fl=>
  cases fl with
  | ret u=>exact I1.after hq
  | next=>exact False.elim hq
  | brk=>exact False.elim hq
  | cont=>exact False.elim hq
end
end L2
namespace L2
open PySem PySem.W PySem.Spec PyProof.Rows
structure ExI (K:Frag)(C:Addr):Prop where
 ex:ExC K C
 ca:findIn K (.ref C) "__class__"=some (some (.builtin "object.__class__"))
 mo:mroIn K C (.type "object")=some true
section
variable {prog:Program}{w:World}{A:Around}{E:Value->Shared->Prop}{h:Heap}{g:Array GenState}{d:Drawn}{t:Nat}{os:OsState}{a:Addr}{o:Obj}{vs:Array Value}{K:Frag}{C:Addr}
theorem qY {R:Result->Shared->Prop}{tp:Value}(X:K.In h)(O:ExI K C)(hx:h.get? a=some o)(hc:o.cls=.ref C)(hq:R (.ok (.ret (.ref C))) ⟨h,g,d,t,os⟩) :
  codeAny (model prog w) A (.call (.builtin "getset_descriptor.__get__") ⟨[.builtin "object.__class__",.ref a,tp],[]⟩) R ⟨h,g,d,t,os⟩:=by
 have L0:Looks (model prog w) h (typeOf (.ref a)) (.ref C):=hc▸(Looks.ld hx).andThen .now
 have L1:=looks_mroIn (M:=model prog w) X O.mo
 refine codeAny_call_builtin KF.slot_gs.plain KF.entry_gs (KF.slot_gs.check _ _ _ _ _ _ _ _ KF.type_class (KF.args_gs _ _ _) ?_)
 unfold Builtin.«getset_descriptor.__get__» Builtin.Getset_descriptor.descrGet
 rw [dga_obj]
 refine wpAny_bind (wpAny_pure ?_)
 unfold Builtin.Getset_descriptor.descrGetter Builtin.Getset_descriptor.descrCheckInstance Builtin.Getset_descriptor.descrNameAndClass isInstance
 simp only [KF.owner_class]
 repeat lk
 refine ⟨Code.quiet_builtin _ (by decide +kernel),codeAny_builtin KF.entry_class ?_⟩
 unfold Builtin.«object.__class__» shownTypeOf
 repeat lk
 exact hq
theorem og {tk:Tok}{Q:PySem.Fin->Shared->Prop}(X:K.In h)(O:ExI K C)(hx:h.get? a=some o)(hc:o.cls=.ref C)(hq:Q (.done (.ret (.ref C))) ⟨h,g,d,t,os⟩) :
  wpAny (model prog w) A (Builtin.«object.__getattribute__» ⟨[.ref a,.str "__class__" tk],[]⟩) Q E ⟨h,g,d,t,os⟩:=by
 have L2:=looks_findIn (M:=model prog w) X O.ca
 have f5:=KF.type_class
 have f6:=KF.slot_gs.lookup
 have f7:=PySem.F.slot_gs_set.lookup
 repeat (any_goals (first | assumption | (with_reducible refine wpAny_loadPart_at hx ?_;rw [hc]) | with_reducible refine L2.at ?_ | wp_step))
 refine qY X O hx hc ?_
 repeat (any_goals (first | assumption | wp_step))
theorem pJ {tk:Tok}{R:Result->Shared->Prop}(X:K.In h)(O:ExI K C)(hx:h.get? a=some o)(hc:o.cls=.ref C)(hq:R (.ok (.ret (.ref C))) ⟨h,g,d,t,os⟩) :
  codeAny (model prog w) A (.call (.builtin "BaseException.__getattribute__") ⟨[.ref a,.str "__class__" tk],[]⟩) R ⟨h,g,d,t,os⟩:=by
 obtain ⟨nm,q,N,bs,bm,hdct,sn,sub,ab,col,dd,k0,k1,k2,k3,k5,mN,Oe⟩:=O.ex.ex
 obtain ⟨hC,hN,hmN,T⟩:=Oe h X
 exact codeAny_call_builtin PySem.F.attrBase_ValueError.ga.plain PySem.F.entry_bexc_ga (wpAny_check_ga_own PySem.F.attrBase_ValueError hC T hx hc (og X O hx hc hq))
theorem uv {tk:Tok}{fill expr:Bool}{Q:Value->Shared->Prop}(X:K.In h)(O:ExI K C)(hx:h.get? a=some o)(hc:o.cls=.ref C)(hq:Q (.ref C) ⟨h,g,d,t,os⟩) :
  wpAny (model prog w) A (getAttrBy (.ref a) (.str "__class__" tk) fill expr) Q E ⟨h,g,d,t,os⟩:=by
 obtain ⟨nm,q,N,bs,bm,hdct,sn,sub,ab,col,dd,k0,k1,k2,k3,k5,mN,Oe⟩:=O.ex.ex
 obtain ⟨hC,hN,hmN,T⟩:=Oe h X
 have FB:=PySem.F.attrBase_ValueError
 have f3:=FB.ga.bind (.ref a)
 have hx0:(expr && onTheHeap (Value.builtin "BaseException.__getattribute__"))=false:=by cases expr<;>rfl
 have hx2:(Value.builtin "BaseException.__getattribute__" == Value.builtin "object.__getattribute__")=false:=by decide +kernel
 have hx1:(onTheHeap (Value.ref C) && Value.builtin "BaseException.__getattribute__" == Value.builtin "object.__getattribute__")=false:=by rw [hx2];rfl
 have hm1:("__getattribute__":Str)∈quietNames:=.tail _ (.head _)
 have hm2:("__getattr__":Str)∈quietNames:=.tail _ (.tail _ (.head _))
 repeat (any_goals (first | assumption | (with_reducible refine wpAny_loadPart_at hx ?_;rw [hc]) | with_reducible refine wpAny_typeLookup_tailQ hm1 hC hN hmN T FB.mro FB.ga.lookup ?_ | with_reducible refine wpAny_typeLookup_tailQ hm2 hC hN hmN T FB.mro FB.noGetattr ?_ | wp_step))
 refine pJ X O hx hc ?_
 repeat (any_goals (first | assumption | wp_step))
theorem pK {Q:Option Value->Shared->Prop}(X:K.In h)(O:ExI K C)(hx:h.get? a=some o)(hc:o.cls=.ref C)(hq:Q (some (.ref C)) ⟨h,g,d,t+1,os⟩) :
  wpAny (model prog w) A (getAttr? (.ref a) "__class__") Q E ⟨h,g,d,t,os⟩:=by
 unfold getAttr? getAttrBy?
 repeat (any_goals (first | assumption | with_reducible apply uv X O hx hc | wp_step))
theorem pL (O:ExI K C):KitX K (.ref a) (.ref C) (fun h=>∃o vs,h.get? a=some o/\o.cls=.ref C/\o.data=.fields vs) where
 ty:=fun _ _ _ ⟨o,vs,h1,h2,_⟩=>h2▸(Looks.ld h1).andThen .now
 it:=fun M h X _=>by
  obtain ⟨nm,q,N,bs,bm,hdct,sn,sub,ab,col,dd,k0,k1,k2,k3,k5,mN,Oe⟩:=O.ex.ex
  obtain ⟨hC,_⟩:=Oe h X
  intro A' Q' E' s' k q
  unfold isType loadHead
  exact wpAny_bind (wpAny_loadPart (k _ _ hC) (wpAny_pure q))
 ne:=fun h tp dd its n sl X htp=>by
  obtain ⟨nm,q,N,bs,bm,hdct,sn,sub,ab,col,dd',k0,k1,k2,k3,k5,mN,Oe⟩:=O.ex.ex
  obtain ⟨hC,_⟩:=Oe h X
  refine Bool.eq_false_iff.mpr fun q=>?_
  have e:C=tp:=Value.ref.inj (beq_iff_eq.mp q)
  subst e
  have z:=congrArg Obj.data (Option.some.inj (hC.symm.trans htp))
  exact nomatch z
 ca:=fun {_ _ _ _ _ s} X ⟨o,vs,h1,h2,_⟩ k=>by
  obtain ⟨h,g,d,t,os⟩:=s
  exact pK X O h1 h2 k
end
noncomputable def oh:V->Value
 | .ref a=>.ref a
 | .ty n=>.type n
 | _=>.none
noncomputable def lq (K:Frag):List V->Hp->VK->Prop:=fun xs H Q=>∃y c C b,xs=[.ref y,c]/\oh c≠.none/\H y=some (qX y (.ref C))/\ExI K C/\kitOne K (.ref C) (oh c)=some b/\Q (.bl b) H
theorem dB {X:Cx}:bW X (.builtin "isinstance") (lq X.K):=by
 intro pins s σ H xs us Q I r h
 obtain ⟨y,c,C,b,rfl,hc,hy,O,e,q⟩:=h
 obtain ⟨u,v,rfl,ru,rv⟩:=oZ r
 cases ru
 have hv:v=oh c:=by
  cases c with
  | ref a=>exact rv
  | ty n=>exact rv
  | _=>exact absurd rfl hc
 rw [hv]
 obtain ⟨φ,_,_⟩:=I.hok y _ hy
 exact kia_one (pL O) I.kIn φ e (fun z=>nomatch z) fun tk=>⟨.bl b,H,I.tok tk,rfl,q⟩
end L2
namespace L2
open PySem PySem.Spec PyProof.Rows
theorem i4 {X:Cx}{x:Str}{v:V}{pos:Pos}(hg:Gl X x)(h:∃u,X.mg x=some u/\aY v u)(hd:(x == ("__debug__":Str))=false:=by decide):PE X (.Name x pos) (tC v):=
 let ⟨_,hm,r⟩:=h
 dR hg hm r hd
theorem bH {K:JA}{H:Hp}{Q:VK}{y C:Addr}{c:V}{b:Bool}(hy:H y=some (qX y (.ref C)))(O:ExI K C)(e:W.kitOne K (.ref C) (oh c)=some b)(hc:oh c≠.none)(q:Q (.bl b) H):lq K [.ref y,c] H Q:=
 ⟨y,c,C,b,rfl,hc,hy,O,e,q⟩
theorem aA {a:Addr}:oh (.ref a)≠.none:=by intro h;cases h
noncomputable def eqL:List V->List V->Bool
 | [],[]=>true
 | x::xs,y::ys=>eqV x y && eqL xs ys
 | _,_=>false
theorem kC:∀{xs ys:List V},eqL xs ys=true->xs.length=ys.length
 | [],[],_=>rfl
 | _::_,_::_,h=>by
  unfold eqL at h
  rw [Bool.and_eq_true] at h
  simp [kC h.2]
 | [],_::_,h=>by cases h
 | _::_,[],h=>by cases h
noncomputable def uw (K:JA):R2:=fun x y H Q=>∃a b xs ys,x=.ref a/\y=.ref b/\SqL K H a xs/\SqL K H b ys/\xs.all aQ=true/\ys.all aQ=true/\Q (.bl (eqL xs ys)) H
theorem kD:∀{xs ys:List V},xs.length=ys.length->(List.range xs.length).all (fun j=>eqV (xs.getD j .non) (ys.getD j .non))=eqL xs ys
 | [],[],_=>rfl
 | x::xs,y::ys,h=>by
  have ih:=kD (xs:=xs) (ys:=ys) (by simpa using h)
  rw [List.length_cons,List.range_succ_eq_map,List.all_cons,List.all_map]
  show (eqV x y && (List.range xs.length).all (fun j=>eqV (xs.getD j .non) (ys.getD j .non)))=(eqV x y && eqL xs ys)
  rw [ih]
 | [],_::_,h=>by simp at h
 | _::_,[],h=>by simp at h
theorem ux {X:Cx}(hu:X.A.units < cLine):OpR X (compareOp .Eq) (uw X.K):=by
 intro pins s σ H x y u v Q I rx ry h
 obtain ⟨a,b,xs,ys,rfl,rfl,ha,hb,fa,fb,q⟩:=h
 cases rx;cases ry
 obtain ⟨ia,ra,pa,za⟩:=I.list ha
 obtain ⟨ib,rb,pb,zb⟩:=I.list hb
 have la:=ra.length
 have lb:=rb.length
 by_cases hl:xs.length=ys.length
 ·refine PySem.SeqAt.eq_listAt (e:=fun j=>eqV (xs.getD j .non) (ys.getD j .non)) pa.isList pb.isList (by simp only [List.size_toArray];omega) hu (fun j h1 h2=>?_) ?_
  ·simp only [List.size_toArray] at h1 h2
   have hx:xs[j]?=some (xs.getD j .non):=by
    rw [List.getD_eq_getElem?_getD,List.getElem?_eq_getElem (by omega)];rfl
   have hy:ys[j]?=some (ys.getD j .non):=by
    rw [List.getD_eq_getElem?_getD,List.getElem?_eq_getElem (by omega)];rfl
   obtain ⟨u,eu,ru⟩:=ra.get hx
   obtain ⟨v,ev,rv⟩:=rb.get hy
   have e1:ia.toArray[j]=u:=by
    have:=List.getElem?_eq_some_iff.mp eu
    simpa using this.2
   have e2:ib.toArray[j]=v:=by
    have:=List.getElem?_eq_some_iff.mp ev
    simpa using this.2
   rw [e1,e2]
   exact g9 ru rv (List.all_eq_true.mp fa _ (List.mem_of_getElem? hx)) (List.all_eq_true.mp fb _ (List.mem_of_getElem? hy))
  ·have e:(List.range ia.toArray.size).all (fun j=>eqV (xs.getD j .non) (ys.getD j .non))=eqL xs ys:=by
    rw [List.size_toArray,←la]
    exact kD hl
   rw [e]
   exact ⟨.bl (eqL xs ys),H,I,rfl,q⟩
 ·refine PySem.SeqAt.eq_list_lengthsAt pa.isList pb.isList (by simp only [List.size_toArray,bne_iff_ne,ne_eq];omega) hu ?_
  have e:eqL xs ys=false:=by
   cases z:eqL xs ys with
   | false=>rfl
   | true=>exact absurd (kC z) hl
  rw [e] at q
  exact ⟨.bl false,H,I,rfl,q⟩
end L2
namespace L2
end L2
namespace L2
end L2
namespace L2
open PySem PySem.W PySem.Spec PyProof.Rows
noncomputable def i5:V->Option String
 | .non=>some "NoneType"
 | .bl _=>some "bool"
 | .int _=>some "int"
 | .str _=>some "str"
 | _=>none
def TyX (K:Frag)(H:Hp)(x:V)(T:String):Prop:=i5 x=some T\/(∃a xs,x=.ref a/\SqL K H a xs/\T="list")\/∃a xs,x=.ref a/\SqT K H a xs/\T="tuple"
noncomputable def df:List String:=["NoneType","bool","int","str","list","tuple"]
noncomputable def lr (T n:String):Bool:=T == n || (T == "bool" && n == "int")
theorem m9 {K:Frag}{T n:String}(hT:T∈df)(hn:n∈df):kitOne K (.type T) (.type n)=some (lr T n):=by
 simp only [df,List.mem_cons,List.not_mem_nil,or_false] at hT hn
 rcases hT with rfl | rfl | rfl | rfl | rfl | rfl<;>rcases hn with rfl | rfl | rfl | rfl | rfl | rfl<;>with_unfolding_all rfl
theorem ng {K:Frag}{T:String}(hT:T∈df):∀{ns:List String},(∀n∈ns,n∈df)->kitAny K (.type T) (ns.map Value.type)=some (ns.any (lr T))
 | [],_=>rfl
 | n::r,h=>by
  have ih:=ng (K:=K) hT (ns:=r) fun m hm=>h m (List.mem_cons_of_mem _ hm)
  rw [List.map_cons,List.any_cons]
  unfold kitAny
  rw [m9 hT (h n List.mem_cons_self)]
  cases e:lr T n with
  | true=>rfl
  | false=>rw [Bool.false_or];exact ih
section
variable {X:Cx}{pins:List (Addr×Obj)}{σ:St}{H:Hp}{s:Shared}
theorem j0 {K:Frag}{x:V}{T:String}(h:TyX K H x T):T∈df:=by
 rcases h with h | ⟨_,_,_,_,rfl⟩ | ⟨_,_,_,_,rfl⟩
 ·cases x<;>simp only [i5,Option.some.injEq,reduceCtorEq] at h<;>subst h<;>decide
 ·decide
 ·decide
theorem lu (I:Inv X pins σ H s){x:V}{u:Value}{T:String}(rx:aY x u)(ty:TyX X.K H x T):∃φ:Heap->Prop,KitX X.K u (.type T) φ/\φ s.heap/\u≠.builtin "__main__.__loader__#opaque":=by
 rcases ty with h | ⟨a,xs,rfl,h,rfl⟩ | ⟨a,xs,rfl,h,rfl⟩
 ·cases x with
  | non=>cases rx;cases h;exact ⟨_,kitx_none,trivial,fun z=>nomatch z⟩
  | bl b=>cases rx;cases h;exact ⟨_,kitx_bool,trivial,fun z=>nomatch z⟩
  | int i=>obtain ⟨t,rfl⟩:=rx;cases h;exact ⟨_,kitx_int,trivial,fun z=>nomatch z⟩
  | str i=>obtain ⟨t,rfl⟩:=rx;cases h;exact ⟨_,kitx_str,trivial,fun z=>nomatch z⟩
  | _=>cases h
 ·cases rx
  obtain ⟨its,r,pl,hz⟩:=I.list h
  obtain ⟨o,ho,hc,_⟩:=pl.isList
  exact ⟨_,kitx_list,⟨o,ho,hc⟩,fun z=>nomatch z⟩
 ·cases rx
  obtain ⟨its,r,⟨o,ho,hc,_⟩,hz⟩:=I.tuple h
  exact ⟨_,kitx_tuple,⟨o,ho,hc⟩,fun z=>nomatch z⟩
noncomputable def vw (K:Frag):List V->Hp->VK->Prop:=fun xs H Q=>∃x n T,xs=[x,.ty n]/\TyX K H x T/\n∈df/\Q (.bl (lr T n)) H
theorem cL:bW X (.builtin "isinstance") (vw X.K):=by
 intro pins s σ H xs us Q I r h
 obtain ⟨x,n,T,rfl,ty,hn,q⟩:=h
 obtain ⟨u,v,rfl,ru,rv⟩:=oZ r
 cases rv
 obtain ⟨φ,Z,p,ne⟩:=lu I ru ty
 exact kia_one Z I.kIn p (m9 (j0 ty) hn) ne fun tk=>⟨.bl _,H,I.tok tk,rfl,q⟩
noncomputable def vx (K:Frag):List V->Hp->VK->Prop:=fun xs H Q=>∃(x:V) (tp:Addr) (ns:List String) (T:String),xs=[x,.ref tp]/\SqT K H tp (ns.map V.ty)/\TyX K H x T/\(∀n∈ns,n∈df)/\Q (.bl (ns.any (lr T))) H
theorem ni:∀{ns:List String} {its:List Value},aM (ns.map V.ty) its->its=ns.map Value.type
 | [],_,h=>by cases h;rfl
 | n::r,_,h=>by
  cases h with
  | cons a b=>rw [ni b];cases a;rfl
theorem hJ:bW X (.builtin "isinstance") (vx X.K):=by
 intro pins s σ H xs us Q I r h
 obtain ⟨x,tp,ns,T,rfl,ht,ty,hn,q⟩:=h
 obtain ⟨u,v,rfl,ru,rv⟩:=oZ r
 cases rv
 obtain ⟨φ,Z,p,ne⟩:=lu I ru ty
 obtain ⟨its,rt,⟨o,ho,hc,n,hd⟩,hz⟩:=I.tuple ht
 obtain rfl:=ni rt
 obtain ⟨c,d,dt,sl⟩:=o
 dsimp only at hc hd
 subst hc hd
 exact kia_tup Z I.kIn p ho (ng (j0 ty) hn) ne fun tk=>⟨.bl _,H,I.tok tk,rfl,q⟩
end
inductive Dt where
 | flat (v:V)
 | lst (ds:List Dt)
 | tup (ds:List Dt)
inductive Rep (K:Frag)(H:Hp):Nat->V->Dt->Prop
 | flat {n:Nat} {v:V} (h:aQ v=true):Rep K H n v (.flat v)
 | lst {n:Nat} {a:Addr} {xs:List V} {ds:List Dt} (hs:SqL K H a xs) (hb:xs.length<=100000) (hl:xs.length=ds.length) (hr:∀(i:Nat) x d,xs[i]?=some x->ds[i]?=some d->Rep K H n x d):Rep K H (n+1) (.ref a) (.lst ds)
 | tup {n:Nat} {a:Addr} {xs:List V} {ds:List Dt} (hs:SqT K H a xs) (hb:xs.length<=100000) (hl:xs.length=ds.length) (hr:∀(i:Nat) x d,xs[i]?=some x->ds[i]?=some d->Rep K H n x d):Rep K H (n+1) (.ref a) (.tup ds)
theorem au.tup {K:Frag}{H H':Hp}{a:Addr}{xs:List V}(e:au H H')(h:SqT K H a xs):SqT K H' a xs:=by
 rcases h with (h | ⟨o,h⟩) | h
 ·exact .inl (.inl (e _ _ h))
 ·exact .inl (.inr ⟨o,e _ _ h⟩)
 ·exact .inr h
theorem Rep.same {K:Frag}{H H':Hp}(s:au H H'){n:Nat}{x:V}{d:Dt}(h:Rep K H n x d):Rep K H' n x d:=by
 induction h with
 | flat h=>exact .flat h
 | lst hs hb hl _ ih=>exact .lst (s.seq hs) hb hl ih
 | tup hs hb hl _ ih=>exact .tup (s.tup hs) hb hl ih
theorem pM {P:Program}{w:World}{K:Frag}{mg:Str->Option Value}{base:Heap}{CX:CXT}{k:Nat}{f:Addr}{fd:FuncData}{ps:List Str}:c5 P w K mg base CX k f fd ps (fun _ _ _ _=>False):=
 ⟨fun _ _ _ _ h=>h.elim,fun _ _ _ _ _ _ _ _ _ _ _ _ _ h=>h.elim⟩
theorem ay {α:Type}{xs:List α}{k:Nat}{v:α}(h:xs[k]?=some v):atI xs (k:Int)=some v:=mU h
end L2
namespace L2
open PySem PySem.Spec PyProof.Rows
noncomputable abbrev Ld:=Str×Int×Int
theorem uy {α:Type}(as:List α)(f:α->V)(k:Nat)(h:k<=as.length):k8 (as.map f) (some (k:Int)) none=(as.drop k).map f:=by
 unfold k8
 rw [HT.pf,HT.qO,JB,show min k as.length=k by omega,←List.map_drop,List.take_of_length_le (by rw [JB,List.length_drop];omega)]
theorem SqT.rew {K:JA}{H:Hp}{a l:Addr}{xs ys:List V}{o:HO}(h:SqT K H a xs)(hl:H l=some (.lst ys)):SqT K (upd H l o) a xs:=by
 rcases h with (h | ⟨o',h⟩) | h
 ·refine .inl (.inl ?_)
  rw [aj (fun e=>by rw [e,hl] at h;cases h)];exact h
 ·refine .inl (.inr ⟨o',?_⟩)
  rw [aj (fun e=>by rw [e,hl] at h;cases h)];exact h
 ·exact .inr h
theorem kE {J:It}{g:TG}{tc:TT}{te:TE}{cm:List (Option Nat)}{σ:St}{Q:VK}{H:Hp}(n:Nat)(Pv:Nat->List V->Hp->Prop)(h0:Pv 0 [] H)
  (hgo:∀i acc H,i < n->Pv i acc H->J.go i H) (hst:∀acc H,Pv n acc H->J.stop n H)
  (hs:∀i acc H,i < n->Pv i acc H->acc.length < sizeLine/\∀x H',J.yld i H x H'->∀M:List V->Hp->Prop,(∀acc' H',Pv (i+1) acc' H'->M acc' H')->g x (bf cm σ) H' fun σ2 H2=>Wk (bf cm σ) σ2/\tc σ2 H2 fun b H3=>if b=true then te σ2 H3 fun v H4=>M (acc++[v]) H4 else M acc H3)
  (hd:∀acc H,Pv n acc H->∀p,H p=none->Q (.ref p) (upd H p (.lst acc))):iZ J g tc te cm σ Q H:=by
 refine ⟨fun i m acc H=>m=n - i/\i<=n/\Pv i acc H,⟨n,by simp,Nat.zero_le _,h0⟩,?_⟩
 rintro i m acc H ⟨rfl,hi,p⟩
 by_cases hlt:i < n
 ·obtain ⟨hz,q⟩:=hs i acc H hlt p
  refine .inr ⟨hgo i acc H hlt p,hz,fun x H' y=>q x H' y (fun acc' H4=>∃m',m' < n - i/\m'=n - (i+1)/\i+1<=n/\Pv (i+1) acc' H4) fun acc' H4 q=>⟨n - (i+1),by omega,rfl,hlt,q⟩⟩
 ·have e:i=n:=by omega
  subst e
  exact .inl ⟨hst acc H p,hd acc H p⟩
theorem mh {σ:St}{j:Nat}{x:V}(hj:σ[j]?=some none):Wk σ (σ.set j (some x)):=by
 refine ⟨by simp,fun k v e=>?_⟩
 by_cases hk:j=k
 ·subst hk;rw [hj] at e;cases e
 ·rw [List.getElem?_set_ne hk];exact e
theorem j1 {K:JA}{H:Hp}{a:Addr}{xs:List V}{n:Nat}(h:SqT K H a xs)(hb:xs.length<=100000)(hf:∀x∈xs,aQ x=true):Rep K H (n+1) (.ref a) (.tup (xs.map Dt.flat)):=by
 refine .tup h hb (by rw [JB]) fun i y d e1 e2=>?_
 rw [List.getElem?_map,e1] at e2
 cases e2
 exact .flat (hf y (List.mem_of_getElem? e1))
section
variable {X:Cx}
theorem Inv.turnedL {pins:List (Addr×Obj)}{σ:St}{H:Hp}{s:Shared}{h':Heap}{t':Nat}{fp:List Addr}(I:Inv X pins σ H s)(k:∀b o,b∉fp->s.heap.get? b=some o->h'.get? b=some o)(hf:∀b∈fp,g7 X pins H b) :
  Inv X pins σ H {s with heap:=h',toks:=t'}:=by
 have nit:∀b u,H b=some u->b∉fp:=fun b u e z=>by rw [(hf b z).1] at e;cases e
 refine I.step (g':=s.gens) (d':=s.drawn) (ch:=fp) (fun b hb=>⟨(hf b hb).2.2.2.1,(hf b hb).2.1,(hf b hb).2.2.2.2.1,(hf b hb).2.2.2.2.2⟩) (fun b o _ _ hc e _=>k b o hc e) (fun b o _ _ hc e _=>⟨o.slots,k b o hc e⟩) (fun _ _ _ _ n=>n)
  (fun b o hc e=>⟨o,k b o hc e⟩) (fun _ _ e=>e) (fun _ _ _ e=>e) (fun b ps e=>⟨#[],by rw [e];simp⟩) (fun m hm=>?_) (fun b u e=>?_) I.bare
 ·obtain ⟨o,es,ep,ho,r⟩:=hm
  exact ⟨o,es,ep,k _ o (fun z=>(hf _ z).2.1 rfl) ho,r⟩
 ·refine (I.hok b u e).stay (fun c v hc q=>k c v ?_ q) (fun _ q=>q) fun _ _ q=>q
  rcases hc with z | z
  ·exact z▸nit b u e
  ·exact nit c _ z
theorem Inv.handed {pins:List (Addr×Obj)}{σ:St}{H:Hp}{s:Shared}{h':Heap}{t':Nat}{fp:List Addr}{xs:List V}{us:List Value}{T:Addr}{n:Nat}(I:Inv X pins σ H s)(k:∀b o,b∉fp->s.heap.get? b=some o->h'.get? b=some o)(hf:∀b∈fp,g7 X pins H b)
  (hT:s.heap.objs.size<=T) (hz:xs.length<=sizeLine) (r:aM xs us) (e:h'.get? T=some {cls:=.type "tuple",data:=.seq us.toArray n}):Inv X pins σ (upd H T (.tup xs)) {s with heap:=h',toks:=t'}:=by
 have I1:Inv X pins σ H {s with heap:=h',toks:=t'}:=I.turnedL k hf
 have hn:H T=none:=I.hok.fresh hT
 obtain ⟨f0,f1,f2,f3,f4,f5⟩:=I.fpOk hT hn
 have h0:X.s₀.heap.objs.size<=T:=Nat.le_trans I.sz hT
 exact I1.track hn h0 f1 f4 f5 ⟨hz,us,r,⟨_,e,⟨rfl,_,rfl⟩,rfl⟩⟩
noncomputable def Ite (K:JA)(a:Addr):It:=
 ⟨fun i H=>∃xs x,SqL K H a xs/\xs[i]?=some x,fun i H y H'=>∃t x,y=.ref t/\H t=none/\H'=upd H t (.tup [.int (i:Nat),x])/\∀xs,SqL K H a xs->xs[i]?=some x,fun i H=>∃xs,SqL K H a xs/\xs.length<=i⟩
theorem oi {P:Program}{w:World}{K:JA}{elts:List Expr}{x1:Nat}{tpos:Pos}(a e it:Addr)(hne:e≠it):oV P w K (.Tuple elts x1 tpos) (Ite K a) [e,it] e (fun i h=>(∃old,IsEnum h e it (i:Nat) old)/\h.IsListIter it a i) where
 mem:=by simp
 obj:=fun i h st b hb=>by
  obtain ⟨⟨old,h1⟩,o,h2,_,h3⟩:=st
  rcases List.mem_cons.mp hb with rfl | hb
  ·exact ⟨_,h1,fun v z=>by
    have z':Data.fields _=Data.cell v:=z
    cases z'⟩
  ·rw [List.mem_singleton] at hb
   subst hb
   exact ⟨o,h2,fun v z=>by rw [h3] at z;cases z⟩
 keep:=fun i h h' st k=>by
  obtain ⟨⟨old,h1⟩,h2⟩:=st
  exact ⟨⟨old,k e (by simp) _ h1⟩,h2.at fun o q=>k it (by simp) o q⟩
 item:=by
  intro X hP hw hK hc i pins s σ H E I hf st hg
  subst hP hw hK
  obtain ⟨xs,x,hq,hx⟩:=hg
  obtain ⟨its,rv,p,hz⟩:=I.list hq
  obtain ⟨u,hu,ru⟩:=rv.get hx
  obtain ⟨⟨old,h1⟩,h2⟩:=st
  have hel:e < s.heap.objs.size:=Heap.lt_size h1
  have hil:it < s.heap.objs.size:=by
   obtain ⟨o,q,_⟩:=h2
   exact Heap.lt_size q
  refine wpAny_pyNext_enum_item h1 h2 p.isList (x:=u) (by simpa using hu) hne fun h' g1 g2 g3 g4 g5=>?_
  have kf:∀b o,b∉[e,it]->s.heap.get? b=some o->h'.get? b=some o:=fun b o hb q=>g5 b o (fun z=>hb (by simp [z])) (fun z=>hb (by simp [z])) q
  have I1:Inv X pins σ (upd H s.heap.objs.size (.tup [.int (i:Nat),x])) {s with heap:=h',toks:=s.toks+1}:=I.handed (us:=[Value.int (i:Nat) s.toks,u]) kf hf (Nat.le_refl _) (by show 2<=sizeLine;decide) (.cons ⟨_,rfl⟩ (.cons ru .nil)) g3
  have hn:H s.heap.objs.size=none:=I.hok.fresh (Nat.le_refl _)
  have hf1:∀b∈[e,it],upd H s.heap.objs.size (.tup [.int (i:Nat),x]) b=none:=fun b hb=>by
   have hlt:b < s.heap.objs.size:=by
    rcases List.mem_cons.mp hb with rfl | hb
    ·exact hel
    ·rw [List.mem_singleton] at hb
     subst hb
     exact hil
   rw [aj (Nat.ne_of_lt hlt)]
   exact (hf b hb).1
  refine ⟨_,rfl,wpAny_letOwnedTupleGo_enum (s:={s with heap:=h',toks:=s.toks+1}) g1 fun h2' q1 q2=>?_⟩
  have I2:Inv X pins σ (upd H s.heap.objs.size (.tup [.int (i:Nat),x])) {s with heap:=h2',toks:=s.toks+1}:=I1.turnedL (s:={s with heap:=h',toks:=s.toks+1}) (t':=s.toks+1) (fp:=[e,it]) (fun b o hb q=>(q2.2 b (fun z=>hb (by simp [z]))).trans q) fun b hb=>⟨hf1 b hb,(hf b hb).2⟩
  refine ⟨.ref s.heap.objs.size,_,I2,rfl,⟨_,x,rfl,hn,rfl,fun ys hy=>by rw [I.list_inj hy hq];exact hx⟩,⟨⟨u,?_⟩,?_⟩,hf1⟩
  ·have:((i+1:Nat):Int)=(i:Int)+1:=by omega
   rw [this]
   exact q1
  ·exact g2.at fun o q=>(q2.2 it (Ne.symm hne)).trans q
 done:=by
  intro X hP hw hK hc i pins s σ H E I hf st hg
  subst hP hw hK
  obtain ⟨xs,hq,hx⟩:=hg
  obtain ⟨its,rv,p,hz⟩:=I.list hq
  have hl:=rv.length
  obtain ⟨⟨old,h1⟩,h2⟩:=st
  exact wpAny_pyNext_enum_end (I.ok.hd hc) h1 h2 p.isList (by simp;omega) fun h' eb=>⟨rfl,I.turnedL (t':=s.toks) (fun b o hb q=>eb b o (fun z=>hb (by simp [z])) q) hf⟩
 self:=fun _ _ _ _ _ st h=>by
  obtain ⟨⟨old,h1⟩,h2⟩:=st
  exact wpAny_pyIter_enum h1 h
noncomputable def tu (K:JA)(te:TE):TI:=fun σ H R=>te σ H fun x H1=>∃a,x=.ref a/\(∃xs,SqL K H1 a xs)/\R (Ite K a) H1
theorem qZ {a:Expr}{te:TE}{p pos tpos:Pos}{elts:List Expr}{x1:Nat}(hg:Gl X "enumerate")(hm:X.mg "enumerate"=none)(hb:bootBuiltins "enumerate"=some (.type "enumerate"))(he:PE X a te)(hs:starEach [a] X.env=[(false,eval a X.env)]:=by rfl) :
  PI X (.Tuple elts x1 tpos) (.Call (.Name "enumerate" p) [a] [] pos) (tu X.K te):=by
 intro pins s σ H R I h
 refine Call_ (g6 I hg hm hb (PyProof.Rows.callWith_type1 ?_ hs rfl))
 rw [hs]
 refine Calls.spliced_cons (thn (he pins s σ H _ I h) fun u s1 ⟨x,H1,I1,r1,l,ex,⟨xs,hq⟩,q⟩=>?_)
 subst ex
 cases r1
 refine Calls.spliced_nil ?_
 obtain ⟨its,rv,pl,hz⟩:=I1.list hq
 refine call_enumerate_list pl.isList fun h' h1 h2 h3 h4=>?_
 refine wpAny_pyIter_enum h1 ?_
 have hne:s1.heap.objs.size+1≠s1.heap.objs.size:=Nat.ne_of_gt (Nat.lt_succ_self _)
 refine ⟨s1.heap.objs.size+1,[s1.heap.objs.size+1,s1.heap.objs.size],_,_,H1,rfl,I1.kept (t':=s1.toks) h4,oi l _ _ hne,⟨⟨_,h1⟩,h2⟩,fun b hb=>?_,q⟩
 rcases List.mem_cons.mp hb with rfl | hb
 ·exact I1.fpOk (Nat.le_succ _) (I1.hok.fresh (Nat.le_succ _))
 ·rw [List.mem_singleton] at hb
  subst hb
  exact I1.fpOk (Nat.le_refl _) (I1.hok.fresh (Nat.le_refl _))
end
section
variable {X:Cx}
noncomputable def uz (K:JA):V->List V->Hp->VK->Prop:=fun x vs H Q=>∃(l:Addr) (ns:List Int) (k:Int),x=.ref l/\vs=[.int k]/\SqL K H l (ns.map V.int)/\k∈ns/\Q (.int (ns.idxOf k:Nat)) H
end
def aD (p:Addr)(H H':Hp):Prop:=∀b o,b≠p->H b=some o->H' b=some o
theorem aD.of {p:Addr}{H H':Hp}(s:au H H'):aD p H H':=fun b o _ e=>s b o e
theorem aD.trans {p:Addr}{H H1 H2:Hp}(a:aD p H H1)(b:aD p H1 H2):aD p H H2:=fun c o n e=>b c o n (a c o n e)
theorem aD.put {p:Addr}{H H':Hp}{o:HO}(s:aD p H H'):aD p H (upd H' p o):=fun b u n e=>by rw [aj n];exact s b u n e
theorem Rd.keep {p a:Addr}{H H':Hp}{u:HO}(s:aD p H H')(n:a≠p)(h:Rd H a u):Rd H' a u:=by
 rcases h with h | ⟨o,h⟩
 ·exact .inl (s _ _ n h)
 ·exact .inr ⟨o,s _ _ n h⟩
theorem SqT.keep {K:JA}{p a:Addr}{H H':Hp}{xs ys:List V}(s:aD p H H')(hp:H p=some (.lst ys))(h:SqT K H a xs):SqT K H' a xs:=by
 rcases h with h | h
 ·refine .inl (h.keep s fun z=>?_)
  subst z
  rcases h with h | ⟨o,h⟩
  ·rw [hp] at h;cases h
  ·rw [hp] at h;cases h
 ·exact .inr h
theorem Rd.keepI {p a C dx:Addr}{H H':Hp}{fs:List (Str×V)}{u:HO}(s:aD p H H')(hp:H p=some (.ins C dx fs))(hu:∀C dx fs,u≠.ins C dx fs)(h:Rd H a u):Rd H' a u:=by
 refine h.keep s fun z=>?_
 subst z
 rcases h with h | ⟨o,h⟩
 ·rw [hp] at h;cases h;exact hu _ _ _ rfl
 ·rw [hp] at h;cases h
theorem SqL.keepI {K:JA}{p a C dx:Addr}{H H':Hp}{xs:List V}{fs:List (Str×V)}(s:aD p H H')(hp:H p=some (.ins C dx fs))(h:SqL K H a xs):SqL K H' a xs:=by
 rcases h with h | h
 ·exact .inl (h.keepI s hp fun _ _ _ z=>HO.noConfusion z)
 ·exact .inr h
theorem SqT.keepI {K:JA}{p a C dx:Addr}{H H':Hp}{xs:List V}{fs:List (Str×V)}(s:aD p H H')(hp:H p=some (.ins C dx fs))(h:SqT K H a xs):SqT K H' a xs:=by
 rcases h with h | h
 ·exact .inl (h.keepI s hp fun _ _ _ z=>HO.noConfusion z)
 ·exact .inr h
structure uA (C:Addr)(H:Hp)(y kn wh:Addr)(ks:List Str)(ws:List Int)(m:Int):Prop where
 ob:∃dx,H y=some (.ins C dx [("kinds",.ref kn),("where",.ref wh),("many",.int m)])
 okn:H kn=some (.lst (ks.map V.str))
 owh:H wh=some (.lst (ws.map V.int))
theorem pN {n:Nat}{i:Int}(h0:0<=i)(h1:i < n):ixN n i=some i.toNat:=by
 unfold ixN
 rw [if_pos h0,if_pos h1]
section
variable {X:Cx}
theorem mi {tg iter elt:Expr}{ifs:List Expr}{scope:Scope}{pos spos py:Pos}{Nc:List Str}{cm:List (Option Nat)}{wi:TI}{g:TG}{tc:TT}{te:TE}{iy:Nat}{y:Str}(hN:X.N.Nodup)(hiy:X.N[iy]?=some y)(hly:X.env.scope.names.lookup y=some .local)
  (hsw:swapsWith (.ListComp elt [⟨tg,iter,ifs,0⟩] scope pos) (some (.Name y py)) spos.line X.env=pure true)
  (hc:X.calm=true) (hi:PI X tg iter wi) (hkind:scope.kind=.function) (hcell:∀y∈scope.names,y.2≠.cell) (hnames:∀y∈scope.names,y.2=.local->scope.names.lookup y.1=some .local)
  (hfree:∀y∈scope.names,y.2=.free->X.env.kindOf y.1=some .cell\/X.env.kindOf y.1=some .free) (hlen:cm.length=Nc.length)
  (hcm:∀(j:Nat) (x:Str) (i:Nat),Nc[j]?=some x->cm[j]?=some (some i)->X.N[i]?=some x/\scope.names.lookup x=some .free/\(X.env.kindOf x=some .cell\/X.env.kindOf x=some .free))
  (hg:∀C s₀ H₀ ex,PG (blk X Nc scope C s₀ H₀ ex) tg g) (ht:∀C s₀ H₀ ex,PIf (blk X Nc scope C s₀ H₀ ex) ifs tc) (he:∀C s₀ H₀ ex,PE (blk X Nc scope C s₀ H₀ ex) elt te)
  (hs:∀x,foldedSetIterable iter X.env x=pure x:=by intro _;rfl):PS X (.Assign [.Name y py] (.ListComp elt [⟨tg,iter,ifs,0⟩] scope pos) spos) (oS (lj wi g tc te cm) (dz iy)):=by
 intro pins s σ H D0 I h
 rw [exec_Assign_Name_used _ _ _ _ hsw]
 refine wpAny_bind (wpAny_standAt (wpAny_bind ?_))
 show wpAny _ X.A (do let _ ←comprehension (.ListComp elt [⟨tg,iter,ifs,0⟩] scope pos) scope X.env _ (newList []) false (eval iter X.env) (some (assign (.Name y py) X.env))) _ _ s
 refine wpAny_bind (wpAny_mono (Q:=fun _ s'=>SP X pins D0 .next s') ?_ (fun _ s' hq=>wpAny_pure (wpAny_pure hq)) fun _ _ e=>e)
 have hfr:∀y∈scope.names,y.2=.free->∃c,X.env.cells.lookup y.1=some c:=fun y hy e=>I.ok.has y.1 (hfree y hy e)
 refine wpAny_comprehension_free (use:=some (assign (.Name y py) X.env)) (Q:=fun _ s'=>SP X pins D0 .next s') rfl hs (eU hfr) hkind hnames (thn (hi pins s σ H _ I h) fun v s1 h1=>thn h1 fun itv s2 h2=>?_)
 obtain ⟨it,fp,tn,J,H2,e,I2,T,st2,f2,W,⟨m0,w0⟩,turn⟩:=h2
 subst e
 refine wpAny_newObj_type (wpAny_newFunctionEnv hcell (by intro y hy;simp at hy) (fun h₁ hns₁ hsb₁=>?_) hkind)
 dsimp only at hns₁ hsb₁ ⊢
 have keepA:∀b u,(s2.heap.push {cls:=.type "list",dict:=none,data:=.seq ([]:List Value).toArray}).get? b=some u->h₁.get? b=some u:=fun b u q=>(hsb₁.2 b (Nat.ne_of_lt (Heap.lt_size q))).trans (Heap.get?_push_of_some _ q)
 refine jZ (yo:=none) (QV:=fun x H1=>dz iy x σ H1 D0.nx) hc hkind (fun z hz e=>absurd e (hcell z hz)) (fun _ e=>by cases e) hfr hlen hcm hg ht he I2 T st2 f2 w0 turn hns₁ keepA (fun _ e=>by cases e) (fun s6 H5 acc m hm fc J qn _=>?_)
 obtain ⟨fc0,fc1,fc2,fc3,fc4,fc5⟩:=fc
 refine wpAny_assign_Name (jS (s:=s6) (v:=.ref s2.heap.objs.size) (J s6.heap ⟨rfl,fun _ _=>rfl⟩) hN hiy (.inl hly) rfl (fun s7 J9 hsa=>?_) (.inr hly))
 obtain ⟨aa,hsa,hwh⟩:=hsa
 exact ⟨m,hm.sameBut hsa (by rcases hwh with z | z;rw [z];exact fc1;exact (fc4 _ _ z).symm),fun h7 hs7=>⟨_,_,J9.turned (it:=(s2.heap.push {cls:=.type "list",dict:=none,data:=.seq ([]:List Value).toArray}).objs.size) (t':=s7.toks) (fun b o hb hu=>(hs7.2 b hb).trans hu) fc0 fc1 fc3 fc4 fc5,qn⟩⟩
end
theorem j3 {X:Cx}{tg iter elt:Expr}{ifs:List Expr}{scope:Scope}{pos spos py:Pos}(Nc:List Str)(cm:List (Option Nat)){wi:TI}{g:TG}{tc:TT}{te:TE}{iy:Nat}{y:Str}(hN:X.N.Nodup)(hiy:X.N[iy]?=some y)(hly:X.env.scope.names.lookup y=some .local)
  (hi:PI X tg iter wi) (hg:∀C s₀ H₀ ex,PG (blk X Nc scope C s₀ H₀ ex) tg g) (ht:∀C s₀ H₀ ex,PIf (blk X Nc scope C s₀ H₀ ex) ifs tc) (he:∀C s₀ H₀ ex,PE (blk X Nc scope C s₀ H₀ ex) elt te)
  (hsw:swapsWith (.ListComp elt [⟨tg,iter,ifs,0⟩] scope pos) (some (.Name y py)) spos.line X.env=pure true:=by rfl)
  (hc:X.calm=true:=by rfl) (hkind:scope.kind=.function:=by rfl) (hcell:∀y∈scope.names,y.2≠.cell:=by decide +kernel) (hnames:∀y∈scope.names,y.2=.local->scope.names.lookup y.1=some .local:=by decide +kernel)
  (hfree:pD X scope=true:=by rfl) (hlen:cm.length=Nc.length:=by rfl) (hcm:vt X scope Nc cm=true:=by rfl)
  (hs:∀x,foldedSetIterable iter X.env x=pure x:=by intro _;rfl):PS X (.Assign [.Name y py] (.ListComp elt [⟨tg,iter,ifs,0⟩] scope pos) spos) (oS (lj wi g tc te cm) (dz iy)):=by
 refine mi hN hiy hly hsw hc hi hkind hcell hnames (fun y hy e=>?_) hlen (fun j x i e1 e2=>?_) hg ht he hs
 ·have h:=List.all_eq_true.mp hfree y hy
  rw [e] at h
  simpa using h
 ·have hj:(Nc.zip cm)[j]?=some (x,some i):=by
   rw [List.getElem?_zip_eq_some];exact ⟨e1,e2⟩
  have h:=List.all_eq_true.mp hcm _ (List.mem_of_getElem? hj)
  simpa using h
def aK {α:Type}(f:α->List V)(K:JA)(H:Hp)(as:List Addr)(ls:List α):Prop:=as.length=ls.length/\∀(i:Nat) a x,as[i]?=some a->ls[i]?=some x->SqT K H a (f x)
def pO {α:Type}(f:α->List V)(K:JA)(H:Hp)(l:Addr)(ls:List α):Prop:=∃as:List Addr,SqL K H l (as.map V.ref)/\aK f K H as ls
section
variable {α:Type}{f:α->List V}{K:JA}{H H':Hp}{as bs:List Addr}{ls ks:List α}{l p:Addr}
theorem aK.same (s:au H H')(h:aK f K H as ls):aK f K H' as ls:=⟨h.1,fun i a x e1 e2=>s.tup (h.2 i a x e1 e2)⟩
theorem aK.nil:aK f K H [] []:=⟨rfl,fun i a x e _=>by simp at e⟩
theorem aK.app (h:aK f K H as ls)(g:aK f K H bs ks):aK f K H (as++bs) (ls++ks):=by
 refine ⟨by rw [List.length_append,List.length_append,h.1,g.1],fun i a x e1 e2=>?_⟩
 by_cases hi:i < as.length
 ·rw [List.getElem?_append_left hi] at e1
  rw [List.getElem?_append_left (by rw [←h.1];exact hi)] at e2
  exact h.2 i a x e1 e2
 ·rw [List.getElem?_append_right (by omega)] at e1
  rw [List.getElem?_append_right (by rw [←h.1];omega),←h.1] at e2
  exact g.2 _ a x e1 e2
theorem aK.one {a:Addr}{x:α}(h:SqT K H a (f x)):aK f K H [a] [x]:=by
 refine ⟨rfl,fun i b y e1 e2=>?_⟩
 cases i with
 | zero=>cases e1;cases e2;exact h
 | succ i=>simp at e1
theorem aK.rew {ys:List V}{o:HO}(h:aK f K H as ls)(hl:H l=some (.lst ys)):aK f K (upd H l o) as ls:=⟨h.1,fun i a x e1 e2=>(h.2 i a x e1 e2).rew hl⟩
theorem aK.keep {ys:List V}(s:aD p H H')(hp:H p=some (.lst ys))(h:aK f K H as ls):aK f K H' as ls:=⟨h.1,fun i a x e1 e2=>(h.2 i a x e1 e2).keep s hp⟩
theorem aK.keepI {C dx:Addr}{fs:List (Str×V)}(s:aD p H H')(hp:H p=some (.ins C dx fs))(h:aK f K H as ls):aK f K H' as ls:=⟨h.1,fun i a x e1 e2=>(h.2 i a x e1 e2).keepI s hp⟩
theorem cj {a:Addr}{xs:List V}{n:Nat}(h:SqT K H a xs)(hb:xs.length<=1000)(hf:∀x∈xs,aQ x=true):Rep K H (n+1) (.ref a) (.tup (xs.map Dt.flat)):=j1 h (by omega) hf
theorem gG {n:Nat}(h:pO f K H l ls)(hb:ls.length<=100000)(hw:∀x∈ls,(f x).length<=100000/\∀v∈f x,aQ v=true):Rep K H (n+2) (.ref l) (.lst (ls.map fun x=>.tup ((f x).map Dt.flat))):=by
 obtain ⟨as,hs,hl,ht⟩:=h
 refine .lst hs (by rw [JB];omega) (by rw [JB,JB];exact hl) fun i x d e1 e2=>?_
 rw [List.getElem?_map] at e1 e2
 obtain ⟨a,ea,rfl⟩:=Option.map_eq_some_iff.mp e1
 obtain ⟨y,ey,rfl⟩:=Option.map_eq_some_iff.mp e2
 have hm:=hw y (List.mem_of_getElem? ey)
 exact j1 (ht i a y ea ey) hm.1 hm.2
end
noncomputable abbrev Cd:=Int×Int
noncomputable def cdV (x:Cd):List V:=[.int x.1,.int x.2]
def i6 (x:Cd):Prop:=(1<=x.1/\x.1<=9)/\(1<=x.2/\x.2<=9)/\x.1≠x.2
theorem kF (x:Cd):(cdV x).length<=100000/\∀v∈cdV x,aQ v=true:=⟨by show 2<=100000;decide,by simp [cdV,aQ]⟩
end L2
namespace L2
open PySem PySem.Spec PyProof.Rows PySem.SeqAt
theorem iF {M:Model}{A:Around}{E:Value->Shared->Prop}{s:Shared}{β:Type}{c:β}{f:Nat->β->Sem (ForInStep β)}{Q:β->Shared->Prop}{n:Nat}(hn:n=2)
  (h:wpAny M A (f 0 c) (fun r s1=>match r with | .done b=>Q b s1 | .yield b=>wpAny M A (f 1 b) (fun r s2=>match r with | .done b=>Q b s2 | .yield b=>Q b s2) E s1) E s) :
  wpAny M A (forIn ([:n]:Std.Legacy.Range) c f) Q E s:=by
 subst hn
 rw [Std.Legacy.Range.forIn_eq_forIn_range']
 show wpAny M A (forIn [0,1] c f) Q E s
 rw [List.forIn_cons]
 refine wpAny_bind (wpAny_mono h ?_ (fun _ _ z=>z))
 intro r s1 h1
 cases r with
 | done b=>exact wpAny_pure h1
 | yield b=>
  show wpAny M A (forIn [1] b f) Q E s1
  rw [List.forIn_cons]
  refine wpAny_bind (wpAny_mono h1 ?_ (fun _ _ z=>z))
  intro r s2 h2
  cases r with
  | done b=>exact wpAny_pure h2
  | yield b=>
   show wpAny M A (forIn [] b f) Q E s2
   rw [List.forIn_nil]
   exact wpAny_pure h2
theorem kG (l:Addr)(items:Array Value)(a b:Value)(n:Nat)(dd:Option Addr)(sl:Array (Option Value))(x:Value)(e0 e1:Bool)(he:(e0 || e1)=true)(hsz:items.size=2)(i0:items[0]?=some a)(i1:items[1]?=some b) :
  Meets (Builtin.«tuple.index» ⟨[.ref l,x],[]⟩)
   (fun A R s=>s.heap.get? l=some {cls:=.type "tuple",dict:=dd,data:=.seq items n,slots:=sl}/\EqAt A.in1 s a x e0/\EqAt A.in1 s b x e1/\R (.ok (.ret (.int (if e0=true then 0 else 1) s.toks))) {s with toks:=s.toks+1}):=
 .of_wp fun prog w A R s h=>by
  obtain ⟨hp,g,d,tk,os⟩:=s;obtain ⟨hl,h0,h1,h⟩:=h
  wp_walk using wpAny_loadPart' hl,iF (show min items.size items.size=2 by omega)
  rw [i0]
  refine wpAny_bind (h0 prog w _ _ ?_)
  cases e0 with
  | true=>
   wp_walk
   exact ⟨_,rfl,h⟩
  | false=>
   wp_walk
   rw [i1]
   refine wpAny_bind (h1 prog w _ _ ?_)
   have e1t:e1=true:=by simpa using he
   subst e1t
   wp_walk
   exact ⟨_,rfl,h⟩
section
variable {X:Cx}
noncomputable def nj (K:JA):V->List V->Hp->VK->Prop:=fun x vs H Q=>∃(l:Addr) (a b k:V),x=.ref l/\vs=[k]/\SqT K H l [a,b]/\aQ a=true/\aQ b=true/\aQ k=true/\(eqV a k || eqV b k)=true/\Q (.int (if eqV a k=true then 0 else 1)) H
theorem oj:MtR X "tuple.index" (nj X.K):=by
 intro pins s σ H x vs v us Q I rx rv h
 obtain ⟨l,a,b,k,rfl,rfl,hq,fa,fb,fk,hk,q⟩:=h
 cases rx
 obtain ⟨u,rfl,ru⟩:=rv.one
 obtain ⟨its,r,pl,hz⟩:=I.tuple hq
 obtain ⟨u1,u2,rfl,r1,r2⟩:=r.two
 obtain ⟨⟨cls,dd,data,sl⟩,ho,hc,n,hd⟩:=id pl
 simp only at hc hd
 subst hc hd
 refine call_meets PySem.F.slot_tuple_index ⟨_,ho,rfl⟩ PySem.F.entry_tuple_index (PySem.F.args_tuple_index_2 _ _)
  (kG l _ u1 u2 n dd sl u (eqV a k) (eqV b k) hk rfl rfl rfl) ⟨ho,g9 r1 ru fa fk,g9 r2 ru fb fk,?_⟩
 exact ⟨.int _,H,I.tok _,⟨_,rfl⟩,q⟩
noncomputable def vy (K:JA):R2:=fun x y H Q=>∃a b xs ys,x=.ref a/\y=.ref b/\SqT K H a xs/\SqT K H b ys/\xs.all aQ=true/\ys.all aQ=true/\Q (.bl (!eqL xs ys)) H
theorem nq {xs ys:List V}:((List.range (min xs.length ys.length)).all (fun j=>eqV (xs.getD j .non) (ys.getD j .non)) && xs.length == ys.length)=eqL xs ys:=by
 by_cases hl:xs.length=ys.length
 ·rw [show min xs.length ys.length=xs.length by omega,kD hl,hl]
  simp
 ·have e:eqL xs ys=false:=by
   cases z:eqL xs ys with
   | false=>rfl
   | true=>exact absurd (kC z) hl
  rw [e]
  simp [hl]
theorem uB (hu:X.A.units < cLine):OpR X (compareOp .NotEq) (vy X.K):=by
 intro pins s σ H x y u v Q I rx ry h
 obtain ⟨a,b,xs,ys,rfl,rfl,ha,hb,fa,fb,q⟩:=h
 cases rx;cases ry
 obtain ⟨ia,ra,pa,za⟩:=I.tuple ha
 obtain ⟨ib,rb,pb,zb⟩:=I.tuple hb
 have la:=ra.length
 have lb:=rb.length
 refine RcNeAt.tuples (e:=fun j=>eqV (xs.getD j .non) (ys.getD j .non)) pa pb hu (fun j h1 h2=>?_) X.prog X.w _ _ ?_
 ·simp only [List.size_toArray] at h1 h2
  have hx:xs[j]?=some (xs.getD j .non):=by
   rw [List.getD_eq_getElem?_getD,List.getElem?_eq_getElem (by omega)];rfl
  have hy:ys[j]?=some (ys.getD j .non):=by
   rw [List.getD_eq_getElem?_getD,List.getElem?_eq_getElem (by omega)];rfl
  obtain ⟨u,eu,ru⟩:=ra.get hx
  obtain ⟨v,ev,rv⟩:=rb.get hy
  have e1:ia.toArray[j]=u:=by
   have:=List.getElem?_eq_some_iff.mp eu
   simpa using this.2
  have e2:ib.toArray[j]=v:=by
   have:=List.getElem?_eq_some_iff.mp ev
   simpa using this.2
  rw [e1,e2]
  exact g9 ru rv (List.all_eq_true.mp fa _ (List.mem_of_getElem? hx)) (List.all_eq_true.mp fb _ (List.mem_of_getElem? hy))
 ·have e:=nq (xs:=xs) (ys:=ys)
  simp only [List.size_toArray]
  rw [←la,←lb,e]
  exact ⟨.bl (!eqL xs ys),H,I,rfl,q⟩
end
end L2
namespace L2
open PySem PySem.Spec PyProof.Rows
inductive Eng where
 | no | wait (l r:Int) | armed (l r:Int) | other (l r s:Int) | used (l r:Int)
 deriving DecidableEq
noncomputable def i7:Eng->List V
 | .no=>[.str "not rung",.non,.non,.non]
 | .wait l r=>[.str "not repeated",.int l,.int r,.non]
 | .armed l r=>[.str "armed",.int l,.int r,.int r]
 | .other l r s=>[.str "repeated otherwise",.int l,.int r,.int s]
 | .used l r=>[.str "used up",.int l,.int r,.int r]
theorem hR (e:Eng):∀x∈i7 e,aQ x=true:=by cases e<;>simp [i7,aQ]
theorem lx (e:Eng):(i7 e).length=4:=by cases e<;>rfl
def bb (p q:Addr)(H H':Hp):Prop:=∀b o,b≠p->b≠q->H b=some o->H' b=some o
theorem bb.of {p q:Addr}{H H':Hp}(s:au H H'):bb p q H H':=fun b o _ _ e=>s b o e
theorem bb.l {p q:Addr}{H H':Hp}(s:aD p H H'):bb p q H H':=fun b o n _ e=>s b o n e
theorem bb.r {p q:Addr}{H H':Hp}(s:aD q H H'):bb p q H H':=fun b o _ n e=>s b o n e
theorem bb.trans {p q:Addr}{H H1 H2:Hp}(a:bb p q H H1)(b:bb p q H1 H2):bb p q H H2:=fun c o n m e=>b c o n m (a c o n m e)
theorem aD.free {p x:Addr}{H H':Hp}(k:aD p H H')(n:x≠p)(h:H' x=none):H x=none:=by
 cases e:H x with
 | none=>rfl
 | some o=>have:=k x o n e;rw [h] at this;cases this
theorem bb.free {p q x:Addr}{H H':Hp}(k:bb p q H H')(n:x≠p)(m:x≠q)(h:H' x=none):H x=none:=by
 cases e:H x with
 | none=>rfl
 | some o=>have:=k x o n m e;rw [h] at this;cases this
theorem SqT.keep2 {K:JA}{p q a C dx:Addr}{H H':Hp}{xs ys:List V}{fs:List (Str×V)}(s:bb p q H H')(hp:H p=some (.ins C dx fs))(hq:H q=some (.lst ys))(h:SqT K H a xs):SqT K H' a xs:=by
 rcases h with (h | ⟨o',h⟩) | h
 ·exact .inl (.inl (s _ _ (fun e=>by rw [e,hp] at h;cases h) (fun e=>by rw [e,hq] at h;cases h) h))
 ·exact .inl (.inr ⟨o',s _ _ (fun e=>by rw [e,hp] at h;cases h) (fun e=>by rw [e,hq] at h;cases h) h⟩)
 ·exact .inr h
structure aL (C:Addr)(K:JA)(H:Hp)(b cs fl st:Addr)(ls:List Cd)(fs:List Bool)(e:Eng):Prop where
 ob:∃dx,H b=some (.ins C dx [("codes",.ref cs),("failed",.ref fl),("state",.ref st)])
 oc:∃as:List Addr,H cs=some (.lst (as.map V.ref))/\aK cdV K H as ls
 of:H fl=some (.lst (fs.map V.bl))
 os:SqT K H st (i7 e)
 nn:cs≠fl
 ln:fs.length=ls.length
theorem aL.same {C:Addr}{K:JA}{H H':Hp}{b cs fl st:Addr}{ls:List Cd}{fs:List Bool}{e:Eng}(h:aL C K H b cs fl st ls fs e)(s:au H H'):aL C K H' b cs fl st ls fs e:=by
 obtain ⟨⟨dx,a⟩,⟨as,c,t⟩,f,g,n,l⟩:=h
 exact ⟨⟨dx,s _ _ a⟩,⟨as,s _ _ c,t.same s⟩,s _ _ f,s.tup g,n,l⟩
theorem aL.state {C:Addr}{K:JA}{H H':Hp}{b cs fl st st' dx:Addr}{ls:List Cd}{fs:List Bool}{e e':Eng}(h:aL C K H b cs fl st ls fs e)(k:aD b H H')
  (a:H' b=some (.ins C dx [("codes",.ref cs),("failed",.ref fl),("state",.ref st')])) (g:SqT K H' st' (i7 e')):aL C K H' b cs fl st' ls fs e':=by
 obtain ⟨⟨dx0,a0⟩,⟨as,c,t⟩,f,_,n,l⟩:=h
 exact ⟨⟨dx,a⟩,⟨as,k _ _ (fun z=>by rw [z,a0] at c;cases c) c,t.keepI k a0⟩,k _ _ (fun z=>by rw [z,a0] at f;cases f) f,g,n,l⟩
inductive Bd where
 | ring (l s:Int) | rept (s:Int) | use (l:Int) (k:Str) | fail (l:Int)
noncomputable def bdV:Bd->List V
 | .ring l s=>[.str "ring",.int l,.int s]
 | .rept s=>[.str "repeat",.int s]
 | .use l k=>[.str "use",.int l,.str k]
 | .fail l=>[.str "fail",.int l]
noncomputable def q0:Bd->Prop
 | .use _ k=>k="men"\/k="coal"
 | _=>True
inductive Rb where
 | lv | db | nc | nr | ch | na
 deriving DecidableEq
noncomputable def nmB:Option Rb->Str
 | none=>""
 | some .lv=>"UnknownLevel"
 | some .db=>"DeadBell"
 | some .nc=>"NoCode"
 | some .nr=>"NothingRung"
 | some .ch=>"NoChange"
 | some .na=>"NotArmed"
noncomputable def cy (ls:List Cd)(l:Int):Cd:=ls.getD l.toNat (0,0)
noncomputable def a7 (ls:List Cd)(l:Int)(k:Str):Int:=if k="men" then (cy ls l).1 else (cy ls l).2
noncomputable def bL (ls:List Cd)(fs:List Bool)(e:Eng):Bd->Option Rb
 | .ring l s=>if l < 0\/(ls.length:Int)<=l then some .lv else if fs.getD l.toNat false=true then some .db else if s=(cy ls l).1\/s=(cy ls l).2 then none else some .nc
 | .rept s=>match e with | .wait _ _=>if 1<=s/\s<=9 then none else some .nc | _=>some .nr
 | .use l k=>if l < 0\/(ls.length:Int)<=l then some .lv else if e=.armed l (a7 ls l k) then none else some .na
 | .fail l=>if l < 0\/(ls.length:Int)<=l then some .lv else if fs.getD l.toNat false=true then some .ch else none
noncomputable def om (ls:List Cd)(e:Eng):Bd->Eng
 | .ring l s=>.wait l s
 | .rept s=>match e with | .wait l r=>if s=r then .armed l r else .other l r s | e=>e
 | .use l k=>.used l (a7 ls l k)
 | .fail _=>e
noncomputable def pP (fs:List Bool):Bd->List Bool
 | .fail l=>fs.set l.toNat true
 | _=>fs
noncomputable def oo (K:JA)(H:Hp)(e:Eng):Bd->V->Prop
 | .rept s,v=>∃(p:Addr) (l r:Int),e=.wait l r/\v=.ref p/\SqT K H p [.bl (decide (s=r)),.int r,.int s]
 | _,v=>v=.non
theorem oo.same {K:JA}{H H':Hp}{e:Eng}{d:Bd}{v:V}(s:au H H')(h:oo K H e d v):oo K H' e d v:=by
 cases d with
 | rept s0=>
  obtain ⟨p,l,r,e1,e2,t⟩:=h
  exact ⟨p,l,r,e1,e2,s.tup t⟩
 | _=>exact h
theorem gH {K:JA}{H:Hp}{as:List Addr}{ls:List Cd}{l:Int}(t:aK cdV K H as ls)(h0:0<=l)(h1:l < ls.length):∃a,atI (as.map V.ref) l=some (.ref a)/\SqT K H a (cdV (cy ls l)):=by
 obtain ⟨n,rfl⟩:=Int.eq_ofNat_of_zero_le h0
 have hn:n < ls.length:=by omega
 have ha:as[n]?=some (as[n]'(by rw [t.1];exact hn)):=List.getElem?_eq_getElem _
 refine ⟨as[n]'(by rw [t.1];exact hn),ay (by rw [List.getElem?_map,ha];rfl),t.2 n _ _ ha ?_⟩
 rw [cy,Int.toNat_natCast,List.getD_eq_getElem?_getD,List.getElem?_eq_getElem hn];rfl
theorem pQ {fs:List Bool}{l:Int}(h0:0<=l)(h1:l < fs.length):atI (fs.map V.bl) l=some (.bl (fs.getD l.toNat false)):=by
 obtain ⟨n,rfl⟩:=Int.eq_ofNat_of_zero_le h0
 have hn:n < fs.length:=by omega
 refine ay ?_
 rw [List.getElem?_map,List.getElem?_eq_getElem hn,Int.toNat_natCast,List.getD_eq_getElem?_getD,List.getElem?_eq_getElem hn];rfl
section
variable {X:Cx}
theorem kH:bW X (.type "range") (fun xs H Q=>∃i j:Int,xs=[.int i,.int j]/\∀p,H p=none->Q (.ref p) (upd H p (.rng i j))):=by
 intro pins s σ H xs us Q I r h
 obtain ⟨i,j,rfl,q⟩:=h
 obtain ⟨u,v,rfl,⟨t,rfl⟩,⟨t',rfl⟩⟩:=aM.two r
 refine call_range_2 ?_
 exact ⟨.ref s.heap.objs.size,_,I.laid (o:=.rng i j) (fun b o e=>Heap.get?_push_of_some _ e) (Nat.le_refl _) ⟨_,_,_,Heap.get?_push_size _ rfl⟩,rfl,q _ I.fresh⟩
end
noncomputable def lvl (ds:List Int)(d:Int):Option Int:=if d∈ds then some (ds.idxOf d:Nat) else none
noncomputable def vz (ds:List Int)(p c:Int):Option Int:=if c=0 then lvl ds p else lvl ds (dy ds - p)
inductive Stp where
 | wind (c l:Int) | load (k c:Int) | unload (k c:Int)
noncomputable def vA (lv:Option Int)(x:List Int):Stp->Option (List Int)
 | .wind _ _=>none
 | .load k c=>match lv with | none=>none | some l=>if x.getD (k.toNat+1) 0=l/\¬10+c∈x.tail then some (x.set (k.toNat+1) (10+c)) else none
 | .unload k c=>match lv with | none=>none | some l=>if x.getD (k.toNat+1) 0=10+c then some (x.set (k.toNat+1) l) else none
noncomputable def uC:Stp->Int
 | .wind c _=>c
 | .load _ c=>c
 | .unload _ c=>c
noncomputable def stK:Stp->Int
 | .wind _ _=>0
 | .load k _=>k
 | .unload k _=>k
noncomputable def after (ds dead:List Int)(x:List Int):Stp->Option (List Int)
 | .wind c l=>if l < 0\/(ds.length:Int)<=l\/l∈dead then none else some ((if c=0 then ds.getD l.toNat 0 else dy ds - ds.getD l.toNat 0)::x.tail)
 | s=>if stK s < 0\/(x.length:Int)<=stK s+1 then none else vA (vz ds (x.getD 0 0) (uC s)) x s
theorem gI {K:JA}{H:Hp}{a:Addr}{xs:List Int}{n:Nat}(h:SqL K H a (xs.map V.int))(hb:xs.length<=100000):Rep K H (n+1) (.ref a) (.lst ((xs.map V.int).map Dt.flat)):=by
 refine .lst h (by rw [JB];exact hb) (by simp) fun i y d e1 e2=>?_
 rw [List.getElem?_map,e1] at e2
 cases e2
 obtain ⟨z,rfl,_⟩:=kB e1
 exact .flat rfl
theorem aZ {K:JA}{H:Hp}{a:Addr}{x y:V}{d e:Dt}{n:Nat}(h:SqL K H a [x,y])(h1:Rep K H n x d)(h2:Rep K H n y e):Rep K H (n+1) (.ref a) (.lst [d,e]):=by
 refine .lst h (by show 2<=100000;decide) rfl fun i v w e1 e2=>?_
 match i,e1,e2 with
 | 0,e1,e2=>cases e1;cases e2;exact h1
 | 1,e1,e2=>cases e1;cases e2;exact h2
 | i+2,e1,e2=>simp at e1
theorem oq (a b i:Int):(Builtin.Range.rangePlace? a b 1 i).isSome=decide (a<=i/\i < b):=by
 unfold Builtin.Range.rangePlace?
 rw [Bool.eq_iff_iff]
 simp
theorem ou (r:Addr)(a b x:Int)(t u v tx:Tok) :
  Meets (Builtin.«range.__contains__» ⟨[.ref r,.int x tx],[]⟩)
   (fun A R s=>s.heap.get? r=some {cls:=.type "range",data:=.fields #[.int a t,.int b u,.int 1 v]}/\R (.ok (.ret (.bool (decide (a<=x/\x < b))))) s):=
 .of_wp fun prog w A R s h=>by
  obtain ⟨hp,g,d,tk,os⟩:=s;obtain ⟨hl,h⟩:=h
  wp_walk using wpAny_loadPart' hl
  rw [oq]
  exact ⟨_,rfl,h⟩
section
variable {X:Cx}
noncomputable def vB (neg:Bool):R2:=fun x y H Q=>∃(r:Addr) (lo hi i:Int),x=.int i/\y=.ref r/\H r=some (.rng lo hi)/\Q (.bl (if neg=true then !decide (lo<=i/\i < hi) else decide (lo<=i/\i < hi))) H
theorem ow:OpR X (compareOp .In) (vB false):=by
 intro pins s σ H x y v u Q I rx ry h
 obtain ⟨r,lo,hi,i,rfl,rfl,hr,q⟩:=h
 obtain ⟨tx,rfl⟩:=rx
 cases ry
 obtain ⟨t,u,v,e⟩:=I.hok r _ hr
 exact PySem.SeqRoads2.in_meets ⟨_,e,rfl⟩ PySem.F.slot_range_contains PySem.F.entry_range_contains (PySem.F.args_range_contains_2 _ _) (ou r lo hi i t u v tx) ⟨e,_,rfl,⟨.bl _,H,I,rfl,q⟩⟩
end
structure Cl where
 (B Y S K W:Addr)
structure rd where
 place:Int
 gates:List Bool
 fs:List Bool
 e:Eng
 ws:List Int
structure Cfg where
 ds:List Int
 ls:List Cd
 slow:Int
 fast:Int
 goals:List Int
 ks:List Str
 N:Addr->Prop:=fun _=>False
structure SA where
 (dx ol b cs fl st y kn wh:Addr)
structure vC (rl:Addr)(A:SA):Prop where
 r1:A.ol≠rl
 r2:A.cs≠rl
 r3:A.fl≠rl
 r4:A.kn≠rl
 r5:A.wh≠rl
 o1:A.cs≠A.ol
 o2:A.fl≠A.ol
 o3:A.kn≠A.ol
 o4:A.wh≠A.ol
 f1:A.ol≠A.fl
 f2:A.kn≠A.fl
 f3:A.wh≠A.fl
 w1:A.ol≠A.wh
 w2:A.cs≠A.wh
 w3:A.fl≠A.wh
 w4:A.kn≠A.wh
structure Off (H:Hp)(rl:Addr)(N:Addr->Prop)(A:SA):Prop where
 al:∀p,N p->∃ys,H p=some (.lst ys)
 nr:∀p,N p->rl≠p
 no:∀p,N p->A.ol≠p
 nc:∀p,N p->A.cs≠p
 nf:∀p,N p->A.fl≠p
 nk:∀p,N p->A.kn≠p
 nw:∀p,N p->A.wh≠p
structure uD (C:Cl)(K:JA)(H:Hp)(rl:Addr)(g:Cfg)(s:Addr)(A:SA)(n:rd):Prop where
 ob:H s=some (.ins C.S A.dx [("place",.int n.place),("opened",.ref A.ol),("bells",.ref A.b),("yard",.ref A.y)])
 go:H A.ol=some (.lst (n.gates.map V.bl))
 be:aL C.B K H A.b A.cs A.fl A.st g.ls n.fs n.e
 ya:uA C.Y H A.y A.kn A.wh g.ks n.ws g.ds.length
 ap:vC rl A
 nn:Off H rl g.N A
def rf (C:Cl)(K:JA)(H:Hp)(rl:Addr)(g:Cfg)(s:Addr)(n:rd):Prop:=∃A,uD C K H rl g s A n
theorem aL.off {C:Addr}{K:JA}{H H':Hp}{p b cs fl st:Addr}{ls:List Cd}{fs:List Bool}{e:Eng}{ys:List V}(h:aL C K H b cs fl st ls fs e)(s:aD p H H')(hp:H p=some (.lst ys))(n1:cs≠p)(n2:fl≠p):aL C K H' b cs fl st ls fs e:=by
 obtain ⟨⟨dx,a⟩,⟨as,c,t⟩,f,g,n,l⟩:=h
 exact ⟨⟨dx,s _ _ (fun z=>by rw [z,hp] at a;cases a) a⟩,⟨as,s _ _ n1 c,t.keep s hp⟩,s _ _ n2 f,g.keep s hp,n,l⟩
section
variable {C:Cl}{K:JA}{H H':Hp}{rl s a w bk:Addr}{g:Cfg}{A:SA}{n n0:rd}
structure Row where
 began:Int
 ended:Int
 deed:List V
 speed:Int
 sn:rd
def vD (C:Cl)(K:JA)(H:Hp)(rl:Addr)(g:Cfg)(a:Addr)(r:Row):Prop:=∃dd s,SqT K H a [.int r.began,.int r.ended,.ref dd,.int r.speed,.ref s]/\SqT K H dd r.deed/\rf C K H rl g s r.sn
def wo (C:Cl)(K:JA)(H:Hp)(rl:Addr)(g:Cfg)(as:List Addr)(rs:List Row):Prop:=as.length=rs.length/\∀(i:Nat) a r,as[i]?=some a->rs[i]?=some r->vD C K H rl g a r
end
theorem ly {H H':Hp}{x dx:Addr}{o1 o2:HO}(hx:H x=none)(hdx:H dx=none)(kp:aD x (upd (upd H dx o1) x o2) H'):au H H':=fun b o e=>kp b o (ah e hx) (by rw [aj (ah e hx),aj (ah e hdx)];exact e)
theorem gJ {H:Hp}{x dx z:Addr}{o1 o2:HO}(h:upd (upd H dx o1) x o2 z=none):H z=none:=upn (upn h)
def unk (l:Int)(m:Nat):Prop:=¬(0<=l/\l < m)
instance (l:Int) (m:Nat):Decidable (unk l m):=inferInstanceAs (Decidable (¬_))
noncomputable def dX (fs:List Bool)(i:Nat):List Int:=((List.range i).filter fun j=>fs.getD j false).map fun (j:Nat)=>(j:Int)
noncomputable def j4 (fs:List Bool):List Int:=dX fs fs.length
theorem il (fs:List Bool)(i:Nat):dX fs (i+1)=dX fs i++(if fs.getD i false=true then [(i:Int)] else []):=by
 unfold dX
 rw [List.range_succ,List.filter_append,List.map_append]
 by_cases h:fs.getD i false=true
 ·rw [if_pos h,List.filter_cons,if_pos h];rfl
 ·rw [if_neg h,List.filter_cons,if_neg h];rfl
theorem gm (fs:List Bool)(i:Nat):(dX fs i).length<=i:=by
 unfold dX
 rw [JB]
 exact Nat.le_trans (List.length_filter_le _ _) (by rw [List.length_range];exact Nat.le_refl _)
theorem au.keeps {H H1 H2:Hp}{p:Addr}(s:au H H1)(k:aD p H1 H2)(hp:H p=none):au H H2:=fun b o e=>k b o (ah e hp) (s b o e)
end L2
namespace PySem
open PySem.Spec PyProof.Rows
end PySem
namespace L2
open PySem PySem.Spec PyProof.Rows PySem.SeqAt
end L2
namespace L2
open PySem PySem.Spec PyProof.Rows
end L2
namespace PySem
open Sem (wp)
open Builtin PySem.Spec PyProof.Rows PySem.SeqAt
end PySem
namespace L2
open PySem PySem.Spec PyProof.Rows PySem.SeqAt
end L2
namespace L2
open PySem PySem.Spec PyProof.Rows
def eQ {α:Type}(P:Addr->α->Prop)(as:List Addr)(xs:List α):Prop:=as.length=xs.length/\∀(i:Nat) a x,as[i]?=some a->xs[i]?=some x->P a x
section
variable {α:Type}{P Q:Addr->α->Prop}{as:List Addr}{xs:List α}{a:Addr}{x:α}
theorem eQ.imp (h:eQ P as xs)(f:∀a x,P a x->Q a x):eQ Q as xs:=⟨h.1,fun i a x e1 e2=>f _ _ (h.2 i a x e1 e2)⟩
theorem eQ.nil:eQ P [] []:=⟨rfl,fun i a r e _=>by simp at e⟩
theorem eQ.push (h:eQ P as xs)(hr:P a x):eQ P (as++[a]) (xs++[x]):=by
 refine ⟨by rw [List.length_append,List.length_append,h.1];rfl,fun i b y e1 e2=>?_⟩
 by_cases hi:i < as.length
 ·rw [List.getElem?_append_left hi] at e1
  rw [List.getElem?_append_left (by rw [←h.1];exact hi)] at e2
  exact h.2 i b y e1 e2
 ·rw [List.getElem?_append_right (by omega)] at e1
  rw [List.getElem?_append_right (by rw [←h.1];omega),←h.1] at e2
  have hz:i - as.length=0:=by
   have:=(List.getElem?_eq_some_iff.mp e1).1
   simp at this
   omega
  rw [hz] at e1 e2
  cases e1
  cases e2
  exact hr
end
end L2
namespace L2
open PySem PySem.Spec PyProof.Rows PySem.SeqAt
theorem ox (fs:List Bool)(n i:Nat)(v:Bool):(fs.set n v).getD i false=if n=i/\i < fs.length then v else fs.getD i false:=by
 rw [List.getD_eq_getElem?_getD,List.getD_eq_getElem?_getD,List.getElem?_set]
 by_cases e:n=i
 ·subst e
  by_cases h:n < fs.length
  ·rw [if_pos rfl,if_pos h,if_pos ⟨rfl,h⟩];rfl
  ·rw [if_pos rfl,if_neg h,if_neg (fun z=>h z.2),List.getElem?_eq_none (by omega)]
 ·rw [if_neg e,if_neg (fun z=>e z.1)]
end L2
namespace L2
open PySem PySem.Spec PyProof.Rows
def onI (x:V)(P:Int->Prop):Prop:=match x with | .int i=>P i | _=>False
def onB (x:V)(P:Bool->Prop):Prop:=match x with | .bl i=>P i | _=>False
def onR (x:V)(P:Addr->Prop):Prop:=match x with | .ref i=>P i | _=>False
def onO (x:Option (Option V))(P:V->Prop):Prop:=match x with | some (some v)=>P v | _=>False
def onC (xs:List V)(P:V->List V->Prop):Prop:=match xs with | v::r=>P v r | []=>False
def onN (xs:List V)(P:Prop):Prop:=match xs with | []=>P | _=>False
theorem rg (i:Int)(P:Int->Prop):onI (.int i) P=P i:=rfl
theorem uE (i:Bool)(P:Bool->Prop):onB (.bl i) P=P i:=rfl
theorem rh (i:Addr)(P:Addr->Prop):onR (.ref i) P=P i:=rfl
theorem pR (v:V)(P:V->Prop):onO (some (some v)) P=P v:=rfl
theorem pS (v:V)(r:List V)(P:V->List V->Prop):onC (v::r) P=P v r:=rfl
theorem rj (P:Prop):onN [] P=P:=rfl
theorem kK {x:V}{P:Int->Prop}:(∃i,x=.int i/\P i)↔onI x P:=by cases x<;>simp [onI]
theorem nu {x:V}{P:Bool->Prop}:(∃i,x=.bl i/\P i)↔onB x P:=by cases x<;>simp [onB]
theorem kL {x:V}{P:Addr->Prop}:(∃i,x=.ref i/\P i)↔onR x P:=by cases x<;>simp [onR]
theorem gn {x:V}{P:Addr->Prop}(h:onR x P):∃i,x=.ref i/\P i:=kL.mpr h
theorem i8 {x:V}{P:Int->Prop}(h:onI x P):∃i,x=.int i/\P i:=kK.mpr h
theorem rk {x:Option (Option V)}{P:V->Prop}:(∃v,x=some (some v)/\P v)↔onO x P:=by
 rcases x with _ | _ | v<;>simp [onO]
theorem rm {xs:List V}{P:V->List V->Prop}:(∃v r,xs=v::r/\P v r)↔onC xs P:=by
 cases xs with
 | nil=>exact ⟨fun ⟨_,_,e,_⟩=>(List.cons_ne_nil _ _ e.symm).elim,fun h=>False.elim h⟩
 | cons v r=>exact ⟨fun ⟨_,_,e,h⟩=>by cases e;exact h,fun h=>⟨v,r,rfl,h⟩⟩
theorem rn {xs:List V}{P:Prop}:(xs=[]/\P)↔onN xs P:=by cases xs<;>simp [onN]
theorem vX {α β:Type}(f:α->β)(a:α)(l:List α):List.map f (a::l)=f a::List.map f l:=rfl
theorem vY {α β:Type}(f:α->β):List.map f ([]:List α)=[]:=rfl
theorem vZ {α:Type}(a:α)(l m:List α):(a::l)++m=a::(l++m):=rfl
theorem v3 {α:Type}(m:List α):([]:List α)++m=m:=rfl
theorem vE {α:Type}(a:α)(l:List α):(a::l)[0]?=some a:=rfl
theorem vF {α:Type}(a:α)(l:List α)(n:Nat):(a::l)[n+1]?=l[n]?:=rfl
theorem vG {α:Type}(a b:α)(l:List α):(a::l).set 0 b=b::l:=rfl
theorem vH {α:Type}(a b:α)(l:List α)(n:Nat):(a::l).set (n+1) b=a::l.set n b:=rfl
theorem v5 {α:Type}(a:α)(n:Nat):List.replicate (n+1) a=a::List.replicate n a:=rfl
theorem v7 {α:Type}(a:α):List.replicate 0 a=[]:=rfl
theorem uF (N:List Str)(vs:List V):L2.eO N vs=vs.map some++List.replicate (N.length - vs.length) none:=rfl
theorem σN (cm:List (Option Nat))(σ:St):bf (none::cm) σ=none::bf cm σ:=rfl
theorem σS (i:Nat)(cm:List (Option Nat))(σ:St):bf (some i::cm) σ=(σ[i]?).getD none::bf cm σ:=rfl
theorem σ0 (σ:St):bf [] σ=[]:=rfl
theorem vI {α:Type}(a b:α):(some a).getD b=a:=rfl
theorem v8 {α:Type}(a:α)(l:List α):(a::l).length=l.length+1:=rfl
theorem v9 {α:Type}:([]:List α).length=0:=rfl
theorem vJ {A B:Prop}:(if true=true then A else B)=A:=rfl
theorem vK {A B:Prop}:(if false=true then A else B)=B:=rfl
theorem wa {p:Prop}[Decidable p]{A B:Prop}(h:if p then A else B):if decide p=true then A else B:=by
 by_cases e:p
 ·rw [if_pos e] at h;rw [if_pos (decide_eq_true e)];exact h
 ·rw [if_neg e] at h;rw [if_neg (by simp [e])];exact h
section
variable {α β:Type}
theorem ceq {f g:α->β->Prop}(h:∀x y,f x y↔g x y):f=g:=funext fun x=>funext fun y=>propext (h x y)
noncomputable def pT (i:Nat):TE:=fun σ H Q=>onO σ[i]? fun v=>Q v H
theorem rp (i:Nat):tN i=pT i:=funext fun σ=>funext fun H=>funext fun Q=>propext rk
noncomputable def tB' (t:TE):TT:=fun σ H Q=>t σ H fun x H1=>onB x fun c=>Q c H1
theorem tD (t:TE):tB t=tB' t:=funext fun σ=>funext fun H=>funext fun Q=>congrArg (t σ H) (ceq fun _ _=>nu)
theorem pU (t:TE):iV t=tB' t:=tD t
noncomputable def mj (g:Int->Int->V):R2:=fun x y H Q=>onI x fun i=>onI y fun j=>Q (g i j) H
theorem two_iff {x y:V}{P:Int->Int->Prop}:(∃i j,x=.int i/\y=.int j/\P i j)↔onI x fun i=>onI y fun j=>P i j:=⟨fun ⟨i,j,e,f,h⟩=>by subst e f;exact h,fun h=>let ⟨i,e,h⟩:=i8 h;let ⟨j,f,h⟩:=i8 h;⟨i,j,e,f,h⟩⟩
theorem i9 (g:Int->Int->V):rI0 g=mj g:=funext fun x=>funext fun y=>ceq fun _ _=>two_iff
noncomputable def rI' (C:Int->Int->Prop)(g:Int->Int->V):R2:=fun x y H Q=>onI x fun i=>onI y fun j=>C i j/\Q (g i j) H
theorem pV (C:Int->Int->Prop)(g:Int->Int->V):rI C g=rI' C g:=funext fun x=>funext fun y=>ceq fun _ _=>two_iff
noncomputable def rU' (g:Int->V):V->Hp->VK->Prop:=fun x H Q=>onI x fun i=>Q (g i) H
theorem vL (g:Int->V):rU g=rU' g:=funext fun x=>ceq fun _ _=>kK
def eqP (x y:V)(P:Bool->Prop):Prop:=match x,y with
 | .int i,.int j=>P (decide (i=j))
 | .str i,.str j=>P (decide (i=j))
 | .bl i,.bl j=>P (decide (i=j))
 | x,y=>jD x y=true/\P (decide (x=y))
theorem nv {x y:V}{P:Bool->Prop}:(jD x y=true/\P (decide (x=y)))↔eqP x y P:=by
 cases x<;>cases y<;>simp [eqP,jD]
theorem rq (i j:Int)(P:Bool->Prop):eqP (.int i) (.int j) P=P (decide (i=j)):=rfl
theorem rz (i j:Str)(P:Bool->Prop):eqP (.str i) (.str j) P=P (decide (i=j)):=rfl
theorem uG (i j:Bool)(P:Bool->Prop):eqP (.bl i) (.bl j) P=P (decide (i=j)):=rfl
noncomputable def uH:R2:=fun x y H Q=>eqP x y fun b=>Q (.bl b) H
theorem uI:rEq=uH:=funext fun x=>funext fun y=>ceq fun H Q=>nv (P:=fun b=>Q (.bl b) H)
noncomputable def j5 (p:Int->Int->Prop)[d:∀i j,Decidable (p i j)](ta tb:TE):TT:=fun σ H Q=>ta σ H fun x H1=>tb σ H1 fun y H2=>onI x fun i=>onI y fun j=>if p i j then Q true H2 else Q false H2
theorem pW {p:Prop}[Decidable p]{Q:Bool->Prop}:Q (decide p)=if p then Q true else Q false:=by
 by_cases h:p
 ·rw [if_pos h,decide_eq_true h]
 ·rw [if_neg h,decide_eq_false h]
theorem ny (p:Int->Int->Prop)[d:∀i j,Decidable (p i j)](ta tb:TE):iV (tOp (rI0 fun i j=>.bl (decide (p i j))) ta tb)=j5 p ta tb:=by
 funext σ H Q
 refine congrArg (ta σ H) (funext fun x=>funext fun H1=>congrArg (tb σ H1) (ceq fun y H2=>?_))
 cases x<;>cases y<;>simp [rI0,onI,pW (Q:=fun b=>Q b H2)]
theorem uJ (ta tb:TE):iV (tOp (rI0 fun i j=>.bl (decide (i < j))) ta tb)=j5 (fun i j=>i < j) ta tb:=ny _ ta tb
theorem uK (ta tb:TE):iV (tOp (rI0 fun i j=>.bl (decide (j<=i))) ta tb)=j5 (fun i j=>j<=i) ta tb:=ny _ ta tb
def eqT (x y:V)(Y N:Prop):Prop:=match x,y with
 | .int i,.int j=>if i=j then Y else N
 | .str i,.str j=>if i=j then Y else N
 | .bl i,.bl j=>if i=j then Y else N
 | x,y=>jD x y=true/\if x=y then Y else N
theorem rA (i j:Int)(Y N:Prop):eqT (.int i) (.int j) Y N=if i=j then Y else N:=rfl
theorem rB (i j:Str)(Y N:Prop):eqT (.str i) (.str j) Y N=if i=j then Y else N:=rfl
theorem uL (i j:Bool)(Y N:Prop):eqT (.bl i) (.bl j) Y N=if i=j then Y else N:=rfl
theorem nA {x y:V}{Q:Bool->Prop}:(jD x y=true/\Q (decide (x=y)))↔eqT x y (Q true) (Q false):=by
 rw [pW (Q:=Q)]
 cases x<;>cases y<;>simp [eqT,jD]
def neT (x y:V)(Y N:Prop):Prop:=match x,y with
 | .int i,.int j=>if ¬i=j then Y else N
 | .str i,.str j=>if ¬i=j then Y else N
 | .bl i,.bl j=>if ¬i=j then Y else N
 | x,y=>jD x y=true/\if ¬x=y then Y else N
theorem rC (i j:Int)(Y N:Prop):neT (.int i) (.int j) Y N=if ¬i=j then Y else N:=rfl
theorem rD (i j:Str)(Y N:Prop):neT (.str i) (.str j) Y N=if ¬i=j then Y else N:=rfl
theorem uM (i j:Bool)(Y N:Prop):neT (.bl i) (.bl j) Y N=if ¬i=j then Y else N:=rfl
theorem rE {x y:V}{Y N:Prop}:eqT x y N Y↔neT x y Y N:=by
 have h:∀(p:Prop) [Decidable p],(if p then N else Y)=if ¬p then Y else N:=fun p _=>by by_cases e:p<;>simp [e]
 cases x<;>cases y<;>first | exact iff_of_eq (h _) | exact and_congr Iff.rfl (iff_of_eq (h _))
noncomputable def uN (ta tb:TE):TT:=fun σ H Q=>ta σ H fun x H1=>tb σ H1 fun y H2=>eqT x y (Q true H2) (Q false H2)
noncomputable def uO (ta tb:TE):TT:=fun σ H Q=>ta σ H fun x H1=>tb σ H1 fun y H2=>neT x y (Q true H2) (Q false H2)
theorem rF (ta tb:TE):iV (tOp rEq ta tb)=uN ta tb:=by
 funext σ H Q
 refine congrArg (ta σ H) (funext fun x=>funext fun H1=>congrArg (tb σ H1) (ceq fun y H2=>?_))
 refine Iff.trans ?_ (nA (Q:=fun b=>Q b H2))
 exact ⟨fun ⟨a,k,e,q⟩=>⟨a,by cases e;exact q⟩,fun ⟨a,q⟩=>⟨a,_,rfl,q⟩⟩
theorem rG (ta tb:TE):iV (tOp rNe ta tb)=uO ta tb:=by
 funext σ H Q
 refine congrArg (ta σ H) (funext fun x=>funext fun H1=>congrArg (tb σ H1) (ceq fun y H2=>?_))
 refine Iff.trans (Iff.trans ?_ (nA (Q:=fun b=>Q (!b) H2))) rE
 exact ⟨fun ⟨a,k,e,q⟩=>⟨a,by cases e;exact q⟩,fun ⟨a,q⟩=>⟨a,_,rfl,q⟩⟩
noncomputable def nB (K:JA)(n:Nat)(t:TGs):TG:=fun v σ H Q=>onR v fun a=>∃xs,SqT K H a xs/\xs.length=n/\t xs σ H Q
theorem lz {x:V}{γ:Type}{P:Addr->γ->Prop}:(∃a z,x=.ref a/\P a z)↔onR x fun a=>∃z,P a z:=by cases x<;>simp [onR]
theorem rH (K:JA)(n:Nat)(t:TGs):u9 K n t=nB K n t:=funext fun v=>funext fun σ=>ceq fun _ _=>lz
noncomputable def uP (K:JA)(n:Nat)(t:TGs):TG:=fun v σ H Q=>onR v fun a=>∃xs,SqL K H a xs/\xs.length=n/\t xs σ H Q
noncomputable def ml (t:TG)(u:TGs):TGs:=fun vs σ H Q=>onC vs fun v r=>t v σ H fun σ' H'=>u r σ' H' Q
theorem pX (t:TG)(u:TGs):sP t u=ml t u:=funext fun v=>funext fun σ=>ceq fun _ _=>rm
noncomputable def pY:TGs:=fun vs σ H Q=>onN vs (Q σ H)
theorem rJ:u7=pY:=funext fun v=>funext fun σ=>ceq fun _ _=>rn
noncomputable def j6 (K:JA):R2:=fun x y H Q=>onR x fun p=>onI y fun i=>∃xs,SqL K H p xs/\∃v,atI xs i=some v/\Q v H
theorem rK (K:JA):ud K=j6 K:=funext fun x=>funext fun y=>ceq fun H Q=>⟨fun ⟨p,xs,i,v,e,f,h1,h2,h3⟩=>by subst e f;exact ⟨xs,h1,v,h2,h3⟩,fun h=>let ⟨p,e,h⟩:=gn h;let ⟨i,f,xs,h1,v,h2,h3⟩:=i8 h;⟨p,xs,i,v,e,f,h1,h2,h3⟩⟩
noncomputable def ja (K:JA):R2:=fun x y H Q=>onR x fun p=>onI y fun i=>∃xs,SqT K H p xs/\∃v,atI xs i=some v/\Q v H
theorem rL (K:JA):ue K=ja K:=funext fun x=>funext fun y=>ceq fun H Q=>⟨fun ⟨p,xs,i,v,e,f,h1,h2,h3⟩=>by subst e f;exact ⟨xs,h1,v,h2,h3⟩,fun h=>let ⟨p,e,h⟩:=gn h;let ⟨i,f,xs,h1,v,h2,h3⟩:=i8 h;⟨p,xs,i,v,e,f,h1,h2,h3⟩⟩
noncomputable def mm (ta tb:TE):TE:=fun σ H Q=>ta σ H fun x H1=>onB x fun c=>if c=true then tb σ H1 Q else Q (.bl false) H1
theorem pZ (ta tb:TE):sI ta tb=mm ta tb:=funext fun σ=>funext fun H=>funext fun Q=>congrArg (ta σ H) (ceq fun _ _=>nu)
noncomputable def p0 (K:JA)(ta:TE)(f:Str):TE:=fun σ H Q=>ta σ H fun x H1=>onR x fun a=>∃C dx fs,H1 a=some (.ins C dx fs)/\Cls K C/\bI K C f/\∃v,fs.lookup f=some v/\Q v H1
theorem rM (K:JA)(ta:TE)(f:Str):vg K ta f=p0 K ta f:=funext fun σ=>funext fun H=>funext fun Q=>congrArg (ta σ H) (ceq fun x H1=>by cases x<;>simp [onR])
noncomputable def p8 (K:JA)(ta tv:TE)(f:Str):TS:=fun D σ H=>tv σ H fun y H1=>ta σ H1 fun x H2=>onR x fun a=>∃C dx fs,H2 a=some (.ins C dx fs)/\Cls K C/\bI K C f/\fs.length < 1000/\D.nx σ (upd H2 a (.ins C dx (bQ f y fs)))
theorem rN (K:JA)(ta tv:TE)(f:Str):vh K ta tv f=p8 K ta tv f:=funext fun D=>funext fun σ=>funext fun H=>congrArg (tv σ H) (funext fun y=>funext fun H1=>congrArg (ta σ H1) (ceq fun x H2=>by cases x<;>simp [onR]))
noncomputable def kM (C:Addr)(m:Str)(sp:Sp)(dvs:List V)(E:XK)(ta:TE)(t:TA):TE:=fun σ H Q=>ta σ H fun x H1=>onR x fun a=>∃dx fs,H1 a=some (.ins C dx fs)/\fs.lookup m=none/\t σ H1 fun vs H2=>sp (.ref a::(vs++dvs)) H2 Q E
theorem lA (C:Addr)(m:Str)(sp:Sp)(dvs:List V)(E:XK)(ta:TE)(t:TA):kZ C m sp dvs E ta t=kM C m sp dvs E ta t:=funext fun σ=>funext fun H=>funext fun Q=>congrArg (ta σ H) (ceq fun x H1=>by cases x<;>simp [onR])
noncomputable def bY:V->List V->Hp->VK->Prop:=fun x vs H Q=>onR x fun l=>onC vs fun y r=>onN r (∃xs,H l=some (.lst xs)/\xs.length < sizeLine/\Q .non (upd H l (.lst (xs++[y]))))
theorem mn:mX=bY:=funext fun x=>funext fun vs=>ceq fun H Q=>⟨fun ⟨l,xs,y,e,f,h⟩=>by subst e f;exact ⟨xs,h⟩,fun h=>by
 obtain ⟨l,rfl,z⟩:=gn h
 match vs,z with
 | [v],⟨xs,z⟩=>exact ⟨l,xs,v,rfl,rfl,z⟩⟩
noncomputable def mq (t:TE):TO:=fun σ H Q=>t σ H fun x H1=>onI x fun i=>Q (some i) H1
theorem p9 (t:TE):tf t=mq t:=funext fun σ=>funext fun H=>funext fun Q=>congrArg (t σ H) (ceq fun _ _=>kK)
noncomputable def mr (K:JA)(tl:TE):TI:=fun σ H R=>tl σ H fun x H1=>onR x fun a=>(∃xs,SqL K H1 a xs)/\R (Itl K a) H1
theorem qa (K:JA)(tl:TE):sR K tl=mr K tl:=funext fun σ=>funext fun H=>funext fun R=>congrArg (tl σ H) (ceq fun _ _=>kL)
noncomputable def mv (ta:TA):TI:=fun σ H R=>ta σ H fun vs H1=>onC vs fun v r=>onN r (onI v fun j=>-(2 ^ 62)<=j/\j < 2 ^ 62/\R (Itr 0 j.toNat) H1)
theorem qb (ta:TA):sS ta=mv ta:=funext fun σ=>funext fun H=>funext fun R=>congrArg (ta σ H) (ceq fun vs H1=>by
 rcases vs with _ | ⟨y,_ | ⟨z,vs⟩⟩<;>(try cases y)<;>simp [onI,onC,onN])
noncomputable def rO (K:JA):List V->Hp->VK->Prop:=fun vs H Q=>onC vs fun v r=>onN r (onR v fun p=>∃ys,(SqL K H p ys\/SqT K H p ys)/\Q (.int ys.length) H)
theorem rP (K:JA)(t:TA):tCB (fun xs H Q=>∃p ys,xs=[.ref p]/\(SqL K H p ys\/SqT K H p ys)/\Q (.int ys.length) H) t=tCB (rO K) t:=by
 refine congrArg (fun r=>tCB r t) (funext fun vs=>ceq fun H Q=>?_)
 rcases vs with _ | ⟨y,_ | ⟨z,vs⟩⟩<;>(try cases y)<;>simp [rO,onR,onC,onN]
noncomputable def gK (K:JA):List V->Hp->VK->Prop:=fun vs H Q=>onC vs fun v r=>onN r (onR v fun p=>∃ys,(SqL K H p ys\/SqT K H p ys)/\∀l,H l=none->Q (.ref l) (upd H l (.lst ys)))
theorem mw (K:JA)(t:TA):tCB (fun xs H Q=>∃p ys,xs=[.ref p]/\(SqL K H p ys\/SqT K H p ys)/\∀l,H l=none->Q (.ref l) (upd H l (.lst ys))) t=tCB (gK K) t:=by
 refine congrArg (fun r=>tCB r t) (funext fun vs=>ceq fun H Q=>?_)
 rcases vs with _ | ⟨y,_ | ⟨z,vs⟩⟩<;>(try cases y)<;>simp [gK,onR,onC,onN]
noncomputable def mx:V->V->V->Hp->(Hp->Prop)->Prop:=fun o i v H Q=>onR o fun p=>onI i fun k=>∃xs,H p=some (.lst xs)/\∃j,ixN xs.length k=some j/\Q (upd H p (.lst (xs.set j v)))
theorem qc:tj=mx:=funext fun o=>funext fun i=>funext fun v=>ceq fun H Q=>⟨fun ⟨p,xs,k,j,e,f,h1,h2,h3⟩=>by subst e f;exact ⟨xs,h1,j,h2,h3⟩,fun h=>let ⟨p,e,h⟩:=gn h;let ⟨k,f,xs,h1,j,h2,h3⟩:=i8 h;⟨p,xs,k,j,e,f,h1,h2,h3⟩⟩
theorem wb {p:Prop}[Decidable p]{A B:Prop}(h:if ¬p then A else B):if (!decide p)=true then A else B:=by
 by_cases e:p
 ·rw [if_neg (fun z=>z e)] at h;rw [if_neg (by simp [e])];exact h
 ·rw [if_pos e] at h;rw [if_pos (by simp [e])];exact h
noncomputable def tU1 (f:Int->V)(ta:TE):TE:=fun σ H Q=>ta σ H fun x H1=>onI x fun i=>Q (f i) H1
theorem qd {k:Int}(hk:0 < k)(ta:TE)(g:Int->Int->V):tOp (rI (fun _ j=>0 < j) g) ta (tC (.int k))=tU1 (fun i=>g i k) ta:=funext fun σ=>funext fun H=>funext fun Q=>congrArg (ta σ H) (ceq fun x H1=>by
 cases x<;>simp [rI,tC,onI,hk])
theorem qe {k:Int}(h1:0 < k)(h2:k < 1073741824)(ta:TE)(g:Int->Int->V):tOp (rI oW g) ta (tC (.int k))=tU1 (fun i=>g i k) ta:=funext fun σ=>funext fun H=>funext fun Q=>congrArg (ta σ H) (ceq fun x H1=>by
 have hc:∀i,oW i k:=fun i=>by unfold oW;omega
 cases x<;>simp [rI,tC,onI,hc])
theorem qf {k:Int}(h1:-4294967296 < k)(h2:k < 4294967296)(ta:TE)(g:Int->Int->V):tOp (rI iU g) ta (tC (.int k))=tU1 (fun i=>g i k) ta:=funext fun σ=>funext fun H=>funext fun Q=>congrArg (ta σ H) (ceq fun x H1=>by
 have hc:∀i,iU i k:=fun i=>by unfold iU;omega
 cases x<;>simp [rI,tC,onI,hc])
theorem oy {k:Int}(h1:-4294967296 < k)(h2:k < 4294967296)(tb:TE)(g:Int->Int->V):tOp (rI iU g) (tC (.int k)) tb=tU1 (fun i=>g k i) tb:=funext fun σ=>funext fun H=>funext fun Q=>congrArg (tb σ H) (ceq fun x H1=>by
 have hc:∀i,iU k i:=fun i=>by unfold iU;omega
 cases x<;>simp [rI,onI,hc])
noncomputable def qg (K:JA):V->Option Int->Option Int->Hp->VK->Prop:=fun x lo hi H Q=>onR x fun a=>∃xs,SqL K H a xs/\∀p,H p=none->Q (.ref p) (upd H p (.lst (k8 xs lo hi)))
theorem rQ (K:JA):vn K=qg K:=funext fun x=>funext fun lo=>funext fun hi=>ceq fun _ _=>lz
noncomputable def qh (K:JA)(neg:Bool):R2:=fun x y H Q=>onR y fun p=>∃xs,(SqL K H p xs\/SqT K H p xs)/\aQ x=true/\xs.all aQ=true/\Q (.bl (if neg=true then !inV x xs else inV x xs)) H
theorem qi (K:JA)(neg:Bool):rIn K neg=qh K neg:=funext fun x=>funext fun y=>ceq fun H Q=>by cases y<;>simp [rIn,qh,onR]
theorem vM {b c:Bool}:(if true=true then b else c)=b:=rfl
theorem vN {b c:Bool}:(if false=true then b else c)=c:=rfl
noncomputable def my (ta:TA):TI:=fun σ H R=>ta σ H fun vs H1=>onC vs fun v r=>onC r fun u r2=>onN r2 (onI v fun i=>onI u fun j=>(-(2 ^ 62)<=i/\i < 2 ^ 62/\-(2 ^ 62)<=j/\j < 2 ^ 62)/\R (Itr i (j - i).toNat) H1)
theorem oz {vs:List V}{P:Int->Int->Prop}:(∃i j,vs=[.int i,.int j]/\P i j)↔onC vs fun v r=>onC r fun u r2=>onN r2 (onI v fun i=>onI u fun j=>P i j):=by
 constructor
 ·rintro ⟨i,j,rfl,h⟩;exact h
 ·intro h
  rcases vs with _ | ⟨y,_ | ⟨z,_ | ⟨u,vs⟩⟩⟩
  ·exact h.elim
  ·exact h.elim
  ·cases y<;>cases z<;>first | exact ⟨_,_,rfl,h⟩ | exact h.elim
  ·exact h.elim
theorem qj (ta:TA):sU ta=my ta:=funext fun σ=>funext fun H=>funext fun R=>congrArg (ta σ H) (ceq fun vs H1=>oz)
noncomputable def mz (K:JA)(te:TE):TI:=fun σ H R=>te σ H fun x H1=>onR x fun a=>(∃xs,SqL K H1 a xs)/\R (Ite K a) H1
theorem qk (K:JA)(te:TE):tu K te=mz K te:=funext fun σ=>funext fun H=>funext fun R=>congrArg (te σ H) (ceq fun _ _=>kL)
noncomputable def nC:V->List V->Hp->VK->Prop:=fun x vs H Q=>onR x fun l=>onN vs (∃xs,H l=some (.lst xs)/\∃y,xs[xs.length - 1]?=some y/\Q y (upd H l (.lst xs.dropLast)))
theorem rR:uh=nC:=funext fun x=>funext fun vs=>ceq fun H Q=>by cases vs<;>cases x<;>simp [uh,nC,onR,onN]
def rS (v:V)(P:Int->Prop):Prop:=match v with | .int i=>P i | .bl k=>P (if k=true then 1 else 0) | _=>False
theorem ql (i:Int)(P:Int->Prop):rS (.int i) P=P i:=rfl
theorem rT (k:Bool)(P:Int->Prop):rS (.bl k) P=P (if k=true then 1 else 0):=rfl
noncomputable def nD:List V->Hp->VK->Prop:=fun vs H Q=>onC vs fun v r=>onN r (rS v fun i=>Q (.int i) H)
theorem qm (t:TA):tCB (fun xs H Q=>(∃i,xs=[.int i]/\Q (.int i) H)\/∃k,xs=[.bl k]/\Q (.int (if k=true then 1 else 0)) H) t=tCB nD t:=by
 refine congrArg (fun r=>tCB r t) (funext fun vs=>ceq fun H Q=>?_)
 rcases vs with _ | ⟨y,_ | ⟨z,vs⟩⟩<;>(try cases y)<;>simp [nD,onC,onN,rS]
end
noncomputable def nE (K:JA):R2:=fun x y H Q=>onR x fun a=>onR y fun b=>∃xs,SqL K H a xs/\∃ys,SqL K H b ys/\xs.all aQ=true/\ys.all aQ=true/\Q (.bl (eqL xs ys)) H
theorem rV (K:JA):uw K=nE K:=funext fun x=>funext fun y=>ceq fun H Q=>by cases x<;>cases y<;>simp [uw,nE,onR]
theorem rW {xs:List V}:eqL xs []=decide (xs=[]):=by cases xs<;>simp [eqL]
theorem vO {b:Bool}{A B:Prop}(h:if b=false then A else B):if (!b)=true then A else B:=by cases b<;>exact h
def DI (K:JA)(x:Str)(st:Stmt):Prop:=∃f fd,W.nsIn K mainGlobals x=some (some (.ref f))/\Fun K x x st f fd
theorem DI.mk {K:JA}{x:Str}{st:Stmt}{f:Addr}{oc:Value}{od an:Option Addr}{osl:Array (Option Value)}{kV doc pm cdv ct:Value}(a:W.nsIn K mainGlobals x=some (some (.ref f)))(l:K.lookup f=some ⟨oc,od,.func (W.fnOf x x (bw st) (a8 st) (ao st) .none kV doc pm an cdv ct),osl⟩)
  (c:W.codeIn K cdv x=true) (k:W.keepIn K (.ref f)=true):DI K x st:=⟨f,_,a,me l c k⟩
def MI (K:JA)(C:Addr)(m q:Str)(st:Stmt):Prop:=∃f fd,lY K C m f/\Fun K m q st f fd
theorem MI.mk {K:JA}{C:Addr}{m q:Str}{st:Stmt}{f:Addr}{oc:Value}{od an:Option Addr}{osl:Array (Option Value)}{kV doc pm cdv ct:Value}(a:W.findIn K (.ref C) m=some (some (.ref f)))(fn:W.isFn K (.ref f)=true)(l:K.lookup f=some ⟨oc,od,.func (W.fnOf m q (bw st) (a8 st) (ao st) .none kV doc pm an cdv ct),osl⟩)
  (c:W.codeIn K cdv q=true) (k:W.keepIn K (.ref f)=true):MI K C m q st:=⟨f,_,⟨a,fn,k⟩,me l c k⟩
def II (K:JA)(C:Addr)(q:Str)(st:Stmt):Prop:=∃f fd,Mk K C f/\Fun K "__init__" q st f fd
theorem II.mk {K:JA}{C:Addr}{q:Str}{st:Stmt}{f:Addr}{oc:Value}{od an:Option Addr}{osl:Array (Option Value)}{kV doc pm cdv ct:Value}(a:W.findIn K (.ref C) "__init__"=some (some (.ref f)))(fn:W.isFn K (.ref f)=true)(mk:W.makesIn K C=true)(kc:W.keepIn K (.ref C)=true)(l:K.lookup f=some ⟨oc,od,.func (W.fnOf "__init__" q (bw st) (a8 st) (ao st) .none kV doc pm an cdv ct),osl⟩)
  (c:W.codeIn K cdv q=true) (k:W.keepIn K (.ref f)=true):II K C q st:=⟨f,_,⟨mk,a,fn,kc⟩,me l c k⟩
def C0I (K:JA)(C0:Addr):Prop:=∃(c0 c2:Value) (dd0 d2:Option Addr) (cd0:ClassData) (sl0 sl2:Array (Option Value)) (es0:Array DictEntry) (ep0:Nat),K.lookup C0=some ⟨c0,dd0,.cls cd0,sl0⟩/\K.lookup cd0.ns=some ⟨c2,d2,.dict es0 ep0,sl2⟩/\fH es0=true/\(quietNames.all fun n=>(nsFind es0 n).isNone)=true
theorem C0I.mk {K:JA}{C0 N0:Addr}{c0 c2:Value}{dd0 d2:Option Addr}{cd0:ClassData}{sl0 sl2:Array (Option Value)}{es0:Array DictEntry}{ep0:Nat}(l0:K.lookup C0=some ⟨c0,dd0,.cls cd0,sl0⟩)(e0:cd0.ns=N0)(lN0:K.lookup N0=some ⟨c2,d2,.dict es0 ep0,sl2⟩)(kN0:fH es0=true)(iN0:(quietNames.all fun n=>(nsFind es0 n).isNone)=true):C0I K C0:=
 ⟨c0,c2,dd0,d2,cd0,sl0,sl2,es0,ep0,l0,e0▸lN0,kN0,iN0⟩
def XI (K:JA)(C0 C:Addr):Prop:=C0I K C0->ExI K C
theorem XI.mk {K:JA}{C N C0:Addr}{nm q:Str}{bs:List Value}{hdct:Bool}{sn:List Str}{sub:List Value}{ab:Bool}{col:Option Bool}{dd:Option Addr}{k0 k1 k2 k3 k5:Option Value}{c1:Value}{d1:Option Addr}{es:Array DictEntry}{ep:Nat}{sl1:Array (Option Value)}
  (lC:K.lookup C=some (excClassObj nm q C N bs [.ref C0,.type "ValueError",.type "Exception",.type "BaseException",.type "object"] hdct sn sub ab col dd k0 k1 k2 k3 k5 "ValueError.__new__"))
  (lN:K.lookup N=some ⟨c1,d1,.dict es ep,sl1⟩) (kN:fH es=true) (iN:(quietNames.all fun n=>(nsFind es n).isNone)=true) (ca:W.findIn K (.ref C) "__class__"=some (some (.builtin "object.__class__"))) (mo:W.mroIn K C (.type "object")=some true):XI K C0 C:=by
 rintro ⟨c0,c2,dd0,d2,cd0,sl0,sl2,es0,ep0,l0,lN0,kN0,iN0⟩
 exact ⟨ur lC lN kN iN l0 rfl lN0 kN0 iN0,ca,mo⟩
def NI (K:JA)(x:Str)(a:Addr):Prop:=W.nsIn K mainGlobals x=some (some (.ref a))
def KI (K:JA)(x:Str)(v:Int):Prop:=∃tk,W.nsIn K mainGlobals x=some (some (.int v tk))
theorem KI.mk {K:JA}{x:Str}{v:Int}{tk:Tok}(h:W.nsIn K mainGlobals x=some (some (.int v tk))):KI K x v:=⟨tk,h⟩
theorem KI.txt {K:JA}{h:Heap}{mg:Str->Option Value}{x:Str}{v:Int}(X:K.In h)(G:h.Ns mainGlobals mg)(k:KI K x v):∃u,mg x=some u/\aY (.int v) u:=let ⟨_,k⟩:=k;⟨_,W.mg_of X G k,⟨_,rfl⟩⟩
theorem bc {H H1:Hp}{p:Addr}{o:HO}(e:upd H p o=H1)(h:H p=none):au H H1:=e▸(au.refl H).lay h
theorem aJ {H H1:Hp}{p:Addr}{o:HO}(e:upd H p o=H1):H1 p=some o:=e▸ae
theorem seg {X:Cx}{b:List Stmt}{R:TS->Prop}(j:Nat){t:TS}(h:PSs X (b.drop j) t)(k:∀t',PSs X (b.drop j) t'->t'=t->∃u,PSs X b u/\R u):∃u,PSs X b u/\R u:=k t h rfl
theorem dY {t t':TS}(e:t=t'){D:iD}{σ:St}{H:Hp}(h:t' D σ H):t D σ H:=e▸h
theorem bN {N P:List Str}{sc:Scope}(kind:sc.kind=.function:=by rfl)(co:sc.isCoroutine=false:=by rfl)(gen:sc.isGenerator=false:=by rfl)(nd:N.Nodup:=by decide +kernel)(pre:N.take P.length=P:=by rfl)(par:∀x∈P,sc.names.lookup x=some .local\/sc.names.lookup x=some .cell:=by decide +kernel)(nofree:∀y∈sc.names,y.2≠.free:=by decide +kernel):aN N P sc:=⟨kind,co,gen,nd,pre,par,nofree⟩
section
variable {K:JA}{x qual:Str}{st:Stmt}{f:Addr}{fd:FuncData}{ps:List Str}
theorem Fun.b0 (F:Fun K x qual st f fd)(hl:ps.length=0:=by rfl)(h:∀(kV doc pm:Value) (an:Option Addr) (cdv ct:Value),bindArgs (W.fnOf x qual (bw st) (a8 st) (ao st) .none kV doc pm an cdv ct) ⟨[],[]⟩=pure (ps.zip []):=by intros;rfl):bF K fd ps []:=F.binds fun kV doc pm an cdv ct us e=>match us,e.trans hl with | [],_=>h kV doc pm an cdv ct
theorem Fun.b1 (F:Fun K x qual st f fd)(hl:ps.length=1:=by rfl)(h:∀(kV doc pm:Value) (an:Option Addr) (cdv ct:Value) (a0:Value), bindArgs (W.fnOf x qual (bw st) (a8 st) (ao st) .none kV doc pm an cdv ct) ⟨[a0],[]⟩=pure (ps.zip [a0]):=by intros;rfl):bF K fd ps []:=F.binds fun kV doc pm an cdv ct us e=>match us,e.trans hl with | [a0],_=>h kV doc pm an cdv ct a0
theorem Fun.b2 (F:Fun K x qual st f fd)(hl:ps.length=2:=by rfl)(h:∀(kV doc pm:Value) (an:Option Addr) (cdv ct:Value) (a0 a1:Value), bindArgs (W.fnOf x qual (bw st) (a8 st) (ao st) .none kV doc pm an cdv ct) ⟨[a0,a1],[]⟩=pure (ps.zip [a0,a1]):=by intros;rfl):bF K fd ps []:=F.binds fun kV doc pm an cdv ct us e=>match us,e.trans hl with | [a0,a1],_=>h kV doc pm an cdv ct a0 a1
theorem Fun.b3 (F:Fun K x qual st f fd)(hl:ps.length=3:=by rfl)(h:∀(kV doc pm:Value) (an:Option Addr) (cdv ct:Value) (a0 a1 a2:Value), bindArgs (W.fnOf x qual (bw st) (a8 st) (ao st) .none kV doc pm an cdv ct) ⟨[a0,a1,a2],[]⟩=pure (ps.zip [a0,a1,a2]):=by intros;rfl):bF K fd ps []:=F.binds fun kV doc pm an cdv ct us e=>match us,e.trans hl with | [a0,a1,a2],_=>h kV doc pm an cdv ct a0 a1 a2
theorem Fun.b4 (F:Fun K x qual st f fd)(hl:ps.length=4:=by rfl)(h:∀(kV doc pm:Value) (an:Option Addr) (cdv ct:Value) (a0 a1 a2 a3:Value), bindArgs (W.fnOf x qual (bw st) (a8 st) (ao st) .none kV doc pm an cdv ct) ⟨[a0,a1,a2,a3],[]⟩=pure (ps.zip [a0,a1,a2,a3]):=by intros;rfl):bF K fd ps []:=F.binds fun kV doc pm an cdv ct us e=>match us,e.trans hl with | [a0,a1,a2,a3],_=>h kV doc pm an cdv ct a0 a1 a2 a3
theorem Fun.b5 (F:Fun K x qual st f fd)(hl:ps.length=5:=by rfl)(h:∀(kV doc pm:Value) (an:Option Addr) (cdv ct:Value) (a0 a1 a2 a3 a4:Value), bindArgs (W.fnOf x qual (bw st) (a8 st) (ao st) .none kV doc pm an cdv ct) ⟨[a0,a1,a2,a3,a4],[]⟩=pure (ps.zip [a0,a1,a2,a3,a4]):=by intros;rfl):bF K fd ps []:=F.binds fun kV doc pm an cdv ct us e=>match us,e.trans hl with | [a0,a1,a2,a3,a4],_=>h kV doc pm an cdv ct a0 a1 a2 a3 a4
theorem Fun.b6 (F:Fun K x qual st f fd)(hl:ps.length=6:=by rfl)(h:∀(kV doc pm:Value) (an:Option Addr) (cdv ct:Value) (a0 a1 a2 a3 a4 a5:Value), bindArgs (W.fnOf x qual (bw st) (a8 st) (ao st) .none kV doc pm an cdv ct) ⟨[a0,a1,a2,a3,a4,a5],[]⟩=pure (ps.zip [a0,a1,a2,a3,a4,a5]):=by intros;rfl):bF K fd ps []:=F.binds fun kV doc pm an cdv ct us e=>match us,e.trans hl with | [a0,a1,a2,a3,a4,a5],_=>h kV doc pm an cdv ct a0 a1 a2 a3 a4 a5
end
theorem bp.dn {j k:Nat}{A:Around}(r:bp k A)(h:j<=k:=by decide):bp j A:=r.mono h
theorem ak {X:Cx}{a b:Expr}{ta tb:TE}{pos:Pos}{r:R2}(hr:IxR X r)(ha:PE X a ta)(hb:PE X b tb)(hs:mV b:=by intro _ _;rfl):PE X (.Subscript a b pos) (tOp r ta tb):=vk hr ha hb hs
theorem orL {α:Type}{a b:α}{p:Prop}(h:a=b:=by rfl):a=b\/p:=.inl h
termination_by rs.length
decreasing_by all_goals (subst_vars;simp)
theorem wc {A B:Prop}(h:B):if true=false then A else B:=by rw [if_neg (by decide)];exact h
theorem we {A B:Prop}(h:A):if false=false then A else B:=by rw [if_pos rfl];exact h
theorem lB {lo:Int}{n:Nat}{tc:TT}{te:TE}{cm:List (Option Nat)}{σ:St}{H:Hp}{Q:VK}(Pv:Nat->List V->Hp->Prop)(h0:Pv 0 [] H){j:Nat}(hj:(bf cm σ)[j]?=some none)
  (hs:∀i acc H,i < n->Pv i acc H->acc.length < sizeLine/\∀M:List V->Hp->Prop,(∀acc' H',Pv (i+1) acc' H'->M acc' H')->tc ((bf cm σ).set j (some (.int (lo+i)))) H fun b H3=>if b=true then te ((bf cm σ).set j (some (.int (lo+i)))) H3 fun v H4=>M (acc++[v]) H4 else M acc H3)
  (hd:∀acc H,Pv n acc H->∀p,H p=none->Q (.ref p) (upd H p (.lst acc))):iZ (Itr lo n) (dz j) tc te cm σ Q H:=by
 refine kE n Pv h0 (fun i _ _ hi _=>hi) (fun _ _ _=>Nat.le_refl _) (fun i acc H hi p=>⟨(hs i acc H hi p).1,fun x H' y M hM=>?_⟩) hd
 obtain ⟨e,y⟩:=y
 subst e y
 exact ⟨mh hj,(hs i acc H' hi p).2 M hM⟩
section
variable (P:Program)(w:World)(K:JA)(mg:Str->Option Value)(base:Heap)(CX:CXT)(k:Nat)
def KD (x:Str)(sp:Sp):Prop:=∃f fd ps,mg x=some (.ref f)/\W.keepIn K (.ref f)=true/\bF K fd ps []/\c5 P w K mg base CX k f fd ps sp
def KM (C:Addr)(m:Str)(sp:Sp):Prop:=∃f fd ps,Cls K C/\lY K C m f/\bF K fd ps []/\c5 P w K mg base CX k f fd ps sp
def KN (C:Addr)(sp:Sp):Prop:=∃f fd ps,Mk K C f/\bF K fd ps []/\c5 P w K mg base CX k f fd ps sp
def FF (x q:Str)(st:Stmt)(ps:List Str)(sp:Sp):Prop:=∀f fd,Fun K x q st f fd->c5 P w K mg base CX k f fd ps sp
end
section
variable {P:Program}{w:World}{K:JA}{mg:Str->Option Value}{base:Heap}{CX:CXT}{k:Nat}{x q m:Str}{st:Stmt}{ps N:List Str}{sp:Sp}{f C:Addr}{fd:FuncData}
theorem KD.mk (b:mg x=some (.ref f))(F:Fun K x q st f fd)(c:bF K fd ps [])(t:FF P w K mg base CX k x q st ps sp):KD P w K mg base CX k x sp:=⟨f,fd,ps,b,F.kp,c,t f fd F⟩
theorem KM.mk (d:Cls K C)(b:lY K C m f)(F:Fun K m q st f fd)(c:bF K fd ps [])(t:FF P w K mg base CX k m q st ps sp):KM P w K mg base CX k C m sp:=⟨f,fd,ps,d,b,c,t f fd F⟩
theorem KN.mk (b:Mk K C f)(F:Fun K "__init__" q st f fd)(c:bF K fd ps [])(t:FF P w K mg base CX k "__init__" q st ps sp):KN P w K mg base CX k C sp:=⟨f,fd,ps,b,c,t f fd F⟩
theorem fk0 (S:aN N ps (ao st))(h:∀vs H Q E,sp vs H Q E->vs.length=ps.length/\∀(cdv:Value) (A:Around) (outer:List Env) (s:Shared) (f:Addr),bp k (A.deeper (envOfC q (ao st) s.heap.objs.size f cdv))->
   ∃t,PSs (iX CX0 P w K mg base N q (ao st) f cdv A outer s H E).nox (a8 st) t/\t {nx:=fun _ H'=>Q .non H',rt:=Q} (eO N vs) H):FF P w K mg base CX0 (k+1) x q st ps sp:=
 fun f _ F=>F.ok S (fun vs H Q E y=>(h vs H Q E y).1) fun cdv A outer s H vs Q E hr y=>(h vs H Q E y).2 cdv A outer s f hr
theorem fkF (S:aN N ps (ao st))(h:∀vs H Q E,sp vs H Q E->vs.length=ps.length/\∀(cdv:Value) (A:Around) (outer:List Env) (s:Shared) (f:Addr),bp k (A.deeper (envOfC q (ao st) s.heap.objs.size f cdv))->
   ∃t,PSs (cxF P w K mg base N q (ao st) f cdv A outer s H E) (a8 st) t/\t {nx:=fun _ H'=>Q .non H',rt:=Q} (eO N vs) H):FF P w K mg base (CXf P w) (k+1) x q st ps sp:=
 fun f _ F=>F.okF S (fun vs H Q E y=>(h vs H Q E y).1) fun cdv A outer s H vs Q E hr y=>(h vs H Q E y).2 cdv A outer s f hr
end
section
variable {X:Cx}{CX:CXT}{k:Nat}{C:Addr}{sp:Sp}{E:XK}{x m:Str}{p pos apos:Pos}{e o:Expr}{es:List Expr}{ta:TE}{t:TA}
theorem dc (D:KD X.prog X.w X.K X.mg X.base CX k x sp)(hr:bp k X.A)(hx:bX CX X E)(ha:PA X (e::es) t)(hg:Gl X x:=by rfl)(hdb:(x == ("__debug__":Str))=false:=by decide)
  (he:starEach (e::es) X.env=(false,eval e X.env)::starEach es X.env:=by rfl) (hpl:(backTo pos (starEach es X.env)).any (·.1)=false:=by rfl):PE X (.Call (.Name x p) (e::es) [] pos) (mR sp [] E t):=
 let ⟨_,_,_,a,b,c,F⟩:=D;qL F hr hg a b c .nil hx ha hdb he hpl
theorem dc0 (D:KD X.prog X.w X.K X.mg X.base CX0 k x sp)(hr:bp k X.A)(ha:PA X (e::es) t)(hg:Gl X x:=by rfl)(hdb:(x == ("__debug__":Str))=false:=by decide)
  (he:starEach (e::es) X.env=(false,eval e X.env)::starEach es X.env:=by rfl) (hpl:(backTo pos (starEach es X.env)).any (·.1)=false:=by rfl):PE X (.Call (.Name x p) (e::es) [] pos) (mR sp [] E0 t):=dc D hr jY ha hg hdb he hpl
theorem dm {pl:Sem Bool}(he:PE X o ta)(D:KM X.prog X.w X.K X.mg X.base CX k C m sp)(hr:bp k X.A)(hx:bX CX X E)(ha:PA X (e::es) t)
  (hst:starEach (e::es) X.env=(false,eval e X.env)::starEach es X.env:=by rfl) (hpl:(backTo pos (starEach es X.env)).any (·.1)=false:=by rfl)
  (ht:eval (.Call (.Attribute o m apos) (e::es) [] pos) X.env=(do
   let ov ←eval o X.env
   standAt apos.atName
   let (f,first) ←holding [ov] (getMethod ov m pl)
   callWith pos f first (backTo pos (starEach (e::es) X.env)) (backToKw pos (keywordEach [] X.env))):=by rfl) :
  PE X (.Call (.Attribute o m apos) (e::es) [] pos) (kZ C m sp [] E ta t):=let ⟨_,_,_,a,b,c,F⟩:=D;qM he a b F hr c .nil hx ha hst hpl ht
theorem dm0 {pl:Sem Bool}(he:PE X o ta)(D:KM X.prog X.w X.K X.mg X.base CX k C m sp)(hr:bp k X.A)(hx:bX CX X E)
  (ht:eval (.Call (.Attribute o m apos) [] [] pos) X.env=(do
   let ov ←eval o X.env
   standAt apos.atName
   let (f,first) ←holding [ov] (getMethod ov m pl)
   callWith pos f first (backTo pos (starEach [] X.env)) (backToKw pos (keywordEach [] X.env))):=by rfl) :
  PE X (.Call (.Attribute o m apos) [] [] pos) (kZ C m sp [] E ta jE):=let ⟨_,_,_,a,b,c,F⟩:=D;o8 he a b F hr c .nil hx ht
theorem dn (D:KN X.prog X.w X.K X.mg X.base CX k C sp)(hr:bp (k+1) X.A)(hm:X.mg x=some (.ref C))(hx:bX CX X E)(ha:PA X (e::es) t)(hg:Gl X x:=by rfl)(hdb:(x == ("__debug__":Str))=false:=by decide)
  (he:starEach (e::es) X.env=(false,eval e X.env)::starEach es X.env:=by rfl) (hpl:(backTo pos (starEach es X.env)).any (·.1)=false:=by rfl):PE X (.Call (.Name x p) (e::es) [] pos) (o7 C sp [] E t):=
 let ⟨_,_,_,a,c,F⟩:=D;qN a F hr hg hm c .nil hx ha hdb he hpl
variable {pins:List (Addr×Obj)}{E':XT}
theorem dcT (D:KD X.prog X.w X.K X.mg X.base (CXf X.prog X.w) k x sp)(hr:bp k X.A)(ha:PA (Xt X pins E') (e::es) t)(hg:Gl X x:=by rfl)(hdb:(x == ("__debug__":Str))=false:=by decide)
  (he:starEach (e::es) X.env=(false,eval e X.env)::starEach es X.env:=by rfl) (hpl:(backTo pos (starEach es X.env)).any (·.1)=false:=by rfl) :
  PE (Xt X pins E') (.Call (.Name x p) (e::es) [] pos) (mf sp [] E' t):=let ⟨_,_,_,a,b,c,F⟩:=D;pI F hr hg a b c .nil ha hdb he hpl
end
section
variable {X:Cx}{a b e o l value:Expr}{es dP:List Expr}{ta tb te tl tv:TE}{t:TA}{pos p:Pos}{tg:Expr}{f:Str}
theorem pv' (i:Nat){x:Str}{pos:Pos}(hN:X.N[i]?=some x:=by rfl)(hv:Vis X.env.scope x:=by first | exact Or.inl rfl | exact Or.inr (Or.inl rfl) | exact Or.inr (Or.inr rfl))(hd:(x == ("__debug__":Str))=false:=by decide)
  (hcd:(x == ("__classdict__":Str))=false:=by decide):PE X (.Name x pos) (pT i):=rp i▸pv i hN hv hd hcd
theorem bG (he:PE X e ta)(hb:attributeBase e f X.env (eval e X.env)=eval e X.env:=by rfl):PE X (.Attribute e f pos) (p0 X.K ta f):=rM X.K ta f▸ub he hb
theorem fJ {pos':Pos}(ha:PE X o ta)(hv:PE X value tv)(hs:swapsWith value (some (.Attribute o f pos')) pos.line X.env=pure false):PS X (.Assign [.Attribute o f pos'] value pos) (p8 X.K ta tv f):=rN X.K ta tv f▸uc ha hv hs
theorem bM:OpR X (binaryOp .Add) (mj fun i j=>.int (i+j)):=i9 _▸tX
theorem kO:OpR X (binaryOp .Sub) (mj fun i j=>.int (i - j)):=i9 _▸tY
theorem nF:OpR X (binaryOp .Mult) (rI' iU fun i j=>.int (i * j)):=pV _ _▸lW
theorem iM:OpR X (binaryOp .Mod) (rI' (fun _ j=>0 < j) fun i j=>.int (i % j)):=pV _ _▸oX
theorem rX:OpR X (binaryOp .Pow) (rI' tW fun i j=>.int (i ^ j.toNat)):=pV _ _▸tZ
theorem gp:OpR X (compareOp .Eq) (uH):=uI▸sW
theorem uQ:OpR X (compareOp .Lt) (mj fun i j=>.bl (decide (i < j))):=i9 _▸sX
theorem uR:OpR X (compareOp .LtE) (mj fun i j=>.bl (decide (i<=j))):=i9 _▸vf
theorem qo:OpR X (compareOp .GtE) (mj fun i j=>.bl (decide (j<=i))):=i9 _▸sY
theorem jb:OpR X (compareOp .In) (qh X.K false):=qi _ _▸nX
theorem jH:OpR X (compareOp .NotIn) (qh X.K true):=qi _ _▸ku
theorem nG (hu:X.A.units < cLine):OpR X (compareOp .Eq) (nE X.K):=rV _▸ux hu
theorem nH:UnR X (unaryOp .USub) (rU' fun i=>.int (-i)):=vL _▸ua
theorem aq:IxR X (j6 X.K):=rK _▸mW
theorem av:IxR X (ja X.K):=rL _▸pj
theorem qp:SlR X (qg X.K):=rQ _▸qR
theorem j7:tS X mx:=qc▸pw
theorem bx:MtM X "list.append" bY:=mn▸nY
theorem rY:MtM X "list.pop" nC:=rR▸ui
theorem bz (h:PE X e te)(he:∀dy,isTrue e X.env dy=(do let v ←dy;standAt e.pos;holding [v] (truthy v)):=by intro _;rfl):PT X e (tB' te):=tD te▸tP h he
theorem dC {op:CmpOp}{r:R2}(ho:OpR X (compareOp op) r)(ha:PE X a ta)(hb:PE X b tb)(hm:behindInMarks op b=false):PT X (.Compare a [op] [b] pos) (tB' (tOp r ta tb)):=pU (tOp r ta tb)▸gA ho ha hb hm
theorem bV (ha:PE X a ta)(hb:PE X b tb)(hm:behindInMarks .Eq b=false:=by exact bD _):PT X (.Compare a [.Eq] [b] pos) (uN ta tb):=rF ta tb▸gA sW ha hb hm
theorem j8 (ha:PE X a ta)(hb:PE X b tb)(hm:behindInMarks .NotEq b=false:=by exact bD _):PT X (.Compare a [.NotEq] [b] pos) (uO ta tb):=rG ta tb▸gA ve ha hb hm
theorem jc (ha:PE X a ta)(hb:PE X b tb)(hm:behindInMarks .Lt b=false:=by exact bD _):PT X (.Compare a [.Lt] [b] pos) (j5 (fun i j=>i < j) ta tb):=uJ ta tb▸gA sX ha hb hm
theorem vP (ha:PE X a ta)(hb:PE X b tb)(hm:behindInMarks .GtE b=false:=by exact bD _):PT X (.Compare a [.GtE] [b] pos) (j5 (fun i j=>j<=i) ta tb):=uK ta tb▸gA sY ha hb hm
theorem a9 {k:Int}(ha:PE X a ta)(hb:PE X b (tC (.int k)))(hk:0 < k:=by decide):PE X (.BinOp a .Mod b pos) (tU1 (fun i=>.int (i % k)) ta):=qd hk ta (fun i j=>.int (i % j))▸bj oX ha hb
theorem cH {k:Int}(ha:PE X a ta)(hb:PE X b (tC (.int k)))(h1:0 < k:=by decide)(h2:k < 1073741824:=by decide):PE X (.BinOp a .FloorDiv b pos) (tU1 (fun i=>.int (i / k)) ta):=qe h1 h2 ta (fun i j=>.int (i / j))▸bj qH ha hb
theorem iO {k:Int}(ha:PE X a ta)(hb:PE X b (tC (.int k)))(h1:-4294967296 < k:=by decide)(h2:k < 4294967296:=by decide):PE X (.BinOp a .Mult b pos) (tU1 (fun i=>.int (i * k)) ta):=qf h1 h2 ta (fun i j=>.int (i * j))▸bj lW ha hb
theorem lD {k:Int}(ha:PE X a (tC (.int k)))(hb:PE X b tb)(h1:-4294967296 < k:=by decide)(h2:k < 4294967296:=by decide):PE X (.BinOp a .Mult b pos) (tU1 (fun i=>.int (k * i)) tb):=oy h1 h2 tb (fun i j=>.int (i * j))▸bj lW ha hb
theorem rZ {k:Nat}{t:TGs}{n:Nat}(hc:X.calm=true)(h:PGs X es t)(hn:(assignEach es X.env).length=n:=by rfl)(hst:(assignEach es X.env).findIdx? (·.1)=none:=by rfl):PG X (.Tuple es k pos) (nB X.K n t):=rH X.K n t▸tT hc h hn hst
theorem j9 {t:TG}{u:TGs}(h1:PG X e t)(h2:PGs X es u)(hs:(assignEach (e::es) X.env).map (·.2)=assign e X.env::(assignEach es X.env).map (·.2):=by rfl):PGs X (e::es) (ml t u):=pX t u▸oQ h1 h2 hs
theorem qq:PGs X [] pY:=rJ▸qF
theorem eY (hl:PE X l tl):PI X tg l (mr X.K tl):=qa X.K tl▸qG hl
theorem bS (hg:Gl X "range")(hm:X.mg "range"=none)(ha:PA X [a] t)(hs:starEach [a] X.env=[(false,eval a X.env)]:=by rfl):PI X tg (.Call (.Name "range" p) [a] [] pos) (mv t):=qb t▸nP hg hm ha hs
theorem mB (hg:Gl X "range")(hm:X.mg "range"=none)(ha:PA X [a,b] t)(hs:starEach [a,b] X.env=[(false,eval a X.env),(false,eval b X.env)]:=by rfl)(hs2:starEach [b] X.env=[(false,eval b X.env)]:=by rfl):PI X tg (.Call (.Name "range" p) [a,b] [] pos) (my t):=qj t▸nQ hg hm ha hs hs2
theorem qr {tpos:Pos}{elts:List Expr}{x1:Nat}(hg:Gl X "enumerate")(hm:X.mg "enumerate"=none)(hb:bootBuiltins "enumerate"=some (.type "enumerate"))(he:PE X a te)(hs:starEach [a] X.env=[(false,eval a X.env)]:=by rfl):PI X (.Tuple elts x1 tpos) (.Call (.Name "enumerate" p) [a] [] pos) (mz X.K te):=qk X.K te▸qZ hg hm hb he hs
theorem gL (ha:PE X a ta)(hb:PE X (.BoolOp .And (b::dP) pos) tb):PE X (.BoolOp .And (a::b::dP) pos) (mm ta tb):=pZ ta tb▸tQ ha hb
theorem qs (h:PE X e te):PO X (some e) (mq te):=p9 te▸qQ h
theorem mD {r r':List V->Hp->VK->Prop}(h:∀t,tCB r t=tCB r' t):r=r':=funext fun vs=>funext fun H=>funext fun Q=>congrFun (congrFun (congrFun (h fun σ H Q=>Q vs H) []) H) Q
theorem aH:bW X (.builtin "len") (rO X.K):=mD (rP X.K)▸kv
theorem fU:bW X (.type "list") (gK X.K):=mD (mw X.K)▸kx
theorem cP:bW X (.type "int") nD:=mD qm▸nT
theorem dm' {CX:CXT}{k:Nat}{C:Addr}{sp:Sp}{E:XK}{m:Str}{apos:Pos}{pl:Sem Bool}(he:PE X o ta)(D:KM X.prog X.w X.K X.mg X.base CX k C m sp)(hr:bp k X.A)(hx:bX CX X E)(ha:PA X (e::es) t)
  (hst:starEach (e::es) X.env=(false,eval e X.env)::starEach es X.env:=by rfl) (hpl:(backTo pos (starEach es X.env)).any (·.1)=false:=by rfl)
  (ht:eval (.Call (.Attribute o m apos) (e::es) [] pos) X.env=(do
   let ov ←eval o X.env
   standAt apos.atName
   let (f,first) ←holding [ov] (getMethod ov m pl)
   callWith pos f first (backTo pos (starEach (e::es) X.env)) (backToKw pos (keywordEach [] X.env))):=by rfl) :
  PE X (.Call (.Attribute o m apos) (e::es) [] pos) (kM C m sp [] E ta t):=lA C m sp [] E ta t▸dm he D hr hx ha hst hpl ht
theorem uS {CX:CXT}{k:Nat}{C:Addr}{sp:Sp}{E:XK}{m:Str}{apos:Pos}{pl:Sem Bool}(he:PE X o ta)(D:KM X.prog X.w X.K X.mg X.base CX k C m sp)(hr:bp k X.A)(hx:bX CX X E)
  (ht:eval (.Call (.Attribute o m apos) [] [] pos) X.env=(do
   let ov ←eval o X.env
   standAt apos.atName
   let (f,first) ←holding [ov] (getMethod ov m pl)
   callWith pos f first (backTo pos (starEach [] X.env)) (backToKw pos (keywordEach [] X.env))):=by rfl) :
  PE X (.Call (.Attribute o m apos) [] [] pos) (kM C m sp [] E ta jE):=lA C m sp [] E ta jE▸dm0 he D hr hx ht
variable {e1 e2 e3 e4:Expr}{t1 t2 t3 t4:TE}
theorem pa1 (h1:PE X e1 t1)(s1:starEach [e1] X.env=(false,eval e1 X.env)::starEach [] X.env:=by rfl):PA X [e1] (eN t1 jE):=fG h1 gh s1
theorem pa2 (h1:PE X e1 t1)(h2:PE X e2 t2)(s1:starEach [e1,e2] X.env=(false,eval e1 X.env)::starEach [e2] X.env:=by rfl)(s2:starEach [e2] X.env=(false,eval e2 X.env)::starEach [] X.env:=by rfl):PA X [e1,e2] (eN t1 (eN t2 jE)):=fG h1 (pa1 h2 s2) s1
theorem pa3 (h1:PE X e1 t1)(h2:PE X e2 t2)(h3:PE X e3 t3)(s1:starEach [e1,e2,e3] X.env=(false,eval e1 X.env)::starEach [e2,e3] X.env:=by rfl)(s2:starEach [e2,e3] X.env=(false,eval e2 X.env)::starEach [e3] X.env:=by rfl)(s3:starEach [e3] X.env=(false,eval e3 X.env)::starEach [] X.env:=by rfl):PA X [e1,e2,e3] (eN t1 (eN t2 (eN t3 jE))):=fG h1 (pa2 h2 h3 s2 s3) s1
theorem pa4 (h1:PE X e1 t1)(h2:PE X e2 t2)(h3:PE X e3 t3)(h4:PE X e4 t4)(s1:starEach [e1,e2,e3,e4] X.env=(false,eval e1 X.env)::starEach [e2,e3,e4] X.env:=by rfl)(s2:starEach [e2,e3,e4] X.env=(false,eval e2 X.env)::starEach [e3,e4] X.env:=by rfl)(s3:starEach [e3,e4] X.env=(false,eval e3 X.env)::starEach [e4] X.env:=by rfl)(s4:starEach [e4] X.env=(false,eval e4 X.env)::starEach [] X.env:=by rfl):PA X [e1,e2,e3,e4] (eN t1 (eN t2 (eN t3 (eN t4 jE)))):=fG h1 (pa3 h2 h3 h4 s2 s3 s4) s1
end
abbrev Xm (K:JA)(a b:Addr)(v:Bool):Prop:=W.exmOne K (.ref a) (.ref b)=some v
abbrev Kt (K:JA)(a b:Addr)(v:Bool):Prop:=W.kitOne K (.ref a) (.ref b)=some v
theorem fgo {K:JA}{H:Hp}{a:Addr}{f:Str}{C:Addr}{dx:Addr}{fs:List (Str×V)}{v:V}{q:V->Prop}(h:H a=some (.ins C dx fs))(c:Cls K C)(n:bI K C f)(l:fs.lookup f=some v)(k:q v) :
  ∃C dx fs,H a=some (.ins C dx fs)/\Cls K C/\bI K C f/\∃v,fs.lookup f=some v/\q v:=⟨_,_,_,h,c,n,_,l,k⟩
theorem mgo {H:Hp}{a C:Addr}{m:Str}{dx:Addr}{fs:List (Str×V)}{q:Prop}(h:H a=some (.ins C dx fs))(l:fs.lookup m=none)(k:q) :
  ∃dx fs,H a=some (.ins C dx fs)/\fs.lookup m=none/\q:=⟨_,_,h,l,k⟩
theorem bp.units1 {k:Nat}{A:Around}(r:bp k A):A.in1.units < cLine:=by
 have:=r.un
 simp only [Around.in1_units]
 omega
section
variable {X:Cx}
noncomputable def qt (f:Addr->Bool):Value->Bool
 | .ref q=>f q
 | _=>false
noncomputable def uT (K:JA):R2:=fun x y H Q=>onR x fun a=>onR y fun p=>∃(as:List Addr) (ys:List V) (f:Addr->Bool),SqL K H p (as.map V.ref)/\SqT K H a ys/\ys.all aQ=true/\(∀q∈as,(q=a->f q=true)/\∃t,SqT K H q t/\t.all aQ=true/\eqL t ys=f q)/\Q (.bl (as.any f)) H
theorem qu (hu:X.A.in1.units < cLine):OpR X (compareOp .In) (uT X.K):=by
 intro pins s σ H x y v u Q I rx ry h
 obtain ⟨a,rfl,k⟩:=gn h
 obtain ⟨p,rfl,as,ys,f,hp,ha,fy,hf,q⟩:=gn k
 cases rx;cases ry
 obtain ⟨its,r,pl,hz⟩:=I.list hp
 have e:its=as.map Value.ref:=by
  refine List.ext_getElem? fun j=>?_
  rw [List.getElem?_map]
  cases ej:as[j]? with
  | none=>
   have:=r.length
   rw [JB] at this
   have:=List.getElem?_eq_none_iff.mp ej
   rw [List.getElem?_eq_none (by omega)];rfl
  | some w=>
   obtain ⟨u,eu,ru⟩:=r.get (show (as.map V.ref)[j]?=some (.ref w) by rw [List.getElem?_map,ej];rfl)
   cases ru
   rw [eu];rfl
 subst e
 refine PySem.SeqAt.in_listAt (qt f) pl.isList (fun w hw=>?_) ⟨.bl _,H,I,rfl,?_⟩
 ·obtain ⟨b,hb,rfl⟩:∃b,b∈as/\Value.ref b=w:=by simpa using hw
  obtain ⟨h1,t,ht,ft,et⟩:=hf b hb
  show PySem.SeqAt.EqAt _ _ _ _ (f b)
  by_cases hba:b=a
  ·rw [h1 hba,hba]
   exact PySem.SeqAt.EqAt.same _
  ·obtain ⟨ia,ra,pa,za⟩:=I.tuple ht
   obtain ⟨ib,rb,pb,zb⟩:=I.tuple ha
   have la:=ra.length
   have lb:=rb.length
   have e:((List.range (min ia.toArray.size ib.toArray.size)).all (fun j=>eqV (t.getD j .non) (ys.getD j .non)) && ia.toArray.size == ib.toArray.size)=f b:=by
    rw [List.size_toArray,List.size_toArray,←la,←lb,←et]
    exact nq
   rw [←e]
   refine PySem.SeqAt.EqAt.of_refs hba (PySem.SeqAt.RcAt.tuples pa pb hu fun j h1 h2=>?_)
   simp only [List.size_toArray] at h1 h2
   have hx:t[j]?=some (t.getD j .non):=by
    rw [List.getD_eq_getElem?_getD,List.getElem?_eq_getElem (by omega)];rfl
   have hy:ys[j]?=some (ys.getD j .non):=by
    rw [List.getD_eq_getElem?_getD,List.getElem?_eq_getElem (by omega)];rfl
   obtain ⟨u,eu,ru⟩:=ra.get hx
   obtain ⟨v,ev,rv⟩:=rb.get hy
   have e1:ia.toArray[j]=u:=by
    have:=List.getElem?_eq_some_iff.mp eu
    simpa using this.2
   have e2:ib.toArray[j]=v:=by
    have:=List.getElem?_eq_some_iff.mp ev
    simpa using this.2
   rw [e1,e2]
   exact g9 ru rv (List.all_eq_true.mp ft _ (List.mem_of_getElem? hx)) (List.all_eq_true.mp fy _ (List.mem_of_getElem? hy))
 ·have e:(as.map Value.ref).toArray.any (qt f)=as.any f:=by
   rw [List.any_toArray,List.any_map];rfl
  rw [e]
  exact q
end
section
variable {X:Cx}
noncomputable def nI (K:JA):V->List V->Hp->VK->Prop:=fun x vs H Q=>onR x fun l=>onC vs fun y r=>onN r (∃(xs:List V) (j:Nat),SqL K H l xs/\aQ y=true/\xs.all aQ=true/\j < xs.length/\eqV (xs.getD j .non) y=true/\(∀i,i < j->eqV (xs.getD i .non) y=false)/\Q (.int (j:Nat)) H)
theorem oA:MtR X "list.index" (nI X.K):=by
 intro pins s σ H x vs v us Q I rx rv h
 obtain ⟨l,rfl,h⟩:=gn h
 match vs,h with
 | [y],h=>
  obtain ⟨xs,j,hq,fy,fx,hj,hy,hn,q⟩:=(show ∃(xs:List V) (j:Nat),_ from h)
  cases rx
  obtain ⟨u,rfl,ru⟩:=rv.one
  obtain ⟨its,r,pl,hz⟩:=I.list hq
  have hlen:=r.length
  obtain ⟨⟨cls,dd,data,sl⟩,ho,hc,n,hd⟩:=id pl.isList
  simp only at hc hd
  subst hc hd
  rw [sizeLine_eq] at hz
  have at_i:∀(i:Nat) (hi:i < its.length),eqU y its[i]=eqV (xs.getD i .non) y:=fun i hi=>by
   have hx:xs[i]?=some (xs.getD i .non):=by
    rw [List.getD_eq_getElem?_getD,List.getElem?_eq_getElem (by omega)];rfl
   obtain ⟨w,ew,rw'⟩:=r.get hx
   have e1:its[i]=w:=by
    have:=List.getElem?_eq_some_iff.mp ew
    simpa using this.2
   rw [e1]
   exact ma rw' (List.all_eq_true.mp fx _ (List.mem_of_getElem? hx))
  refine call_meets PySem.F.slot_list_index ⟨_,ho,rfl⟩ PySem.F.entry_list_index (PySem.F.args_list_index_2 _ _)
   (PySem.SeqAt.list_indexAt l its.toArray n dd sl u (eqU y) j (by simpa [←hlen] using hj) (by omega) ?_ ?_) ⟨ho,fun w hw=>dA ru fy r fx w (by simpa using hw),?_⟩
  ·show eqU y its[j]=true
   rw [at_i j (by omega)];exact hy
  ·intro i his hlt
   show eqU y its[i]=false
   rw [at_i i (by simpa using his)];exact hn i hlt
  ·exact ⟨.int (j:Nat),H,I.tok _,⟨_,rfl⟩,q⟩
end
end L2
namespace K14
open PySem L2
noncomputable abbrev jd:List Str:=["number","many"]
noncomputable abbrev fV:List Str:=["level","many"]
noncomputable abbrev fW:List Str:=["number"]
noncomputable abbrev gM:List Str:=["self","codes"]
noncomputable abbrev gN:List Str:=["self","level","strokes"]
noncomputable abbrev eZ:List Str:=["self","strokes"]
noncomputable abbrev e7:List Str:=["self"]
noncomputable abbrev gO:List Str:=["self","level"]
noncomputable abbrev gP:List Str:=["self"]
noncomputable abbrev ip:List Str:=["self","level","kind"]
noncomputable abbrev qv:List Str:=["_law_script","_law_k"]
noncomputable abbrev lE:List Str:=["_law_cell","_law_k","_law_span"]
noncomputable abbrev ka:List Str:=["_law_script","_law_k"]
noncomputable abbrev gQ:List Str:=["_law_found","_law_due"]
noncomputable abbrev kb:List Str:=["_law_cell","_law_many"]
noncomputable abbrev fX:List Str:=["_law_bells","_law_deed_here"]
noncomputable abbrev iq:List Str:=["_law_bells","_law_deed_here"]
noncomputable abbrev je:List Str:=["_law_done"]
noncomputable abbrev ir:List Str:=["_law_codes_here","_law_done","_law_deed_here"]
noncomputable abbrev lF:List Str:=["_law_codes_here","_law_done","_law_cell"]
noncomputable abbrev jf:List Str:=["_law_bells","_law_codes_here","_law_done"]
noncomputable abbrev tE:List Str:=["_law_script"]
noncomputable def top (i:Nat):Stmt:=PySem.Challenge.pw_cagebells_k14_bells_through_any_day.main.body.getD i (.Pass ⟨0,0,0,0⟩)
noncomputable abbrev gq:Stmt:=top 10
theorem lG:aN ["number","many"] jd (ao gq):=bN
noncomputable abbrev di:Stmt:=top 11
theorem jg:aN ["level","many"] fV (ao di):=bN
noncomputable abbrev dj:Stmt:=top 16
theorem jh:aN ["number"] fW (ao dj):=bN
noncomputable abbrev dZ:Stmt:=dW (top 17) 0
theorem jI:aN ["self","codes"] gM (ao dZ):=bN
noncomputable abbrev ee:Stmt:=dW (top 17) 1
theorem jJ:aN ["self","level","strokes"] gN (ao ee):=bN
noncomputable abbrev cQ:Stmt:=dW (top 17) 2
theorem bP:aN ["self","strokes","level","rung","alike"] eZ (ao cQ):=bN
noncomputable abbrev cR:Stmt:=dW (top 17) 3
theorem iG:aN ["self"] e7 (ao cR):=bN
noncomputable abbrev eg:Stmt:=dW (top 17) 4
theorem jK:aN ["self","level"] gO (ao eg):=bN
noncomputable abbrev eh:Stmt:=dW (top 17) 5
theorem jL:aN ["self"] gP (ao eh):=bN
noncomputable abbrev fe:Stmt:=dW (top 17) 6
theorem gR:aN ["self","level","kind","code"] ip (ao fe):=bN
noncomputable abbrev mE:Stmt:=top 19
theorem r0:aN ["_law_script","_law_k"] qv (ao mE):=bN
noncomputable abbrev ji:Stmt:=top 20
theorem dD:aN ["_law_cell","_law_k","_law_span","_law_rest","_law_turn","_law_one"] lE (ao ji):=bN
noncomputable abbrev hU:Stmt:=top 21
theorem gr:aN ["_law_script","_law_k","_law_cell","_law_one"] ka (ao hU):=bN
noncomputable abbrev ff:Stmt:=top 22
theorem hV:aN ["_law_found","_law_due","_law_alike","_law_k"] gQ (ao ff):=bN
noncomputable abbrev hW:Stmt:=top 23
theorem eo:aN ["_law_cell","_law_many","_law_made","_law_k","_law_men"] kb (ao hW):=bN
noncomputable abbrev dk:Stmt:=top 24
theorem jj:aN ["_law_bells","_law_deed_here"] fX (ao dk):=bN
noncomputable abbrev cz:Stmt:=top 25
theorem bZ:aN ["_law_bells","_law_deed_here","_law_hit","e","_law_names","_law_met"] iq (ao cz):=bN
noncomputable abbrev gu:Stmt:=top 26
theorem cA:aN ["_law_done","_law_rings","_law_ring","_law_behind","_law_again"] je (ao gu):=bN
noncomputable abbrev fg:Stmt:=top 27
theorem cI:aN ["_law_codes_here","_law_done","_law_deed_here","_law_state","_law_dead","_law_code"] ir (ao fg):=bN
noncomputable abbrev jk:Stmt:=top 28
theorem cM:aN ["_law_codes_here","_law_done","_law_cell","_law_rest","_law_level","_law_near","_law_state"] lF (ao jk):=bN
noncomputable abbrev gv:Stmt:=top 29
theorem fh:aN ["_law_bells","_law_codes_here","_law_done","_law_dead","_law_told"] jf (ao gv):=bN
noncomputable abbrev iu:Stmt:=top 30
theorem bT:aN ["_law_script","_law_all_codes","_law_handed","_law_two","_law_done","_law_k","_law_cell","_law_side","_law_deed_here","_law_word","_law_told","_law_due","_law_strokes","_law_at_here"] tE (ao iu):=bN
structure Adr where
 az:Addr
 aW:Addr
 bq:Addr
 aF:Addr
 aX:Addr
 aU:Addr
 ck:Addr
 aP:Addr
 kP:Addr
structure Txt (P:Program)(w:World)(K:JA)(mg:Str->Option Value)(base:Heap)(Z:Adr):Prop where
 jl:mg "list"=none
 cS:mg "len"=none
 lH:mg "enumerate"=none
 cJ:mg "range"=none
 aI:mg "isinstance"=none
 kQ:mg "tuple"=none
 jm:mg "int"=none
 tF:mg "str"=none
 qw:mg "bool"=none
 hX:∃u,mg "FEWEST_STROKES"=some u/\aY (.int 1) u
 jn:∃u,mg "MOST_STROKES"=some u/\aY (.int 9) u
 r6:∃u,mg "KINDS"=some u/\aY (.ref Z.kP) u
 r8:∀H,SqT K H Z.kP [.str "men",.str "coal"]
 sd:∃o,K.lookup Z.kP=some o/\o.cls=.type "tuple"/\o.dict=none
 fi:mg "UnknownLevel"=some (.ref Z.az)
 jo:mg "DeadBell"=some (.ref Z.aW)
 jq:mg "NoCode"=some (.ref Z.bq)
 fY:mg "NothingRung"=some (.ref Z.aF)
 jr:mg "NoChange"=some (.ref Z.aX)
 js:mg "NotArmed"=some (.ref Z.aU)
 lI:mg "CageError"=some (.ref Z.ck)
 nJ:mg "Bells"=some (.ref Z.aP)
 aR:Cls K Z.aP
 br:bI K Z.aP "codes"
 bA:bI K Z.aP "failed"
 aS:bI K Z.aP "state"
 jt:ExC K Z.az
 bt:ExI K Z.az
 dq:Xm K Z.az Z.ck true
 cK:Kt K Z.az Z.az true
 dE:Kt K Z.az Z.aW false
 eR:Kt K Z.az Z.bq false
 cT:Kt K Z.az Z.aF false
 dF:Kt K Z.az Z.aX false
 dG:Kt K Z.az Z.aU false
 mF:ExC K Z.aW
 cn:ExI K Z.aW
 fj:Xm K Z.aW Z.ck true
 dH:Kt K Z.aW Z.az false
 fK:Kt K Z.aW Z.aW true
 gS:Kt K Z.aW Z.bq false
 ez:Kt K Z.aW Z.aF false
 fL:Kt K Z.aW Z.aX false
 fM:Kt K Z.aW Z.aU false
 lJ:ExC K Z.bq
 dI:ExI K Z.bq
 gw:Xm K Z.bq Z.ck true
 eS:Kt K Z.bq Z.az false
 gT:Kt K Z.bq Z.aW false
 iH:Kt K Z.bq Z.bq true
 fm:Kt K Z.bq Z.aF false
 gU:Kt K Z.bq Z.aX false
 gV:Kt K Z.bq Z.aU false
 jM:ExC K Z.aF
 bB:ExI K Z.aF
 dJ:Xm K Z.aF Z.ck true
 cU:Kt K Z.aF Z.az false
 eB:Kt K Z.aF Z.aW false
 fo:Kt K Z.aF Z.bq false
 de:Kt K Z.aF Z.aF true
 eC:Kt K Z.aF Z.aX false
 eD:Kt K Z.aF Z.aU false
 mG:ExC K Z.aX
 cq:ExI K Z.aX
 fq:Xm K Z.aX Z.ck true
 dM:Kt K Z.aX Z.az false
 fN:Kt K Z.aX Z.aW false
 gW:Kt K Z.aX Z.bq false
 eE:Kt K Z.aX Z.aF false
 fO:Kt K Z.aX Z.aX true
 fP:Kt K Z.aX Z.aU false
 mH:ExC K Z.aU
 cu:ExI K Z.aU
 fu:Xm K Z.aU Z.ck true
 dN:Kt K Z.aU Z.az false
 fQ:Kt K Z.aU Z.aW false
 gX:Kt K Z.aU Z.bq false
 eF:Kt K Z.aU Z.aF false
 fR:Kt K Z.aU Z.aX false
 fS:Kt K Z.aU Z.aU true
structure tG (K:JA)(C0 C1 C2 C3 C4 C5 C6 C7:Addr)(ta_KINDS:Addr)(tk_KINDS_0 tk_KINDS_1:Tok)(tn_KINDS:Nat)(ts_KINDS:Array (Option Value)):Prop where
 z_list:W.nsIn K mainGlobals "list"=some none
 z_len:W.nsIn K mainGlobals "len"=some none
 z_enumerate:W.nsIn K mainGlobals "enumerate"=some none
 z_range:W.nsIn K mainGlobals "range"=some none
 z_isinstance:W.nsIn K mainGlobals "isinstance"=some none
 z_tuple:W.nsIn K mainGlobals "tuple"=some none
 z_int:W.nsIn K mainGlobals "int"=some none
 z_str:W.nsIn K mainGlobals "str"=some none
 z_bool:W.nsIn K mainGlobals "bool"=some none
 m0:NI K "UnknownLevel" C0
 m1:NI K "DeadBell" C1
 m2:NI K "NoCode" C2
 m3:NI K "NothingRung" C3
 m4:NI K "NoChange" C4
 m5:NI K "NotArmed" C5
 m6:NI K "CageError" C6
 m7:NI K "Bells" C7
 n_FEWEST_STROKES:KI K "FEWEST_STROKES" 1
 n_MOST_STROKES:KI K "MOST_STROKES" 9
 n_KINDS:W.nsIn K mainGlobals "KINDS"=some (some (.ref ta_KINDS))
 lt_KINDS:K.lookup ta_KINDS=some ⟨.type "tuple",none,.seq #[.str "men" tk_KINDS_0,.str "coal" tk_KINDS_1] tn_KINDS,ts_KINDS⟩
 cl7:Cls K C7
 na7_codes:bI K C7 "codes"
 na7_failed:bI K C7 "failed"
 na7_state:bI K C7 "state"
 l0:C0I K C6
 x0:XI K C6 C0
 x1:XI K C6 C1
 x2:XI K C6 C2
 x3:XI K C6 C3
 x4:XI K C6 C4
 x5:XI K C6 C5
 e0_CageError:Xm K C0 C6 true
 k0_UnknownLevel:Kt K C0 C0 true
 k0_DeadBell:Kt K C0 C1 false
 k0_NoCode:Kt K C0 C2 false
 k0_NothingRung:Kt K C0 C3 false
 k0_NoChange:Kt K C0 C4 false
 k0_NotArmed:Kt K C0 C5 false
 e1_CageError:Xm K C1 C6 true
 k1_UnknownLevel:Kt K C1 C0 false
 k1_DeadBell:Kt K C1 C1 true
 k1_NoCode:Kt K C1 C2 false
 k1_NothingRung:Kt K C1 C3 false
 k1_NoChange:Kt K C1 C4 false
 k1_NotArmed:Kt K C1 C5 false
 e2_CageError:Xm K C2 C6 true
 k2_UnknownLevel:Kt K C2 C0 false
 k2_DeadBell:Kt K C2 C1 false
 k2_NoCode:Kt K C2 C2 true
 k2_NothingRung:Kt K C2 C3 false
 k2_NoChange:Kt K C2 C4 false
 k2_NotArmed:Kt K C2 C5 false
 e3_CageError:Xm K C3 C6 true
 k3_UnknownLevel:Kt K C3 C0 false
 k3_DeadBell:Kt K C3 C1 false
 k3_NoCode:Kt K C3 C2 false
 k3_NothingRung:Kt K C3 C3 true
 k3_NoChange:Kt K C3 C4 false
 k3_NotArmed:Kt K C3 C5 false
 e4_CageError:Xm K C4 C6 true
 k4_UnknownLevel:Kt K C4 C0 false
 k4_DeadBell:Kt K C4 C1 false
 k4_NoCode:Kt K C4 C2 false
 k4_NothingRung:Kt K C4 C3 false
 k4_NoChange:Kt K C4 C4 true
 k4_NotArmed:Kt K C4 C5 false
 e5_CageError:Xm K C5 C6 true
 k5_UnknownLevel:Kt K C5 C0 false
 k5_DeadBell:Kt K C5 C1 false
 k5_NoCode:Kt K C5 C2 false
 k5_NothingRung:Kt K C5 C3 false
 k5_NoChange:Kt K C5 C4 false
 k5_NotArmed:Kt K C5 C5 true
 d0:DI K "is_known" gq
 d1:DI K "check_level" di
 d2:DI K "are_strokes" dj
 d3:II K C7 "Bells.__init__" dZ
 d4:MI K C7 "ring" "Bells.ring" ee
 d5:MI K C7 "repeat" "Bells.repeat" cQ
 d6:MI K C7 "engine" "Bells.engine" cR
 d7:MI K C7 "fail" "Bells.fail" eg
 d8:MI K C7 "dead" "Bells.dead" eh
 d9:MI K C7 "use" "Bells.use" fe
 d10:DI K "_law_at" mE
 d11:DI K "_law_draw" ji
 d12:DI K "_law_mixed" hU
 d13:DI K "_law_same" ff
 d14:DI K "_law_codes" hW
 d15:DI K "_law_bell_call" dk
 d16:DI K "_law_bell_do" cz
 d17:DI K "_law_engine" gu
 d18:DI K "_law_refusal" fg
 d19:DI K "_law_deed" jk
 d20:DI K "_law_stands" gv
 d21:DI K "law" iu
set_option hygiene false in
local macro_rules | `(tactic| walk_at "r0") => `(tactic| ((try dsimp only [u4, u6, tB', tOp, tUn, pT, tCB, eN, jE, mR, mj, rI', rU', uH, u5, tC, sJ, sO, oS, dz, nB, uP, ml, pY, j6, ja, u0, tOr, u3, mm, tIf, vj, vi, tBM, bY, tSl, mS, mq, qg, mv, my, mr, qV, pG, qh, qT, pH, vv, mf, nE, uT, nI, p0, p8, kM, o7, mz, nC, vB, uz, nj, vy, vo, vb, mx, j5, uN, uO, tU1, rO, gK, nD, rg, uE, rh, pR, pS, rj, rq, rz, uG, rA, rB, uL, rC, rD, uM, ql, rT, vX, vY, vZ, v3, vE, vF, vG, vH, v5, v7, uF, σN, σS, σ0, vI, v8, v9, vJ, vK, vM, vN, uo, oW, iU, tW, Nat.reduceAdd, Nat.reduceSub, Int.reducePow, Int.reduceToNat, Nat.reducePow, Int.reduceNeg, Bool.not_true, Bool.not_false]); (try first | refine L2.wa ?_ | refine L2.wb ?_ | refine L2.vO ?_)))
set_option hygiene false in
local macro_rules | `(tactic| k_upd) => `(tactic| (repeat ((first | with_reducible refine L2.wc ?_ | with_reducible refine L2.we ?_ | with_reducible refine L2.dY ze1 ?_ | with_reducible refine L2.dY ze2 ?_ | with_reducible refine L2.dY ze3 ?_ | with_reducible refine L2.dY ze4 ?_ | with_reducible refine L2.dY ze5 ?_ | with_reducible refine L2.dY ze6 ?_ | with_reducible refine L2.dY ze7 ?_ | with_reducible refine L2.dY ze8 ?_ | with_reducible refine L2.dY ze9 ?_ | with_reducible refine L2.dY ze10 ?_ | with_reducible refine L2.dY ze11 ?_ | with_reducible refine L2.dY ze12 ?_ | with_reducible refine L2.dY ze13 ?_ | with_reducible refine L2.dY ze14 ?_ | with_reducible refine L2.dY ze15 ?_ | with_reducible refine L2.dY ze16 ?_ | with_reducible refine L2.dY ze17 ?_ | with_reducible refine L2.dY ze18 ?_ | with_reducible refine L2.dY ze19 ?_); walk_at "r0")))
set_option hygiene false in
local macro_rules | `(tactic| k_mem) => `(tactic| (walk_at "r0"; k_upd))
set_option hygiene false in
local macro_rules | `(tactic| k_all) => `(tactic| refine ⟨rfl, fun zv zA zo zs zf hr => ?_⟩)
section
variable {P:Program}{w:World}{K:JA}{mg:Str->Option Value}{base:Heap}{Z:Adr}
variable (T:Txt P w K mg base Z)
inductive fv (K:JA)(Z:Adr)(vs:List V)(H:Hp)(Q:VK)(E:XK):Prop | mk (n m:Int):vs=[.int n,.int m]->(Q (.bl (decide (0<=n/\n < m))) H)->fv K Z vs H Q E
include T in
theorem lK:FF P w K mg base CX0 1 "is_known" "is_known" gq jd (fv K Z):=fk0 lG fun vs H Q E h=>by
 obtain ⟨n,m,rfl,q⟩:=h
 k_all
 refine ⟨_,ai (aC (gL (bE qo (pv' 0) af (bD _)) (km (bE uQ (pv' 0) (pv' 1) (bD _))))),?_⟩
 k_mem
 split
 ·rename_i h0
  rw [show decide (0<=n/\n < m)=decide (n < m) by simp [h0]] at q
  k_upd
  exact q
 ·rename_i h0
  rw [show decide (0<=n/\n < m)=false by simp;omega] at q
  k_upd
  exact q
variable (ju:KD P w K mg base CX0 1 "is_known" (fv K Z))
inductive cV (K:JA)(Z:Adr)(vs:List V)(H:Hp)(Q:VK)(E:XK):Prop | mk (n:Int):vs=[.int n]->(Q (.bl (decide (1<=n/\n<=9))) H)->cV K Z vs H Q E
include T in
theorem jv:FF P w K mg base CX0 1 "are_strokes" "are_strokes" dj fW (cV K Z):=fk0 jh fun vs H Q E h=>by
 obtain ⟨n,rfl,q⟩:=h
 k_all
 refine ⟨_,ai (aC (gL (bE qo (pv' 0) (i4 (by rfl) T.hX) (bD _)) (km (bE uR (pv' 0) (i4 (by rfl) T.jn) (bD _))))),?_⟩
 k_mem
 split
 ·rename_i h0
  rw [show decide (1<=n/\n<=9)=decide (n<=9) by simp [h0]] at q
  k_upd
  exact q
 ·rename_i h0
  rw [show decide (1<=n/\n<=9)=false by simp;omega] at q
  k_upd
  exact q
variable (fZ:KD P w K mg base CX0 1 "are_strokes" (cV K Z))
inductive dr (K:JA)(Z:Adr)(vs:List V)(H:Hp)(Q:VK)(E:XK):Prop | mk (x dx l:Addr) (ls:List Cd):vs=[.ref x,.ref l]->H x=some (.ins Z.aP dx [])->pO cdV K H l ls->ls.length<=1000->(∀(cs fl st:Addr) (H':Hp),H cs=none->H fl=none->aD x H H'->aL Z.aP K H' x cs fl st ls (ls.map fun _=>false) .no->Q .non H')->dr K Z vs H Q E
include T in
theorem jN:FF P w K mg base CX0 1 "__init__" "Bells.__init__" dZ gM (dr K Z):=fk0 jI fun vs H Q E h=>by
 obtain ⟨x,dx,l,ls,rfl,hx,hL,hn,q⟩:=h
 k_all
 refine seg 2 (ai (fJ (pv' 0) (ba (pa4 aw dQ dQ dQ)) rfl)) fun zt2 zh2 ze2=>?_
 refine seg 1 (ag (fJ (pv' 0) (pE ["code"] [none] (eY (pv' 1)) (fun _ _ _ _=>(bu (i:=0) (show (["code"]:List Str).Nodup by decide +kernel) rfl orL)) (fun _ _ _ _=>iL) (fun _ _ _ _=>cN)) rfl) zh2) fun zt1 zh1 ze1=>?_
 refine ⟨_,ag (fJ (pv' 0) (bU fU (by rfl) T.jl gF (pa1 (pv' 1))) rfl) zh1,?_⟩
 obtain ⟨as,hS,hT⟩:=id hL
 k_mem
 refine ⟨_,.inl hS,fun cs hcs=>?_⟩
 k_upd
 refine ⟨_,_,_,upo hx hcs,T.aR,T.br,by decide,?_⟩
 have nx:cs≠x:=fun z=>by rw [z,hx] at hcs;cases hcs
 have k1:L2.aD x H (upd (upd H cs (HO.lst (as.map V.ref))) x (HO.ins Z.aP dx (bQ "codes" (.ref cs) []))):=(aD.of ((au.refl H).lay hcs)).put
 have hx1:upd (upd H cs (HO.lst (as.map V.ref))) x (HO.ins Z.aP dx (bQ "codes" (.ref cs) [])) x=some (HO.ins Z.aP dx [("codes",.ref cs)]):=ae
 have hc1:upd (upd H cs (HO.lst (as.map V.ref))) x (HO.ins Z.aP dx (bQ "codes" (.ref cs) [])) cs=some (HO.lst (as.map V.ref)):=by rw [aj nx,ae]
 generalize upd (upd H cs (HO.lst (as.map V.ref))) x (HO.ins Z.aP dx (bQ "codes" (.ref cs) []))=H1 at *
 k_upd
 refine ⟨⟨_,hS.keepI k1 hx⟩,?_⟩
 refine lp (fun _=>true) (fun _=>V.bl false) (hS.keepI k1 hx) (by rw [JB,hT.1,sizeLine_eq];omega) rfl (fun y _ N hN=>by k_mem;exact hN) (fun y _ _ N hN=>by k_mem;exact hN) fun fl hfl=>?_
 k_mem
 have ef:((as.map V.ref).filter fun _=>true).map (fun _=>V.bl false)=(ls.map fun _=>false).map V.bl:=by
  rw [List.filter_eq_self.mpr (by simp),List.map_map,List.map_map]
  refine List.ext_getElem (by simp [hT.1]) fun i h1 h2=>by simp
 rw [ef]
 have nfx:fl≠x:=fun z=>by rw [z,hx1] at hfl;cases hfl
 have nfc:cs≠fl:=fun z=>by rw [←z,hc1] at hfl;cases hfl
 k_upd
 refine ⟨_,_,_,upo hx1 hfl,T.aR,T.bA,by show 1 < 1000;decide,?_⟩
 have k2:L2.aD x H1 (upd (upd H1 fl (HO.lst ((ls.map fun _=>false).map V.bl))) x (HO.ins Z.aP dx (bQ "failed" (.ref fl) [("codes",.ref cs)]))):=(aD.of ((au.refl H1).lay hfl)).put
 have hx2:upd (upd H1 fl (HO.lst ((ls.map fun _=>false).map V.bl))) x (HO.ins Z.aP dx (bQ "failed" (.ref fl) [("codes",.ref cs)])) x=some (HO.ins Z.aP dx [("codes",.ref cs),("failed",.ref fl)]):=by rw [ae];rfl
 have hf2:upd (upd H1 fl (HO.lst ((ls.map fun _=>false).map V.bl))) x (HO.ins Z.aP dx (bQ "failed" (.ref fl) [("codes",.ref cs)])) fl=some (HO.lst ((ls.map fun _=>false).map V.bl)):=by rw [aj nfx,ae]
 generalize upd (upd H1 fl (HO.lst ((ls.map fun _=>false).map V.bl))) x (HO.ins Z.aP dx (bQ "failed" (.ref fl) [("codes",.ref cs)]))=H2 at *
 k_upd
 refine ⟨by decide,fun st hst=>⟨_,_,_,upo hx2 hst,T.aR,T.aS,by show 2 < 1000;decide,?_⟩⟩
 have nsx:st≠x:=fun z=>by rw [z,hx2] at hst;cases hst
 have k3:L2.aD x H2 (upd (upd H2 st (HO.tup [V.str (Str.ofString "not rung"),V.non,V.non,V.non])) x (HO.ins Z.aP dx (bQ "state" (.ref st) [("codes",.ref cs),("failed",.ref fl)]))):=(aD.of ((au.refl H2).lay hst)).put
 refine q cs fl st _ hcs (k1.free nfx hfl) ((k1.trans k2).trans k3) ⟨⟨dx,by rw [ae];rfl⟩,⟨as,k3 _ _ nx (k2 _ _ nx hc1),?_⟩,k3 _ _ nfx hf2,SqT.of (by rw [aj nsx,ae];rfl),nfc,by rw [JB]⟩
 exact hT.keepI ((k1.trans k2).trans k3) hx
variable (eG:KN P w K mg base CX0 1 Z.aP (dr K Z))
inductive cD (K:JA)(Z:Adr)(vs:List V)(H:Hp)(Q:VK)(E:XK):Prop | mk (b cs fl st:Addr) (ls:List Cd) (fs:List Bool) (e:Eng):vs=[.ref b]->aL Z.aP K H b cs fl st ls fs e->Q (.ref st) H->cD K Z vs H Q E
include T in
theorem iI:FF P w K mg base CX0 1 "engine" "Bells.engine" cR e7 (cD K Z):=fk0 iG fun vs H Q E h=>by
 obtain ⟨b,cs,fl,st,ls,fs,e,rfl,hB,q⟩:=h
 k_all
 refine ⟨_,ai (aC (bG (pv' 0))),?_⟩
 obtain ⟨⟨dx,hob⟩,⟨as,hcs,hT⟩,hfl,hst,nn,ln⟩:=id hB
 k_mem
 exact fgo hob T.aR T.aS rfl q
variable (fz:KM P w K mg base CX0 1 Z.aP "engine" (cD K Z))
inductive du (K:JA)(Z:Adr)(vs:List V)(H:Hp)(Q:VK)(E:XK):Prop | mk (b cs fl st:Addr) (ls:List Cd) (fs:List Bool) (e:Eng):vs=[.ref b]->aL Z.aP K H b cs fl st ls fs e->fs.length<=1000->(∀p H',H p=none->au H H'->H' p=some (.lst ((j4 fs).map V.int))->Q (.ref p) H')->du K Z vs H Q E
include T in
theorem jO:FF P w K mg base CX0 1 "dead" "Bells.dead" eh gP (du K Z):=fk0 jL fun vs H Q E h=>by
 obtain ⟨b,cs,fl,st,ls,fs,e,rfl,hB,hlen,q⟩:=h
 k_all
 refine ⟨_,ai (aC (pE ["level","failed"] [none,none] (qr (by rfl) T.lH ky (bG (pv' 0))) (fun _ _ _ _=>(show PG _ _ (nB K 2 _) from rZ (n:=2) rfl (j9 (bu (i:=0) (show (["level","failed"]:List Str).Nodup by decide +kernel) rfl orL) (j9 (bu (i:=1) (show (["level","failed"]:List Str).Nodup by decide +kernel) rfl orL) qq)))) (fun _ _ _ _=>(gD (bz (pv' 1)))) (fun _ _ _ _=>(pv' 0)))),?_⟩
 obtain ⟨⟨dx,hob⟩,⟨as,hcs,hT⟩,hfl,hst,nn,ln⟩:=id hB
 k_mem
 refine fgo hob T.aR T.bA rfl ?_
 k_mem
 refine ⟨⟨_,SqL.of hfl⟩,?_⟩
 have gi:∀i,i < fs.length->(fs.map V.bl)[i]?=some (V.bl (fs.getD i false)):=fun i hi=>by
  rw [List.getElem?_map,List.getD_eq_getElem?_getD,List.getElem?_eq_getElem hi];rfl
 refine kE fs.length (fun i acc H'=>au H H'/\acc=(dX fs i).map V.int) ⟨au.refl H,rfl⟩ ?_ ?_ ?_ ?_
 ·rintro i acc H' hi ⟨s1,_⟩
  k_upd
  exact ⟨_,_,s1.seq (SqL.of hfl),gi i hi⟩
 ·rintro acc H' ⟨s1,_⟩
  k_upd
  exact ⟨_,s1.seq (SqL.of hfl),by rw [JB];exact Nat.le_refl _⟩
 ·rintro i acc H' hi ⟨s1,rfl⟩
  k_upd
  refine ⟨by have:=gm fs i;rw [JB,sizeLine_eq];omega,?_⟩
  rintro x H2 ⟨tp,z,rfl,htp,rfl,hz⟩ M hM
  have e:=hz _ (s1.seq (SqL.of hfl))
  rw [gi i hi] at e
  cases e
  k_mem
  refine ⟨_,SqT.of ae,rfl,?_⟩
  k_mem
  refine ⟨⟨rfl,fun k v e=>?_⟩,?_⟩
  ·match k,e with
   | 0,e=>cases e
   | 1,e=>cases e
   | k+2,e=>simp at e
  ·have gs:=il fs i
   k_upd
   split
   ·rename_i h
    refine hM _ _ ⟨s1.lay htp,?_⟩
    rw [gs,if_pos h,List.map_append];rfl
   ·rename_i h
    refine hM _ _ ⟨s1.lay htp,?_⟩
    rw [gs,if_neg h,List.append_nil]
 ·rintro acc H' ⟨s1,rfl⟩ p hp
  k_upd
  exact q p _ (s1.free hp) (s1.lay hp) ae
variable (eI:KM P w K mg base CX0 1 Z.aP "dead" (du K Z))
inductive kR (K:JA)(Z:Adr)(vs:List V)(H:Hp)(Q:VK)(E:XK):Prop | mk (a:Addr) (ns:List Int) (k:Int):vs=[.ref a,.int k]->SqL K H a (ns.map V.int)->0<=k->Q (.int (ns.getD k.toNat 0)) H->kR K Z vs H Q E
include T in
theorem se:FF P w K mg base CX0 1 "_law_at" "_law_at" mE qv (kR K Z):=fk0 r0 fun vs H Q E h=>by
 obtain ⟨a,ns,k,rfl,hS,hk,q⟩:=h
 k_all
 refine seg 1 (ai (aC af)) fun zt1 zh1 ze1=>?_
 refine ⟨_,ag (aT (jc (pv' 1) (aE aH (by rfl) T.cS bR (pa1 (pv' 0)))) (ai (aC (ak aq (pv' 0) (pv' 1)))) (aB)) zh1,?_⟩
 k_mem
 refine ⟨_,.inl hS,?_⟩
 rw [JB]
 k_upd
 split
 ·rename_i hlt
  k_upd
  exact ⟨_,hS,_,kz hk hlt,q⟩
 ·rename_i hlt
  rw [pF (by omega)] at q
  k_upd
  exact q
variable (mI:KD P w K mg base CX0 1 "_law_at" (kR K Z))
def sg (c k n:Int)(H:Hp)(_:Nat)(σ:St)(H':Hp):Prop:=H'=H/\∃r t,σ=[some (.int c),some (.int k),some (.int n),some (.int r),t,none]
inductive hZ (K:JA)(Z:Adr)(vs:List V)(H:Hp)(Q:VK)(E:XK):Prop | mk (c k n:Int):vs=[.int c,.int k,.int n]->0<=k->k<=100000->0 < n->(∀r:Int,0<=r->r < n->Q (.int r) H)->hZ K Z vs H Q E
include T in
theorem oB:FF P w K mg base CX0 1 "_law_draw" "_law_draw" ji lE (hZ K Z):=fk0 dD fun vs H Q E h=>by
 obtain ⟨c,k,n,rfl,hk0,hk1,hn,q⟩:=h
 k_all
 refine seg 2 (ai (aC (bj iM (cH (a9 (bj nF (pv' 5) (bj bM (pv' 5) af)) af) af) (pv' 2)))) fun zt2 zh2 ze2=>?_
 refine seg 1 (ag (aO (i:=5) dD.nd rfl orL (a9 (bj bM (bj bM (iO (pv' 0) af) (iO (pv' 1) af)) af) af)) zh2) fun zt1 zh1 ze1=>?_
 refine ⟨_,ag (aT (bV (a9 (pv' 0) af) af) (ag (aO (i:=3) dD.nd rfl orL (cH (pv' 0) af)) (ag (iT PassesOwn.never rfl (bS (by rfl) T.cJ (pa1 (pv' 1))) (bu (i:=4) dD.nd rfl orL) (ai (aO (i:=3) dD.nd rfl orL (cH (pv' 3) af)))) (ai (aC (bj iM (a9 (pv' 3) af) (pv' 2)))))) (aB)) zh1,?_⟩
 k_mem
 split
 ·k_upd
  refine ⟨by omega,by omega,a6 (sg c k n H) ⟨rfl,_,_,rfl⟩ ?_ ?_⟩
  ·rintro i σ H' hi ⟨rfl,r,t,rfl⟩
   k_mem
   exact ⟨rfl,_,_,rfl⟩
  ·rintro σ H' ⟨rfl,r,t,rfl⟩
   k_mem
   exact ⟨hn,q _ (Int.emod_nonneg _ (by omega)) (Int.emod_lt_of_pos _ hn)⟩
 ·k_upd
  refine ⟨.inl ⟨by omega,by omega⟩,hn,q _ (Int.emod_nonneg _ (by omega)) (Int.emod_lt_of_pos _ hn)⟩
variable (jw:KD P w K mg base CX0 1 "_law_draw" (hZ K Z))
inductive gx (K:JA)(Z:Adr)(vs:List V)(H:Hp)(Q:VK)(E:XK):Prop | mk (a:Addr) (ns:List Int) (k:Int):vs=[.ref a,.int k]->SqL K H a (ns.map V.int)->0<=k->k < ns.length->(∀n:Int,Q (.int n) H)->gx K Z vs H Q E
include T in
theorem mJ:FF P w K mg base CX0 1 "_law_mixed" "_law_mixed" hU ka (gx K Z):=fk0 gr fun vs H Q E h=>by
 obtain ⟨a,ns,k,rfl,hS,hk0,hk1,q⟩:=h
 k_all
 refine ⟨_,ag (aO (i:=2) gr.nd rfl orL (ak aq (pv' 0) (pv' 1))) (ag (aT (bV (a9 (ak aq (pv' 0) af) af) af) (ai (aC (pv' 2))) (aB)) (ag (aO (i:=3) gr.nd rfl orL (a9 (bj bM (bj bM (iO (pv' 2) af) (iO (pv' 1) af)) af) af)) (ai (aC (a9 (bj nF (pv' 3) (bj bM (pv' 3) af)) af))))),?_⟩
 k_mem
 refine ⟨_,hS,_,kz hk0 hk1,_,hS,_,kz (ns:=ns) (k:=0) (by omega) (by omega),?_⟩
 k_mem
 split
 ·exact q _
 ·exact ⟨.inl ⟨by omega,by omega⟩,q _⟩
variable (ke:KD P w K mg base CX0 1 "_law_mixed" (gx K Z))
def iw (K:JA)(H:Hp)(as:List Addr)(ds:List Bd):Prop:=eQ (fun a d=>SqT K H a (bdV d)) as ds
theorem iw.same {K:JA}{H H':Hp}{as:List Addr}{ds:List Bd}(h:iw K H as ds)(s:au H H'):iw K H' as ds:=h.imp fun a x q=>s.tup q
theorem qx (d:Bd):∀x∈bdV d,aQ x=true:=by
 cases d<;>intro x hx<;>simp only [bdV,List.mem_cons,List.not_mem_nil,or_false] at hx<;>rcases hx with h | h | h<;>(try subst h)<;>(try rfl)<;>simp_all [aQ]
noncomputable def cv:Bd->Bool
 | .ring _ _=>true
 | _=>false
noncomputable def cW:Bd->Bool
 | .rept _=>true
 | _=>false
noncomputable def jx:Bd->Bool
 | .use _ _=>true
 | _=>false
inductive ES where
 | off
 | rung (l r:Int)
 | fT (l r s:Int) (w:Bool)
noncomputable def esV:ES->List V
 | .off=>[.str "not rung",.non,.non,.non]
 | .rung l r=>[.str "not repeated",.int l,.int r,.non]
 | .fT l r s w=>[.str (if w=true then "used up" else if s=r then "armed" else "repeated otherwise"),.int l,.int r,.int s]
noncomputable def cX (L:List Bd):ES->Prop
 | .off=>∀d∈L,cv d=false
 | .rung l r=>∃A B,L=A++.ring l r::B/\(∀d∈B,cv d=false)/\(∀d∈B,cW d=false)/\∀d∈B,jx d=false
 | .fT l r s w=>∃A B,L=A++.ring l r::B/\(∀d∈B,cv d=false)/\B.filter cW=[.rept s]/\B.any jx=w
theorem lL {K:JA}{l:Addr}{as:List Addr}{L:List Bd}{tc:TT}{te:TE}{cm:List (Option Nat)}{σ:St}{H:Hp}{Q:VK}{j:Nat}(pr:Bd->Bool)(f:Bd->V)(hS:SqL K H l (as.map V.ref))(hD:iw K H as L)(hn:L.length<=1000)(hj:(bf cm σ)[j]?=some none)
  (hc:∀a d,d∈L->SqT K H a (bdV d)->∀N:Bool->Hp->Prop,N (pr d) H->tc ((bf cm σ).set j (some (.ref a))) H N) (he:∀a d,d∈L->SqT K H a (bdV d)->pr d=true->∀N:VK,N (f d) H->te ((bf cm σ).set j (some (.ref a))) H N)
  (hd:∀p,H p=none->Q (.ref p) (upd H p (.lst ((L.filter pr).map f)))):iZ (Itl K l) (dz j) tc te cm σ Q H:=by
 have hal:=hD.1
 refine kE L.length (fun i acc H'=>H'=H/\acc=((L.take i).filter pr).map f) ⟨rfl,rfl⟩ ?_ ?_ ?_ ?_
 ·rintro i acc H' hi ⟨rfl,_⟩
  exact ⟨_,.ref as[i],hS,by rw [List.getElem?_map,List.getElem?_eq_getElem (by omega)];rfl⟩
 ·rintro acc H' ⟨rfl,_⟩
  exact ⟨_,hS,by rw [JB];omega⟩
 ·rintro i acc H' hi ⟨rfl,rfl⟩
  refine ⟨cf ?_,fun x H2 y M hM=>?_⟩
  ·rw [JB]
   have:=List.length_filter_le pr (L.take i)
   rw [List.length_take] at this
   omega
  obtain ⟨e,y⟩:=y
  subst e
  have hy:=y _ hS
  have hia:i < as.length:=by omega
  rw [List.getElem?_map,List.getElem?_eq_getElem hia] at hy
  cases hy
  have hT:=hD.2 i _ _ (List.getElem?_eq_getElem hia) (List.getElem?_eq_getElem hi)
  have hm:=List.getElem_mem hi
  have ht:((L.take (i+1)).filter pr).map f=((L.take i).filter pr).map f++(if pr L[i] then [f L[i]] else []):=by
   rw [List.take_succ_eq_append_getElem hi,List.filter_append,List.map_append]
   cases hp:pr L[i]<;>simp [hp]
  refine ⟨mh hj,hc _ _ hm hT _ ?_⟩
  cases hp:pr L[i] with
  | true=>
   rw [if_pos rfl]
   refine he _ _ hm hT hp _ (hM _ _ ⟨rfl,?_⟩)
   rw [ht,hp];rfl
  | false=>
   rw [if_neg (by decide)]
   refine hM _ _ ⟨rfl,?_⟩
   rw [ht,hp];simp
 ·rintro acc H' ⟨rfl,rfl⟩ p hp
  rw [List.take_length]
  exact hd p hp
noncomputable def gb (d:Bd):Str:=match d with | .ring _ _=>"ring" | .rept _=>"repeat" | .use _ _=>"use" | .fail _=>"fail"
theorem fA (d:Bd):∃r,bdV d=.str (gb d)::r:=by cases d<;>exact ⟨_,rfl⟩
theorem oC (d:Bd):cv d=decide (gb d="ring"):=by cases d<;>rfl
theorem ie (d:Bd):cW d=decide (gb d="repeat"):=by cases d<;>rfl
theorem qy (d:Bd):jx d=decide (gb d="use"):=by cases d<;>rfl
noncomputable def dh (L:List Bd):List Int:=((List.range L.length).filter fun i=>cv (L.getD i (.fail 0))).map fun (i:Nat)=>(i:Int)
noncomputable def tH:Bd->V
 | .rept s=>.int s
 | _=>.non
theorem lM {L:List Bd}(h:∀d∈L,cv d=false):dh L=[]:=by
 unfold dh
 rw [List.filter_eq_nil_iff.mpr fun i hi=>?_]
 ·rfl
 ·rw [List.mem_range] at hi
  rw [List.getD_eq_getElem?_getD,List.getElem?_eq_getElem hi,Option.getD_some,h _ (List.getElem_mem hi)]
  decide
theorem jP (A B:List Bd)(l r:Int)(h:∀d∈B,cv d=false):∃X,dh (A++.ring l r::B)=X++[(A.length:Int)]:=by
 refine ⟨((List.range A.length).filter fun i=>cv ((A++.ring l r::B).getD i (.fail 0))).map fun (i:Nat)=>(i:Int),?_⟩
 unfold dh
 rw [show (A++.ring l r::B).length=(A.length+1)+B.length by rw [List.length_append,List.length_cons];omega,List.range_add,List.filter_append,List.range_succ,List.filter_append,List.filter_cons,
  if_pos (by rw [List.getD_eq_getElem?_getD,List.getElem?_append_right (Nat.le_refl _),Nat.sub_self];rfl),
  (List.filter_eq_nil_iff (l:=(List.range B.length).map _)).mpr fun i hi=>?_]
 ·simp
 ·obtain ⟨j,hj,rfl⟩:=List.mem_map.mp hi
  rw [List.mem_range] at hj
  rw [List.getD_eq_getElem?_getD,List.getElem?_append_right (by omega),show A.length+1+j - A.length=j+1 by omega,List.getElem?_cons_succ,List.getElem?_eq_getElem hj,Option.getD_some,h _ (List.getElem_mem hj)]
  decide
theorem qz {K:JA}{H:Hp}{as:List Addr}{A B:List Bd}{d:Bd}(h:iw K H as (A++d::B)):∃ra asB,(as.map V.ref)[A.length]?=some (.ref ra)/\as.drop (A.length+1)=asB/\SqT K H ra (bdV d)/\iw K H asB B:=by
 have hl:=h.1
 rw [List.length_append,List.length_cons] at hl
 have hlt:A.length < as.length:=by omega
 refine ⟨as[A.length],_,by rw [List.getElem?_map,List.getElem?_eq_getElem hlt];rfl,rfl,h.2 A.length _ _ (List.getElem?_eq_getElem hlt) (by rw [List.getElem?_append_right (Nat.le_refl _),Nat.sub_self];rfl),by rw [List.length_drop];omega,fun i a x e1 e2=>?_⟩
 rw [List.getElem?_drop] at e1
 refine h.2 (A.length+1+i) a x e1 ?_
 rw [List.getElem?_append_right (by omega),show A.length+1+i - A.length=i+1 by omega,List.getElem?_cons_succ]
 exact e2
theorem cX.cas {L:List Bd}{e:ES}(h:cX L e):(e=.off/\∀d∈L,cv d=false)\/∃A B l r,L=A++.ring l r::B/\(∀d∈B,cv d=false)/\((e=.rung l r/\B.filter cW=[])\/∃s w,e=.fT l r s w/\B.filter cW=[.rept s]/\B.any jx=w):=by
 cases e with
 | off=>exact .inl ⟨rfl,h⟩
 | rung l r=>
  obtain ⟨A,B,k,k1,k2,k3⟩:=h
  exact .inr ⟨A,B,l,r,k,k1,.inl ⟨rfl,List.filter_eq_nil_iff.mpr fun x hx=>by rw [k2 x hx];decide⟩⟩
 | fT l r s w=>
  obtain ⟨A,B,k,k1,k2,k3⟩:=h
  exact .inr ⟨A,B,l,r,k,k1,.inr ⟨s,w,rfl,k2,k3⟩⟩
theorem si (B:List Bd):inV (.str "use") ((B.filter fun _=>true).map fun d=>.str (gb d))=B.any jx:=by
 unfold inV
 rw [List.filter_eq_self.mpr fun _ _=>rfl,List.any_map]
 congr 1
 funext d
 rw [qy]
 rfl
def dO (H:Hp)(as:List Addr)(L:List Bd):Prop:=eQ (fun a d=>H a=some (.tup (bdV d))) as L
theorem dO.same {H H':Hp}{as:List Addr}{L:List Bd}(h:dO H as L)(s:au H H'):dO H' as L:=h.imp fun a x q=>s _ _ q
theorem dO.at {K:JA}{H:Hp}{as:List Addr}{L:List Bd}(h:dO H as L):iw K H as L:=h.imp fun a x q=>SqT.of q
theorem kS (lv:Int)(d:Bd):(eqL (bdV d) [V.str "fail",V.int lv]=true↔d=.fail lv)/\(bdV d=[V.str "fail",V.int lv]↔d=.fail lv):=by
 cases d<;>simp [bdV,eqL,eqV]<;>first | exact fun h=>absurd h (by decide) | exact ⟨fun h=>absurd h (by decide),fun h=>absurd h (by decide)⟩
open Classical in
theorem sj {K:JA}{H:Hp}{as:List Addr}{L:List Bd}{a:Addr}{lv:Int}(hD:dO H as L)(ha:H a=some (.tup (bdV (.fail lv)))):∃f:Addr->Bool,(∀q∈as,(q=a->f q=true)/\∃t,SqT K H q t/\t.all aQ=true/\eqL t (bdV (.fail lv))=f q)/\(as.any f=true↔Bd.fail lv∈L):=by
 refine ⟨fun q=>decide (H q=some (.tup (bdV (.fail lv)))),fun q hq=>⟨fun z=>decide_eq_true (by rw [z];exact ha),?_⟩,?_⟩
 ·obtain ⟨i,hi⟩:=List.getElem?_of_mem hq
  have hlt:=(List.getElem?_eq_some_iff.mp hi).1
  have hl:=hD.1
  obtain ⟨d,ed⟩:∃d,L[i]?=some d:=⟨_,List.getElem?_eq_getElem (by omega)⟩
  have hd:=hD.2 i q d hi ed
  refine ⟨bdV d,SqT.of hd,List.all_eq_true.mpr (qx d),?_⟩
  rw [Bool.eq_iff_iff,decide_eq_true_eq,hd]
  show eqL (bdV d) [V.str "fail",V.int lv]=true↔_
  rw [(kS lv d).1,←(kS lv d).2]
  exact ⟨fun z=>(by rw [z];rfl),fun z=>(by injection z with z;injection z)⟩
 ·rw [List.any_eq_true]
  constructor
  ·rintro ⟨q,hq,e⟩
   rw [decide_eq_true_eq] at e
   obtain ⟨i,hi⟩:=List.getElem?_of_mem hq
   have hlt:=(List.getElem?_eq_some_iff.mp hi).1
   have hl:=hD.1
   obtain ⟨d,ed⟩:∃d,L[i]?=some d:=⟨_,List.getElem?_eq_getElem (by omega)⟩
   have hd:=hD.2 i q d hi ed
   rw [hd] at e
   have:bdV d=[V.str "fail",V.int lv]:=by injection e with e;injection e
   rw [(kS lv d).2] at this
   rw [←this]
   exact List.mem_of_getElem? ed
  ·intro hm
   obtain ⟨i,hi⟩:=List.getElem?_of_mem hm
   have hlt:=(List.getElem?_eq_some_iff.mp hi).1
   have hl:=hD.1
   refine ⟨as[i],List.getElem_mem (by omega),decide_eq_true (hD.2 i _ _ (List.getElem?_eq_getElem (by omega)) hi)⟩
theorem iP (w:Bool)(s r:Int):¬(if w=true then ("used up":Str) else if s=r then "armed" else "repeated otherwise")="not repeated":=by
 cases w
 ·rw [if_neg Bool.false_ne_true]
  split<;>decide
 ·rw [if_pos rfl]
  decide
noncomputable def jy:Eng->ES
 | .no=>.off
 | .wait l r=>.rung l r
 | .armed l r=>.fT l r r false
 | .other l r s=>.fT l r s false
 | .used l r=>.fT l r r true
theorem cX.thing {L:List Bd}{e:ES}{d:Bd}(h:cX L e)(h1:cv d=false)(h2:cW d=false)(h3:jx d=false):cX (L++[d]) e:=by
 cases e with
 | off=>
  intro x hx
  rw [List.mem_append,List.mem_singleton] at hx
  rcases hx with hx | rfl
  ·exact h x hx
  ·exact h1
 | rung l r=>
  obtain ⟨A,B,rfl,k1,k2,k3⟩:=h
  refine ⟨A,B++[d],by rw [List.append_assoc,List.cons_append],?_,?_,?_⟩<;>intro x hx<;>rw [List.mem_append,List.mem_singleton] at hx<;>rcases hx with hx | rfl
  ·exact k1 x hx
  ·exact h1
  ·exact k2 x hx
  ·exact h2
  ·exact k3 x hx
  ·exact h3
 | fT l r s w=>
  obtain ⟨A,B,rfl,k1,k2,k3⟩:=h
  refine ⟨A,B++[d],by rw [List.append_assoc,List.cons_append],?_,?_,?_⟩
  ·intro x hx
   rw [List.mem_append,List.mem_singleton] at hx
   rcases hx with hx | rfl
   ·exact k1 x hx
   ·exact h1
  ·rw [List.filter_append,k2,List.filter_cons,if_neg (by rw [h2];decide)];rfl
  ·rw [List.any_append,k3,List.any_cons,h3];simp
theorem cX.rept {L:List Bd}{l r:Int}(s:Int)(h:cX L (.rung l r)):cX (L++[.rept s]) (.fT l r s false):=by
 obtain ⟨A,B,rfl,k1,k2,k3⟩:=h
 refine ⟨A,B++[.rept s],by rw [List.append_assoc,List.cons_append],?_,?_,?_⟩
 ·intro x hx
  rw [List.mem_append,List.mem_singleton] at hx
  rcases hx with hx | rfl
  ·exact k1 x hx
  ·rfl
 ·rw [List.filter_append,List.filter_eq_nil_iff.mpr fun x hx=>by rw [k2 x hx];decide];rfl
 ·rw [List.any_append,List.any_eq_false.mpr fun x hx=>by rw [k3 x hx];decide];rfl
theorem cX.use {L:List Bd}{l r s l':Int}{w:Bool}{k:Str}(h:cX L (.fT l r s w)):cX (L++[.use l' k]) (.fT l r s true):=by
 obtain ⟨A,B,rfl,k1,k2,k3⟩:=h
 refine ⟨A,B++[.use l' k],by rw [List.append_assoc,List.cons_append],?_,?_,?_⟩
 ·intro x hx
  rw [List.mem_append,List.mem_singleton] at hx
  rcases hx with hx | rfl
  ·exact k1 x hx
  ·rfl
 ·rw [List.filter_append,k2];rfl
 ·rw [List.any_append];simp [jx]
theorem uU {c:Prop}[Decidable c]{a:Rb}{x:Option Rb}(h:(if c then some a else x)=none):¬c/\x=none:=by
 split at h
 ·cases h
 ·rename_i n;exact ⟨n,h⟩
theorem wg {c:Prop}[Decidable c]{a:Rb}(h:(if c then none else some a)=none):c:=by
 split at h
 ·assumption
 ·cases h
structure M14 (ls:List Cd)(fs:List Bool)(e:Eng)(L:List Bd):Prop where
 fl:∀i:Nat,i < ls.length->(fs.getD i false=true↔Bd.fail (i:Int)∈L)
 en:cX L (jy e)
 ot:∀l r s,e=.other l r s->s≠r
 ew:∀l r,e=.wait l r\/e=.armed l r->0<=l/\l < ls.length
theorem M14.zero {ls:List Cd}{fs:List Bool}(h:∀i:Nat,fs.getD i false=false):M14 ls fs .no []:=
 ⟨fun i _=>by rw [h i];simp,fun x hx=>(nomatch hx),fun l r s e=>(nomatch e),fun l r e=>by rcases e with e | e<;>cases e⟩
theorem M14.next {ls:List Cd}{fs:List Bool}{e:Eng}{L:List Bd}{d:Bd}(h:M14 ls fs e L)(hl:fs.length=ls.length)(hr:bL ls fs e d=none):M14 ls (pP fs d) (om ls e d) (L++[d]):=by
 have fnot:(∀l,d≠.fail l)->∀i:Nat,(Bd.fail (i:Int)∈L++[d]↔Bd.fail (i:Int)∈L):=fun z i=>by
  rw [List.mem_append,List.mem_singleton]
  exact ⟨fun y=>y.elim id fun y=>absurd y.symm (z _),.inl⟩
 cases d with
 | ring l s=>
  obtain ⟨h1,_⟩:=uU hr
  exact ⟨fun i hi=>(by rw [fnot (fun l e=>by cases e)];exact h.fl i hi),⟨L,[],rfl,fun x hx=>(nomatch hx),fun x hx=>(nomatch hx),fun x hx=>(nomatch hx)⟩,fun _ _ _ e=>(by cases e),fun l' r e=>by
   rcases e with e | e
   ·cases e;omega
   ·cases e⟩
 | rept s=>
  simp only [bL] at hr
  split at hr
  ·rename_i l r
   have en:=h.en
   have:=cX.rept s en
   refine ⟨fun i hi=>(by rw [fnot (fun l e=>by cases e)];exact h.fl i hi),?_,?_,?_⟩
   ·simp only [om]
    split
    ·rename_i e;subst e;exact this
    ·exact this
   ·intro l' r' s' e
    simp only [om] at e
    split at e
    ·cases e
    ·cases e;assumption
   ·intro l' r' e
    have:=h.ew l r (.inl rfl)
    simp only [om] at e
    split at e<;>rcases e with e | e<;>cases e
    exact this
  ·cases hr
 | use l k=>
  obtain ⟨h1,hr'⟩:=uU hr
  have e0:e=.armed l (a7 ls l k):=wg hr'
  subst e0
  exact ⟨fun i hi=>(by rw [fnot (fun l e=>by cases e)];exact h.fl i hi),cX.use h.en,fun _ _ _ e=>(by cases e),fun _ _ e=>by rcases e with e | e<;>cases e⟩
 | fail l=>
  obtain ⟨h1,hr'⟩:=uU hr
  refine ⟨fun i hi=>?_,h.en.thing rfl rfl rfl,h.ot,h.ew⟩
  show (fs.set l.toNat true).getD i false=true↔_
  rw [ox,List.mem_append,List.mem_singleton]
  by_cases e:l=(i:Int)
  ·rw [if_pos ⟨by omega,by omega⟩];simp [e]
  ·rw [if_neg (by omega),h.fl i hi]
   exact ⟨.inl,fun y=>y.elim id fun y=>absurd (by cases y;rfl) e⟩
theorem vQ {e:Eng}(h:∀l r s,e=.other l r s->s≠r):∃wd dP,esV (jy e)=.str wd::dP/\(wd="not repeated"->∃l r,e=.wait l r)/\(wd="armed"->∃l r,e=.armed l r):=by
 cases e with
 | no=>exact ⟨_,_,rfl,fun z=>absurd z (by decide),fun z=>absurd z (by decide)⟩
 | wait l r=>exact ⟨_,_,rfl,fun _=>⟨l,r,rfl⟩,fun z=>absurd z (by decide)⟩
 | armed l r=>exact ⟨_,_,rfl,fun z=>absurd z (iP _ _ _),fun _=>⟨l,r,rfl⟩⟩
 | other l r s=>exact ⟨_,_,rfl,fun z=>absurd z (iP _ _ _),fun z=>absurd z (by rw [if_neg Bool.false_ne_true,if_neg (h l r s rfl)];decide)⟩
 | used l r=>exact ⟨_,_,rfl,fun z=>absurd z (iP _ _ _),fun z=>absurd z (by rw [if_pos rfl];decide)⟩
theorem so {e:Eng}(h:∀l r s,e=.other l r s->s≠r):esV (jy e)=i7 e:=by
 cases e with
 | no=>rfl
 | wait l r=>rfl
 | armed l r=>show [_,_,_,_]=_;rw [if_neg Bool.false_ne_true,if_pos rfl];rfl
 | other l r s=>show [_,_,_,_]=_;rw [if_neg Bool.false_ne_true,if_neg (h l r s rfl)];rfl
 | used l r=>rfl
theorem kg {α:Type}(xs:List α)(i:Nat):(xs.map fun _=>false).getD i false=false:=by
 rw [List.getD_eq_getElem?_getD,List.getElem?_map]
 cases xs[i]?<;>rfl
inductive fB (K:JA)(Z:Adr)(vs:List V)(H:Hp)(Q:VK)(E:XK):Prop | mk (dn:Addr) (as:List Addr) (L:List Bd) (e:ES):vs=[.ref dn]->H dn=some (.lst (as.map V.ref))->iw K H as L->L.length<=1000->cX L e->(∀p H',au H H'->SqT K H' p (esV e)->Q (.ref p) H')->fB K Z vs H Q E
include T in
theorem lO:FF P w K mg base CX0 1 "_law_engine" "_law_engine" gu je (fB K Z):=fk0 cA fun vs H Q E h=>by
 obtain ⟨dn,as,L,e,rfl,hdn,hD,hL,hE,q⟩:=h
 k_all
 refine seg 8 (ai (aC (ba (pa4 aw (ak av (pv' 2) af) (ak av (pv' 2) af) (ak aq (pv' 4) af))))) fun zt8 zh8 ze8=>?_
 refine seg 7 (ag (aT (bV (ak aq (pv' 4) af) (ak av (pv' 2) af)) (ai (aC (ba (pa4 aw (ak av (pv' 2) af) (ak av (pv' 2) af) (ak aq (pv' 4) af))))) (aB)) zh8) fun zt7 zh7 ze7=>?_
 refine seg 6 (ag (aT (dC jb aw (pE ["_law_deed_here"] [none] (eY (pv' 3)) (fun _ _ _ _=>(bu (i:=0) (show (["_law_deed_here"]:List Str).Nodup by decide +kernel) rfl orL)) (fun _ _ _ _=>iL) (fun _ _ _ _=>(ak (show IxR _ (ja K) from av) (pv' 0) af))) (by rfl)) (ai (aC (ba (pa4 aw (ak av (pv' 2) af) (ak av (pv' 2) af) (ak aq (pv' 4) af))))) (aB)) zh7) fun zt6 zh6 ze6=>?_
 refine seg 5 (ag (aT (dC (nG hr.units0) (pv' 4) (bg gh) (bD _)) (ai (aC (ba (pa4 aw (ak av (pv' 2) af) (ak av (pv' 2) af) dQ)))) (aB)) zh6) fun zt5 zh5 ze5=>?_
 refine seg 4 (ag (j3 ["_law_deed_here"] [none] (iy:=4) cA.nd rfl rfl (eY (pv' 3)) (fun _ _ _ _=>(bu (i:=0) (show (["_law_deed_here"]:List Str).Nodup by decide +kernel) rfl orL)) (fun _ _ _ _=>(gD (bV (ak (show IxR _ (ja K) from av) (pv' 0) af) aw))) (fun _ _ _ _=>(ak (show IxR _ (ja K) from av) (pv' 0) af))) zh5) fun zt4 zh4 ze4=>?_
 refine seg 3 (ag (aO (i:=3) cA.nd rfl orL (ph qp (pv' 0) (qs (bj bM (ak aq (pv' 1) (sV nH af)) af)) qP)) zh4) fun zt3 zh3 ze3=>?_
 refine seg 2 (ag (aO (i:=2) cA.nd rfl orL (ak aq (pv' 0) (ak aq (pv' 1) (sV nH af)))) zh3) fun zt2 zh2 ze2=>?_
 refine seg 1 (ag (aT (dC (nG hr.units0) (pv' 1) (bg gh) (bD _)) (ai (aC (ba (pa4 aw dQ dQ dQ)))) (aB)) zh2) fun zt1 zh1 ze1=>?_
 refine ⟨_,ag (j3 ["_law_k","_law_done"] [none,some 0] (iy:=1) cA.nd rfl rfl (bS (by rfl) T.cJ (pa1 (aE aH (by rfl) T.cS bR (pa1 (pv' 0))))) (fun _ _ _ _=>(bu (i:=0) (show (["_law_k","_law_done"]:List Str).Nodup by decide +kernel) rfl orL)) (fun _ _ _ _=>(gD (bV (ak (show IxR _ (ja K) from av) (ak (show IxR _ (j6 K) from aq) (pv' 1) (pv' 0)) af) aw))) (fun _ _ _ _=>(pv' 0))) zh1,?_⟩
 have hal:=hD.1
 k_mem
 refine ⟨_,.inl (SqL.of hdn),by rw [JB,hal];omega,by rw [JB,hal];omega,?_⟩
 rw [JB,Int.toNat_natCast,hal]
 refine eP (fun i=>cv (L.getD i (.fail 0))) (fun (i:Nat)=>.int (i:Int)) (by rw [sizeLine_eq];omega) rfl (fun i hi N hN=>?_) (fun i hi _ N hN=>?_) fun p1 hp1=>?_
 ·obtain ⟨da,eda⟩:∃da,as[i]?=some da:=⟨_,List.getElem?_eq_getElem (by omega)⟩
  have ed:L[i]?=some (L.getD i (.fail 0)):=by rw [List.getD_eq_getElem?_getD,List.getElem?_eq_getElem hi];rfl
  obtain ⟨r,er⟩:=fA (L.getD i (.fail 0))
  have hT:SqT K H da (bdV (L.getD i (.fail 0))):=hD.2 i da _ eda ed
  rw [er] at hT
  k_mem
  refine ⟨_,SqL.of hdn,_,(by rw [Int.zero_add];exact ay (by rw [List.getElem?_map,eda];rfl)),?_⟩
  k_mem
  refine ⟨_,hT,_,ay (k:=0) rfl,?_⟩
  k_mem
  rw [oC] at hN
  k_upd
  split
  ·rename_i e;rw [decide_eq_true e] at hN;exact hN
  ·rename_i e;rw [decide_eq_false e] at hN;exact hN
 ·k_mem
  rw [Int.zero_add]
  exact hN
 rw [show List.map (fun (i:Nat)=>V.int (i:Int)) (List.filter (fun i=>cv (L.getD i (Bd.fail 0))) (List.range L.length))=(dh L).map V.int by unfold dh;rw [List.map_map];rfl] at *
 (generalize hE:upd H p1 _=H1 at *;have s1:=bc hE hp1;have e1:=aJ hE;clear hE)
 k_mem
 refine ⟨by decide,fun p2 hp2=>?_⟩
 (generalize hE:upd H1 p2 _=H2 at *;have s2:=bc hE hp2;have e2:=aJ hE;clear hE)
 k_upd
 refine ⟨_,SqL.of (s2 _ _ e1),_,SqL.of e2,by simp [aQ],rfl,?_⟩
 rw [rW]
 have s12:=s1.trans s2
 rcases hE.cas with ⟨rfl,hE⟩ | ⟨A,B,l,r,rfl,k1,hE⟩
 ·rw [show decide ((dh L).map V.int=[])=true by rw [decide_eq_true_eq,List.map_eq_nil_iff];exact lM hE]
  k_mem
  refine ⟨by decide,fun p3 hp3=>?_⟩
  k_upd
  exact q p3 _ (s12.lay hp3) (SqT.of ae)
 ·obtain ⟨X,eX⟩:=jP A B l r k1
  obtain ⟨ra,asB,hra,easB,hTr,hDB⟩:=qz hD
  rw [show decide ((dh (A++.ring l r::B)).map V.int=[])=false by rw [eX];simp]
  k_upd
  rw [if_neg (by decide)]
  rw [eX] at e1
  have hlB:B.length<=1000:=by rw [List.length_append,List.length_cons] at hL;omega
  have hlA:A.length<=1000:=by rw [List.length_append,List.length_cons] at hL;omega
  have hlas:A.length+1<=as.length:=by rw [hal,List.length_append,List.length_cons];omega
  have em1:atI ((X++[(A.length:Int)]).map V.int) (-1)=some (.int A.length):=by rw [uq (by simp)];simp [dy]
  k_mem
  refine ⟨_,SqL.of (s2 _ _ e1),_,em1,?_⟩
  k_mem
  refine ⟨_,SqL.of (s12 _ _ hdn),_,ay hra,?_⟩
  k_mem
  refine ⟨_,SqL.of (s2 _ _ e1),_,em1,?_⟩
  k_mem
  refine ⟨_,SqL.of (s12 _ _ hdn),fun p3 hp3=>?_⟩
  rw [show k8 (as.map V.ref) (some ((A.length:Int)+1)) none=asB.map V.ref by rw [←easB];exact uy as V.ref (A.length+1) hlas] at *
  (generalize hE:upd H2 p3 _=H3 at *;have s3:=bc hE hp3;have e3:=aJ hE;clear hE)
  have s13:=s12.trans s3
  k_mem
  refine ⟨⟨_,SqL.of e3⟩,?_⟩
  refine lL cW tH (SqL.of e3) (hDB.same s13) hlB rfl (fun a d _ hT N hN=>?_) (fun a d _ hT hp N hN=>?_) fun p4 hp4=>?_
  ·obtain ⟨r',er⟩:=fA d
   rw [er] at hT
   k_mem
   refine ⟨_,hT,_,ay (k:=0) rfl,?_⟩
   k_mem
   rw [ie] at hN
   k_upd
   split
   ·rename_i e;rw [decide_eq_true e] at hN;exact hN
   ·rename_i e;rw [decide_eq_false e] at hN;exact hN
  ·obtain ⟨sv,rfl⟩:∃sv,d=.rept sv:=by cases d<;>first | exact ⟨_,rfl⟩ | cases hp
   k_mem
   exact ⟨_,hT,_,ay (k:=1) rfl,hN⟩
  (generalize hE:upd H3 p4 _=H4 at *;have s4:=bc hE hp4;have e4:=aJ hE;clear hE)
  have s14:=s13.trans s4
  k_mem
  refine ⟨by decide,fun p5 hp5=>?_⟩
  (generalize hE:upd H4 p5 _=H5 at *;have s5:=bc hE hp5;have e5:=aJ hE;clear hE)
  have s15:=s14.trans s5
  have hT5:SqT K H5 ra [.str "ring",.int l,.int r]:=s15.tup hTr
  rcases hE with ⟨rfl,k2⟩ | ⟨sv,w,rfl,k2,k3⟩
  ·rw [k2] at e4
   k_upd
   refine ⟨_,SqL.of (s5 _ _ e4),_,SqL.of e5,rfl,rfl,?_⟩
   k_mem
   rw [if_pos (show eqL ([]:List V) []=true from rfl)]
   k_upd
   exact ⟨_,hT5,_,ay (k:=1) rfl,_,hT5,_,ay (k:=2) rfl,by decide,fun p6 hp6=>q p6 _ (s15.lay hp6) (SqT.of ae)⟩
  ·rw [k2] at e4
   k_upd
   refine ⟨_,SqL.of (s5 _ _ e4),_,SqL.of e5,rfl,rfl,?_⟩
   k_mem
   rw [if_neg (show ¬eqL [tH (.rept sv)] []=true from Bool.false_ne_true)]
   k_mem
   have e4':=s5 _ _ e4
   k_upd
   refine ⟨⟨_,SqL.of ((s4.trans s5) _ _ e3)⟩,?_⟩
   refine lL (fun _=>true) (fun d=>.str (gb d)) (SqL.of ((s4.trans s5) _ _ e3)) (hDB.same s15) hlB rfl (fun a d _ hT N hN=>?_) (fun a d _ hT hp N hN=>?_) fun p6 hp6=>?_
   ·k_mem
    exact hN
   ·obtain ⟨r',er⟩:=fA d
    rw [er] at hT
    k_mem
    exact ⟨_,hT,_,ay (k:=0) rfl,hN⟩
   (generalize hE:upd H5 p6 _=H6 at *;have s6:=bc hE hp6;have e6:=aJ hE;clear hE)
   have s16:=s15.trans s6
   have e46:=s6 _ _ e4'
   have hT6:SqT K H6 ra [.str "ring",.int l,.int r]:=s16.tup hTr
   k_upd
   refine ⟨_,.inl (SqL.of e6),rfl,by simp [aQ],?_⟩
   rw [si,k3]
   cases w with
   | true=>
    rw [if_pos rfl]
    k_upd
    exact ⟨_,hT6,_,ay (k:=1) rfl,_,hT6,_,ay (k:=2) rfl,_,SqL.of e46,_,rfl,by decide,fun p7 hp7=>q p7 _ (s16.lay hp7) (SqT.of ae)⟩
   | false=>
    rw [if_neg Bool.false_ne_true]
    k_mem
    refine ⟨_,SqL.of e46,V.int sv,rfl,_,hT6,_,ay (k:=2) rfl,?_⟩
    k_mem
    by_cases hs:sv=r
    ·rw [if_pos hs]
     k_upd
     refine ⟨_,hT6,_,ay (k:=1) rfl,_,hT6,_,ay (k:=2) rfl,_,SqL.of e46,_,rfl,by decide,fun p7 hp7=>q p7 _ (s16.lay hp7) (SqT.of (by rw [ae];show _=some (HO.tup (esV (.fT l r sv false)));rw [esV,if_neg Bool.false_ne_true,if_pos hs];rfl))⟩
    ·rw [if_neg hs]
     k_mem
     refine ⟨_,hT6,_,ay (k:=1) rfl,_,hT6,_,ay (k:=2) rfl,_,SqL.of e46,_,rfl,by decide,fun p7 hp7=>q p7 _ (s16.lay hp7) (SqT.of (by rw [ae];show _=some (HO.tup (esV (.fT l r sv false)));rw [esV,if_neg Bool.false_ne_true,if_neg hs];rfl))⟩
variable (bJ:KD P w K mg base CX0 1 "_law_engine" (fB K Z))
inductive cY (K:JA)(Z:Adr)(vs:List V)(H:Hp)(Q:VK)(E:XK):Prop | mk (lv m:Int):vs=[.int lv,.int m]->((0<=lv/\lv < m->Q .non H)/\(¬(0<=lv/\lv < m)->E (.ref Z.az) none H))->cY K Z vs H Q E
include T ju in
theorem jz:FF P w K mg base (CXf P w) 2 "check_level" "check_level" di fV (cY K Z):=fkF jg fun vs H Q E h=>by
 obtain ⟨lv,m,rfl,q1,q2⟩:=h
 k_all
 refine ⟨_,ai (aT (dS (bz (dc0 ju hr.dn (pa2 (pv' 0) (pv' 1))))) (ai (cO T.jt (by rfl) T.fi (pa1 aw))) (aB)),?_⟩
 k_mem
 refine ⟨_,_,rfl,?_⟩
 k_mem
 split
 ·rename_i h
  k_upd
  exact ⟨by decide,q2 h⟩
 ·rename_i h
  k_upd
  exact q1 (by simpa using h)
variable (bC:KD P w K mg base (CXf P w) 2 "check_level" (cY K Z))
inductive cE (K:JA)(Z:Adr)(vs:List V)(H:Hp)(Q:VK)(E:XK):Prop | mk (b cs fl st:Addr) (ls:List Cd) (fs:List Bool) (e:Eng) (s:Int):vs=[.ref b,.int s]->aL Z.aP K H b cs fl st ls fs e->(((∀l r,e≠.wait l r)->E (.ref Z.aF) none H))->((∀l r,e=.wait l r->¬(1<=s/\s<=9)->E (.ref Z.bq) none H))->((∀l r,e=.wait l r->(1<=s/\s<=9)->∀st' p H',H p=none->aD b H H'->aL Z.aP K H' b cs fl st' ls fs (if s=r then .armed l r else .other l r s)->SqT K H' p [.bl (decide (s=r)),.int r,.int s]->Q (.ref p) H'))->cE K Z vs H Q E
include T fZ in
theorem iJ:FF P w K mg base (CXf P w) 2 "repeat" "Bells.repeat" cQ eZ (cE K Z):=fkF bP fun vs H Q E h=>by
 obtain ⟨b,cs,fl,st,ls,fs,e,s,rfl,hB,q1,q2,q3⟩:=h
 k_all
 refine ⟨_,ag (aT (j8 (ak av (bG (pv' 0)) af) aw) (ai (cO T.jM (by rfl) T.fY (pa1 aw))) (aB)) (ag (aT (dS (bz (dc0 fZ hr.dn (pa1 (pv' 1))))) (ai (cO T.lJ (by rfl) T.jq (pa1 aw))) (aB)) (ag (aO (i:=2) bP.nd rfl orL (ak av (bG (pv' 0)) af)) (ag (aO (i:=3) bP.nd rfl orL (ak av (bG (pv' 0)) af)) (ag (aO (i:=4) bP.nd rfl orL (bE gp (pv' 1) (pv' 3) (bD _))) (ag (fJ (pv' 0) (ba (pa4 (oP (bz (pv' 4)) aw aw) (pv' 2) (pv' 3) (pv' 1))) rfl) (ai (aC (ba (pa3 (pv' 4) (pv' 3) (pv' 1)))))))))),?_⟩
 obtain ⟨⟨dx,hob⟩,⟨as,hcs,hT⟩,hfl,hst,nn,ln⟩:=id hB
 k_mem
 refine fgo hob T.aR T.aS rfl ?_
 k_mem
 cases e with
 | wait l r=>
  refine ⟨_,hst,_,rfl,?_⟩
  k_mem
  refine ⟨_,rfl,?_⟩
  k_mem
  split
  ·rename_i h
   exact ⟨by decide,q2 l r rfl h⟩
  ·rename_i h
   have hs:1<=s/\s<=9:=by simpa using h
   refine fgo hob T.aR T.aS rfl ?_
   k_mem
   refine ⟨_,hst,_,rfl,?_⟩
   k_mem
   refine fgo hob T.aR T.aS rfl ?_
   k_mem
   refine ⟨_,hst,_,rfl,?_⟩
   k_mem
   split
   ·rename_i hr
    refine ⟨by decide,fun st' hst'=>⟨_,_,_,upo hob hst',T.aR,T.aS,by show 3 < 1000;decide,by decide,fun p hp=>?_⟩⟩
    have nsx:st'≠b:=fun z=>by rw [z,hob] at hst';cases hst'
    have hpn:=upn (aD.free (H':=upd (upd H st' (HO.tup [V.str (Str.ofString "armed"),V.int l,V.int r,V.int s])) b (HO.ins Z.aP dx (bQ "state" (.ref st') [("codes",V.ref cs),("failed",V.ref fl),("state",V.ref st)]))) (p:=b) ((aD.of (au.refl _)).put) (fun z=>by rw [z,ae] at hp;cases hp) hp)
    have k:=((aD.of ((au.refl H).lay (o:=HO.tup [V.str (Str.ofString "armed"),V.int l,V.int r,V.int s]) hst')).put (o:=HO.ins Z.aP dx (bQ "state" (.ref st') [("codes",V.ref cs),("failed",V.ref fl),("state",V.ref st)])) (p:=b))
    refine q3 l r rfl hs st' p _ hpn (k.trans (aD.of ((au.refl _).lay hp))) ?_ (SqT.of ?_)
    ·refine (hB.state k (dx:=dx) (by rw [ae];rfl) (SqT.of (xs:=i7 (if s=r then .armed l r else .other l r s)) ?_)).same ((au.refl _).lay hp)
     rw [aj nsx,ae,if_pos hr,hr];rfl
    ·rw [ae]
   ·rename_i hr
    refine ⟨by decide,fun st' hst'=>⟨_,_,_,upo hob hst',T.aR,T.aS,by show 3 < 1000;decide,by decide,fun p hp=>?_⟩⟩
    have nsx:st'≠b:=fun z=>by rw [z,hob] at hst';cases hst'
    have hpn:=upn (aD.free (H':=upd (upd H st' (HO.tup [V.str (Str.ofString "repeated otherwise"),V.int l,V.int r,V.int s])) b (HO.ins Z.aP dx (bQ "state" (.ref st') [("codes",V.ref cs),("failed",V.ref fl),("state",V.ref st)]))) (p:=b) ((aD.of (au.refl _)).put) (fun z=>by rw [z,ae] at hp;cases hp) hp)
    have k:=((aD.of ((au.refl H).lay (o:=HO.tup [V.str (Str.ofString "repeated otherwise"),V.int l,V.int r,V.int s]) hst')).put (o:=HO.ins Z.aP dx (bQ "state" (.ref st') [("codes",V.ref cs),("failed",V.ref fl),("state",V.ref st)])) (p:=b))
    refine q3 l r rfl hs st' p _ hpn (k.trans (aD.of ((au.refl _).lay hp))) ?_ (SqT.of ?_)
    ·refine (hB.state k (dx:=dx) (by rw [ae];rfl) (SqT.of (xs:=i7 (if s=r then .armed l r else .other l r s)) ?_)).same ((au.refl _).lay hp)
     rw [aj nsx,ae,if_neg hr];rfl
    ·rw [ae]
 | _=>
  refine ⟨_,hst,_,rfl,?_⟩
  k_mem
  first
  | rw [if_pos (by decide)]
  | skip
  exact ⟨by decide,q1 fun l r z=>Eng.noConfusion z⟩
variable (fC:KM P w K mg base (CXf P w) 2 Z.aP "repeat" (cE K Z))
def qA (K:JA)(c m:Int)(l:Addr)(H:Hp)(i:Nat)(σ:St)(H':Hp):Prop:=au H H'/\∃(as:List Addr) (ls:List Cd) (t u:Option V),σ=[some (.int c),some (.int m),some (.ref l),t,u]/\H' l=some (.lst (as.map V.ref))/\aK cdV K H' as ls/\ls.length=i/\∀x∈ls,i6 x
inductive gy (K:JA)(Z:Adr)(vs:List V)(H:Hp)(Q:VK)(E:XK):Prop | mk (c m:Int):vs=[.int c,.int m]->0<=m->m<=500->(∀(l:Addr) (as:List Addr) (ls:List Cd) (H':Hp),H l=none->au H H'->H' l=some (.lst (as.map V.ref))->aK cdV K H' as ls->(ls.length:Int)=m->(∀x∈ls,i6 x)->Q (.ref l) H')->gy K Z vs H Q E
include T jw in
theorem mK:FF P w K mg base CX0 2 "_law_codes" "_law_codes" hW kb (gy K Z):=fk0 eo fun vs H Q E h=>by
 obtain ⟨c,m,rfl,h0,h1,q⟩:=h
 k_all
 refine ⟨_,ag (aO (i:=2) eo.nd rfl orL (bg gh)) (ag (iT PassesOwn.never rfl (bS (by rfl) T.cJ (pa1 (pv' 1))) (bu (i:=3) eo.nd rfl orL) (ag (aO (i:=4) eo.nd rfl orL (bj bM af (dc0 jw hr.dn (pa3 (pv' 0) (lD af (pv' 3)) af)))) (ai (bK (eT PySem.F.plainAttrs_list PySem.F.slot_list_append PySem.F.type_list_append bx (pv' 2) (pa1 (ba (pa2 (pv' 4) (bj bM af (a9 (bj bM (pv' 4) (dc0 jw hr.dn (pa3 (pv' 0) (bj bM (lD af (pv' 3)) af) af))) af)))))))))) (ai (aC (pv' 2)))),?_⟩
 k_mem
 refine ⟨by decide,fun l hl=>⟨by omega,by omega,?_⟩⟩
 refine a6 (qA K c m l H) ⟨(au.refl H).lay hl,[],[],_,_,rfl,ae,aK.nil,rfl,fun x hx=>by cases hx⟩ ?_ ?_
 ·rintro i σ H' hi ⟨s1,as,ls,t,u,rfl,hl',hT,hlen,hg⟩
  k_mem
  refine ⟨c,2 * (0 + ↑i),9,rfl,by omega,by omega,by omega,fun r1 h2 h3=>?_⟩
  k_mem
  refine ⟨.inl ⟨rfl,_,SqL.of hl'⟩,c,2 * (0 + ↑i)+1,8,rfl,by omega,by omega,by omega,fun r2 h4 h5=>?_⟩
  k_mem
  refine ⟨by decide,fun p2 hp2=>⟨_,upo hl' hp2,cf (by rw [JB,hT.1];omega),?_⟩⟩
  have hl2:=upo (o:=HO.tup [V.int (1+r1),V.int (1+(1+r1+r2) % 9)]) hl' hp2
  refine ⟨(s1.lay hp2).rewr hl,as++[p2],ls++[(1+r1,1+(1+r1+r2) % 9)],_,_,rfl,?_,?_,by rw [List.length_append,hlen];rfl,?_⟩
  ·rw [ae,List.map_append];rfl
  ·exact ((hT.same ((au.refl H').lay hp2)).app (aK.one (SqT.of ae))).rew hl2
  ·intro x hx
   rcases List.mem_append.mp hx with hx | hx
   ·exact hg x hx
   ·rw [List.mem_singleton] at hx
    subst hx
    refine ⟨⟨?_,?_⟩,⟨?_,?_⟩,?_⟩
    ·show 1<=1+r1;omega
    ·show 1+r1<=9;omega
    ·show 1<=1+(1+r1+r2) % 9;omega
    ·show 1+(1+r1+r2) % 9<=9;omega
    ·show 1+r1≠1+(1+r1+r2) % 9;omega
 ·rintro σ H' ⟨s1,as,ls,t,u,rfl,hl',hT,hlen,hg⟩
  k_mem
  exact q l as ls H' hl s1 hl' hT (by omega) hg
variable (kh:KD P w K mg base CX0 2 "_law_codes" (gy K Z))
theorem oE {ls:List Cd}{l:Int}{k:Str}(hk:k="men"\/k="coal"):∃j:Nat,j < 2/\eqV (([V.str "men",V.str "coal"]:List V).getD j .non) (.str k)=true/\(∀i,i < j->eqV (([V.str "men",V.str "coal"]:List V).getD i .non) (.str k)=false)/\atI (cdV (cy ls l)) (j:Int)=some (.int (a7 ls l k)):=by
 rcases hk with rfl | rfl
 ·exact ⟨0,by decide,by decide,fun i h=>absurd h (Nat.not_lt_zero _),rfl⟩
 ·refine ⟨1,by decide,by decide,fun i h=>?_,?_⟩
  ·obtain rfl:i=0:=by omega
   decide
  ·unfold a7
   rw [if_neg (by decide)]
   rfl
inductive eJ (K:JA)(Z:Adr)(vs:List V)(H:Hp)(Q:VK)(E:XK):Prop | mk (cl dn da:Addr) (ls:List Cd) (fs:List Bool) (e:Eng) (cs as:List Addr) (L:List Bd) (d:Bd):vs=[.ref cl,.ref dn,.ref da]->H cl=some (.lst (cs.map V.ref))->aK cdV K H cs ls->H dn=some (.lst (as.map V.ref))->dO H as L->L.length<=1000->M14 ls fs e L->H da=some (.tup (bdV d))->q0 d->(∀H',au H H'->Q (.str (nmB (bL ls fs e d))) H')->eJ K Z vs H Q E
include T bJ in
theorem kT:FF P w K mg base CX0 2 "_law_refusal" "_law_refusal" fg ir (eJ K Z):=fk0 cI fun vs H Q E h=>by
 obtain ⟨cl,dn,da,ls,fs,e,cs,as,L,d,rfl,hcl,hC,hdn,hD,hL,hM,hda,hgd,q⟩:=h
 k_all
 refine seg 8 (ai (aC aw)) fun zt8 zh8 ze8=>?_
 refine seg 7 (ag (aT (kl (bV (ak av (pv' 3) af) aw) (kl (bV (ak av (pv' 3) af) (ak av (pv' 2) af)) (kj (bV (ak av (pv' 3) af) (pv' 5))))).pt (ai (aC aw)) (aB)) zh8) fun zt7 zh7 ze7=>?_
 refine seg 6 (ag (aO (i:=5) cI.nd rfl orL (ak av (ak aq (pv' 0) (ak av (pv' 2) af)) (eT PySem.F.plainAttrs_list PySem.F.slot_list_index PySem.F.type_list_index oA (bg (pa2 aw aw)) (pa1 (ak av (pv' 2) af))))) zh7) fun zt6 zh6 ze6=>?_
 refine seg 5 (ag (aT (bV (ak av (pv' 2) af) aw) (ag (aT (bz (pv' 4)) (ai (aC aw)) (aB)) (ai (aC (ak aq (bg (pa2 aw aw)) (bU cP (by rfl) T.jm gj (pa1 (bE jb (ak av (pv' 2) af) (ak aq (pv' 0) (ak av (pv' 2) af)) (by rfl)))))))) (aB)) zh6) fun zt5 zh5 ze5=>?_
 refine seg 4 (ag (aT (bV (ak av (pv' 2) af) aw) (ai (aC (ak aq (bg (pa2 aw aw)) (bU cP (by rfl) T.jm gj (pa1 (pv' 4)))))) (aB)) zh5) fun zt4 zh4 ze4=>?_
 refine seg 3 (ag (aO (i:=4) cI.nd rfl orL (bE (qu hr.units1) (ba (pa2 aw (ak av (pv' 2) af))) (pv' 1) (by rfl))) zh4) fun zt3 zh3 ze3=>?_
 refine seg 2 (ag (aT (oO (jc (ak av (pv' 2) af) af) (lU (vP (ak av (pv' 2) af) (aE aH (by rfl) T.cS bR (pa1 (pv' 0)))))).pt (ai (aC aw)) (aB)) zh3) fun zt2 zh2 ze2=>?_
 refine seg 1 (ag (aT (bV (ak av (pv' 2) af) aw) (ag (aT (j8 (ak av (pv' 3) af) aw) (ai (aC aw)) (aB)) (ai (aC (ak aq (bg (pa2 aw aw)) (bU cP (by rfl) T.jm gj (pa1 (bE ow (ak av (pv' 2) af) (bU kH (by rfl) T.cJ pC (pa2 af af)) (by rfl)))))))) (aB)) zh2) fun zt1 zh1 ze1=>?_
 refine ⟨_,ag (aO (i:=3) cI.nd rfl orL (dc0 bJ hr.dn (pa1 (pv' 1)))) zh1,?_⟩
 have hal:=hD.1
 k_mem
 refine ⟨dn,as,L,jy e,rfl,hdn,hD.at,hL,hM.en,fun p1 H1 s1 hp1=>?_⟩
 have hT:SqT K H1 da (bdV d):=s1.tup (SqT.of hda)
 obtain ⟨wd,dP,ewd,hw1,hw2⟩:=vQ hM.ot
 k_mem
 cases d with
 | rept s=>
  refine ⟨_,hT,_,ay (k:=0) rfl,?_⟩
  k_mem
  rw [if_pos rfl]
  k_mem
  have q':=q H1 s1
  cases e with
  | wait l r=>
   refine ⟨_,hp1,_,ay (k:=0) rfl,?_⟩
   k_mem
   rw [if_neg (by decide)]
   k_mem
   refine ⟨by decide,fun p3 hp3=>?_⟩
   (generalize hE:upd H1 p3 _=H4 at *;have s4:=bc hE hp3;have e4:=aJ hE;clear hE)
   k_upd
   refine ⟨_,s4.tup hT,_,ay (k:=1) rfl,_,_,rfl,fun p5 hp5=>?_⟩
   (generalize hE:upd H4 p5 _=H5 at *;have s5:=bc hE hp5;have e5:=aJ hE;clear hE)
   have q5:=q H5 (s1.trans (s4.trans s5))
   simp only [bL] at q5
   k_upd
   refine ⟨_,_,_,_,rfl,rfl,e5,_,SqL.of (s5 _ _ e4),?_⟩
   by_cases h9:1<=s/\s < 10
   ·rw [decide_eq_true h9]
    k_upd
    rw [if_pos (by omega)] at q5
    k_upd
    exact ⟨_,rfl,q5⟩
   ·rw [decide_eq_false h9]
    k_upd
    rw [if_neg (by omega)] at q5
    k_upd
    exact ⟨_,rfl,q5⟩
  | no=>
   refine ⟨_,hp1,_,ay (k:=0) rfl,?_⟩
   k_mem
   rw [if_pos (by decide)]
   k_upd
   exact q'
  | _=>
   refine ⟨_,hp1,_,ay (k:=0) rfl,?_⟩
   k_mem
   rw [if_pos (iP _ _ _)]
   k_upd
   exact q'
 | ring l s=>
  have elv:l < 0\/(ls.length:Int)<=l->bL ls fs e (.ring l s)=some .lv:=fun z=>if_pos z
  k_upd
  refine ⟨_,hT,_,ay (k:=0) rfl,?_⟩
  k_mem
  rw [if_neg (by decide)]
  k_mem
  refine ⟨_,hT,_,ay (k:=1) rfl,?_⟩
  k_mem
  by_cases h0:l < 0
  ·rw [if_pos h0]
   have q':=q H1 s1
   rw [elv (.inl h0)] at q'
   k_upd
   exact q'
  k_upd
  rw [if_neg h0]
  k_upd
  refine ⟨_,hT,_,ay (k:=1) rfl,_,.inl (SqL.of (s1 _ _ hcl)),?_⟩
  k_mem
  rw [JB,hC.1]
  by_cases h1:(ls.length:Int)<=l
  ·rw [if_pos h1]
   have q':=q H1 s1
   rw [elv (.inr h1)] at q'
   k_upd
   exact q'
  k_upd
  rw [if_neg h1]
  k_mem
  have lvn:¬(l < 0\/(ls.length:Int)<=l):=fun z=>z.elim h0 h1
  k_upd
  refine ⟨_,hT,_,ay (k:=1) rfl,by decide,fun p2 hp2=>?_⟩
  (generalize hE:upd H1 p2 _=H2 at *;have s2:=bc hE hp2;have e2:=aJ hE;clear hE)
  obtain ⟨f,f1,f2⟩:=sj (K:=K) (lv:=l) (hD.same (s1.trans s2)) e2
  k_upd
  refine ⟨as,_,f,SqL.of ((s1.trans s2) _ _ hdn),SqT.of e2,rfl,f1,?_⟩
  have s12:=s1.trans s2
  have hf:fs.getD l.toNat false=true↔Bd.fail l∈L:=by
   have:=hM.fl l.toNat (by omega)
   rw [Int.toNat_of_nonneg (by omega)] at this
   exact this
  k_mem
  refine ⟨_,(s2.tup hT),_,ay (k:=0) rfl,?_⟩
  k_mem
  rw [if_neg (by decide)]
  k_mem
  refine ⟨_,(s2.tup hT),_,ay (k:=0) rfl,?_⟩
  k_mem
  rw [if_pos rfl]
  k_mem
  have er:bL ls fs e (.ring l s)=if fs.getD l.toNat false=true then some .db else if s=(cy ls l).1\/s=(cy ls l).2 then none else some .nc:=if_neg lvn
  by_cases hm:as.any f=true
  ·have q':=q H2 s12
   rw [er,if_pos (hf.mpr (f2.mp hm))] at q'
   k_upd
   rw [if_pos hm]
   k_upd
   exact q'
  ·rw [if_neg hm]
   k_upd
   refine ⟨by decide,fun p4 hp4=>?_⟩
   (generalize hE:upd H2 p4 _=H4 at *;have s4:=bc hE hp4;have e4:=aJ hE;clear hE)
   have s14:=s12.trans s4
   obtain ⟨cd,acd,hcd⟩:=gH (aK.same s14 hC) (by omega:0<=l) (by omega)
   k_upd
   refine ⟨_,(s2.trans s4).tup hT,_,ay (k:=2) rfl,_,(s2.trans s4).tup hT,_,ay (k:=1) rfl,?_⟩
   k_mem
   refine ⟨_,SqL.of (s14 _ _ hcl),_,acd,?_⟩
   k_mem
   refine ⟨_,.inr hcd,rfl,rfl,_,SqL.of e4,?_⟩
   have q':=q H4 s14
   rw [er,if_neg fun z=>hm (f2.mpr (hf.mp z))] at q'
   have ei:inV (.int s) (cdV (cy ls l))=decide (s=(cy ls l).1\/s=(cy ls l).2):=by
    show inV (.int s) ([(cy ls l).1,(cy ls l).2].map V.int)=_
    rw [mZ]
    simp
   rw [ei]
   by_cases hc:s=(cy ls l).1\/s=(cy ls l).2
   ·rw [if_pos hc] at q'
    rw [decide_eq_true hc]
    k_upd
    exact ⟨_,rfl,q'⟩
   ·rw [if_neg hc] at q'
    rw [decide_eq_false hc]
    k_upd
    exact ⟨_,rfl,q'⟩
 | fail l=>
  have elv:l < 0\/(ls.length:Int)<=l->bL ls fs e (.fail l)=some .lv:=fun z=>if_pos z
  k_upd
  refine ⟨_,hT,_,ay (k:=0) rfl,?_⟩
  k_mem
  rw [if_neg (by decide)]
  k_mem
  refine ⟨_,hT,_,ay (k:=1) rfl,?_⟩
  k_mem
  by_cases h0:l < 0
  ·rw [if_pos h0]
   have q':=q H1 s1
   rw [elv (.inl h0)] at q'
   k_upd
   exact q'
  k_upd
  rw [if_neg h0]
  k_upd
  refine ⟨_,hT,_,ay (k:=1) rfl,_,.inl (SqL.of (s1 _ _ hcl)),?_⟩
  k_mem
  rw [JB,hC.1]
  by_cases h1:(ls.length:Int)<=l
  ·rw [if_pos h1]
   have q':=q H1 s1
   rw [elv (.inr h1)] at q'
   k_upd
   exact q'
  k_upd
  rw [if_neg h1]
  k_mem
  have lvn:¬(l < 0\/(ls.length:Int)<=l):=fun z=>z.elim h0 h1
  k_upd
  refine ⟨_,hT,_,ay (k:=1) rfl,by decide,fun p2 hp2=>?_⟩
  (generalize hE:upd H1 p2 _=H2 at *;have s2:=bc hE hp2;have e2:=aJ hE;clear hE)
  obtain ⟨f,f1,f2⟩:=sj (K:=K) (lv:=l) (hD.same (s1.trans s2)) e2
  k_upd
  refine ⟨as,_,f,SqL.of ((s1.trans s2) _ _ hdn),SqT.of e2,rfl,f1,?_⟩
  have s12:=s1.trans s2
  have hf:fs.getD l.toNat false=true↔Bd.fail l∈L:=by
   have:=hM.fl l.toNat (by omega)
   rw [Int.toNat_of_nonneg (by omega)] at this
   exact this
  k_mem
  refine ⟨_,(s2.tup hT),_,ay (k:=0) rfl,?_⟩
  k_mem
  rw [if_pos rfl]
  k_mem
  refine ⟨by decide,fun p4 hp4=>?_⟩
  (generalize hE:upd H2 p4 _=H4 at *;have s4:=bc hE hp4;have e4:=aJ hE;clear hE)
  k_upd
  refine ⟨_,SqL.of e4,?_⟩
  have q':=q H4 (s12.trans s4)
  have er:bL ls fs e (.fail l)=if fs.getD l.toNat false=true then some .ch else none:=if_neg lvn
  rw [er] at q'
  by_cases hm:as.any f=true
  ·rw [if_pos (hf.mpr (f2.mp hm))] at q'
   rw [hm]
   k_upd
   exact ⟨_,rfl,q'⟩
  ·rw [if_neg fun z=>hm (f2.mpr (hf.mp z))] at q'
   rw [Bool.eq_false_iff.mpr hm]
   k_upd
   exact ⟨_,rfl,q'⟩
 | use l k=>
  have elv:l < 0\/(ls.length:Int)<=l->bL ls fs e (.use l k)=some .lv:=fun z=>if_pos z
  k_upd
  refine ⟨_,hT,_,ay (k:=0) rfl,?_⟩
  k_mem
  rw [if_neg (by decide)]
  k_mem
  refine ⟨_,hT,_,ay (k:=1) rfl,?_⟩
  k_mem
  by_cases h0:l < 0
  ·rw [if_pos h0]
   have q':=q H1 s1
   rw [elv (.inl h0)] at q'
   k_upd
   exact q'
  k_upd
  rw [if_neg h0]
  k_upd
  refine ⟨_,hT,_,ay (k:=1) rfl,_,.inl (SqL.of (s1 _ _ hcl)),?_⟩
  k_mem
  rw [JB,hC.1]
  by_cases h1:(ls.length:Int)<=l
  ·rw [if_pos h1]
   have q':=q H1 s1
   rw [elv (.inr h1)] at q'
   k_upd
   exact q'
  k_upd
  rw [if_neg h1]
  k_mem
  have lvn:¬(l < 0\/(ls.length:Int)<=l):=fun z=>z.elim h0 h1
  k_upd
  refine ⟨_,hT,_,ay (k:=1) rfl,by decide,fun p2 hp2=>?_⟩
  (generalize hE:upd H1 p2 _=H2 at *;have s2:=bc hE hp2;have e2:=aJ hE;clear hE)
  obtain ⟨f,f1,f2⟩:=sj (K:=K) (lv:=l) (hD.same (s1.trans s2)) e2
  k_upd
  refine ⟨as,_,f,SqL.of ((s1.trans s2) _ _ hdn),SqT.of e2,rfl,f1,?_⟩
  have s12:=s1.trans s2
  have hf:fs.getD l.toNat false=true↔Bd.fail l∈L:=by
   have:=hM.fl l.toNat (by omega)
   rw [Int.toNat_of_nonneg (by omega)] at this
   exact this
  k_mem
  refine ⟨_,(s2.tup hT),_,ay (k:=0) rfl,?_⟩
  k_mem
  rw [if_neg (by decide)]
  k_mem
  refine ⟨_,(s2.tup hT),_,ay (k:=0) rfl,?_⟩
  k_mem
  rw [if_neg (by decide)]
  k_mem
  obtain ⟨cd,acd,hcd⟩:=gH (aK.same s12 hC) (by omega:0<=l) (by omega)
  k_upd
  refine ⟨_,s2.tup hT,_,ay (k:=1) rfl,_,SqL.of (s12 _ _ hcl),_,acd,?_⟩
  k_mem
  refine ⟨by decide,fun p3 hp3=>?_⟩
  (generalize hE:upd H2 p3 _=H3 at *;have s3:=bc hE hp3;have e3:=aJ hE;clear hE)
  have s13:=s12.trans s3
  obtain ⟨j,j2,k1,k2,k3⟩:=oE (ls:=ls) (l:=l) hgd
  k_upd
  refine ⟨.inl ⟨rfl,_,SqL.of e3⟩,_,(s2.trans s3).tup hT,_,ay (k:=2) rfl,_,j,SqL.of e3,rfl,rfl,j2,k1,k2,_,s3.tup hcd,_,k3,?_⟩
  k_mem
  have q':=q H3 s13
  have er:bL ls fs e (.use l k)=if e=.armed l (a7 ls l k) then none else some .na:=if_neg lvn
  rw [er] at q'
  have hp13:=(s2.trans s3).tup hp1
  rw [ewd] at hp13
  have nomatch14:¬e=.armed l (a7 ls l k)->zt8 {nx:=fun x H'=>Q V.non H',rt:=Q} [some (V.ref cl),some (V.ref dn),some (V.ref da),some (V.ref p1),some (V.bl (as.any f)),some (V.int (a7 ls l k))] H3:=fun z=>by
   rw [if_neg z] at q'
   k_mem
   exact q'
  k_upd
  refine ⟨_,hp13,_,ay (k:=0) rfl,?_⟩
  k_mem
  by_cases ew:wd="armed"
  ·rw [if_pos ew]
   obtain ⟨l',r',rfl⟩:=hw2 ew
   rw [←ewd] at hp13
   k_upd
   refine ⟨_,hp13,V.int l',rfl,_,(s2.trans s3).tup hT,_,ay (k:=1) rfl,?_⟩
   k_mem
   by_cases hl:l'=l
   ·rw [if_pos hl]
    k_upd
    refine ⟨_,hp13,V.int r',rfl,?_⟩
    k_mem
    by_cases hc:r'=a7 ls l k
    ·rw [if_pos hc]
     k_upd
     rw [if_pos (by rw [hl,hc])] at q'
     k_upd
     exact q'
    ·rw [if_neg hc]
     exact nomatch14 (fun z=>by injection z with z1 z2;exact hc z2)
   ·rw [if_neg hl]
    exact nomatch14 (fun z=>by injection z with z1 z2;exact hl z1)
  ·rw [if_neg ew]
   refine nomatch14 (fun z=>?_)
   subst z
   apply ew
   have:esV (jy (.armed l (a7 ls l k)))=[V.str "armed",.int l,.int (a7 ls l k),.int (a7 ls l k)]:=by show [_,_,_,_]=_;rw [if_neg Bool.false_ne_true,if_pos rfl]
   rw [this] at ewd
   injection ewd with z1 z2
   injection z1 with z1
   exact z1.symm
variable (ix:KD P w K mg base CX0 2 "_law_refusal" (eJ K Z))
inductive ig (K:JA)(Z:Adr)(vs:List V)(H:Hp)(Q:VK)(E:XK):Prop | mk (cl dn:Addr) (cell:Int) (ls:List Cd) (fs:List Bool) (e:Eng) (cs as:List Addr) (L:List Bd):vs=[.ref cl,.ref dn,.int cell]->H cl=some (.lst (cs.map V.ref))->aK cdV K H cs ls->H dn=some (.lst (as.map V.ref))->dO H as L->L.length<=1000->M14 ls fs e L->2<=ls.length->ls.length<=1000->(∀p d H',au H H'->H' p=some (.tup (bdV d))->q0 d->Q (.ref p) H')->ig K Z vs H Q E
include T bJ in
theorem oF:FF P w K mg base CX0 2 "_law_deed" "_law_deed" jk lF (ig K Z):=fk0 cM fun vs H Q E h=>by
 obtain ⟨cl,dn,cell,ls,fs,e,cs,as,L,rfl,hcl,hC,hdn,hD,hL,hM,l2,l6,q⟩:=h
 k_all
 refine seg 11 (ai (aC (ba (pa2 aw (pv' 4))))) fun zt11 zh11 ze11=>?_
 refine seg 10 (ag (aT (jc (a9 (pv' 2) af) af) (ai (aC (ba (pa3 aw (pv' 4) (ak aq (bg (pa2 aw aw)) (a9 (cH (pv' 3) af) af)))))) (aB)) zh11) fun zt10 zh10 ze10=>?_
 refine seg 9 (ag (aT (kl (jc (a9 (pv' 2) af) af) (kj (bV (ak av (pv' 6) af) aw))).pt (ai (aC (ba (pa3 aw (ak av (pv' 6) af) (ak aq (bg (pa2 aw aw)) (bU cP (by rfl) T.jm gj (pa1 (bE gp (ak av (ak aq (pv' 0) (ak av (pv' 6) af)) af) (ak av (pv' 6) af) (bD _))))))))) (aB)) zh10) fun zt9 zh9 ze9=>?_
 refine seg 8 (ag (aT (jc (a9 (pv' 2) af) af) (ai (aC (ba (pa2 aw (bj kO (a9 (pv' 3) af) af))))) (aB)) zh9) fun zt8 zh8 ze8=>?_
 refine seg 7 (ag (aT (kl (jc (a9 (pv' 2) af) af) (kj (bV (ak av (pv' 6) af) aw))).pt (ai (aC (ba (pa2 aw (ak av (pv' 6) af))))) (aB)) zh8) fun zt7 zh7 ze7=>?_
 refine seg 6 (ag (aT (bV (a9 (pv' 2) af) af) (ai (aC (ba (pa3 aw (pv' 4) (bj kO (a9 (cH (pv' 3) af) af) af))))) (aB)) zh7) fun zt6 zh6 ze6=>?_
 refine seg 5 (ag (aT (jc (a9 (pv' 2) af) af) (ai (aC (ba (pa3 aw (pv' 5) (ak av (ak aq (pv' 0) (pv' 5)) (a9 (cH (pv' 3) af) af)))))) (aB)) zh6) fun zt5 zh5 ze5=>?_
 refine seg 4 (ag (aO (i:=6) cM.nd rfl orL (dc0 bJ hr.dn (pa1 (pv' 1)))) zh5) fun zt4 zh4 ze4=>?_
 refine seg 3 (ag (aO (i:=5) cM.nd rfl orL (bj iM (pv' 3) (aE aH (by rfl) T.cS bR (pa1 (pv' 0))))) zh4) fun zt3 zh3 ze3=>?_
 refine seg 2 (ag (aT (bV (a9 (pv' 3) af) af) (ai (aO (i:=4) cM.nd rfl orL (bj rX af af))) (aB)) zh3) fun zt2 zh2 ze2=>?_
 refine seg 1 (ag (aO (i:=4) cM.nd rfl orL (bj kO (bj iM (pv' 3) (bj bM (aE aH (by rfl) T.cS bR (pa1 (pv' 0))) af)) af)) zh2) fun zt1 zh1 ze1=>?_
 refine ⟨_,ag (aO (i:=3) cM.nd rfl orL (cH (pv' 2) af)) zh1,?_⟩
 have hal:=hD.1
 have hcs:=hC.1
 k_mem
 refine ⟨_,.inl (SqL.of hcl),?_⟩
 rw [JB,hcs]
 k_mem
 have k2:∀lv:Int,zt3 {nx:=fun x H'=>Q V.non H',rt:=Q} [some (V.ref cl),some (V.ref dn),some (V.int cell),some (V.int (cell / 10)),some (V.int lv),none,none] H:=by
  intro lv
  k_mem
  refine ⟨_,.inl (SqL.of hcl),?_⟩
  rw [JB,hcs]
  have hm0:0<=cell / 10 % (ls.length:Int):=Int.emod_nonneg _ (by omega)
  have hm1:cell / 10 % (ls.length:Int) < ls.length:=Int.emod_lt_of_pos _ (by omega)
  k_upd
  refine ⟨by omega,?_⟩
  generalize hnr:cell / 10 % (ls.length:Int)=near at *
  k_mem
  refine ⟨dn,as,L,jy e,rfl,hdn,hD.at,hL,hM.en,fun p2 H2 s12 hp2=>?_⟩
  have code:∀lv:Int,0<=lv->lv < ls.length->∃cd,atI (cs.map V.ref) lv=some (.ref cd)/\SqT K H cd (cdV (cy ls lv)):=fun lv h0 h1=>gH hC h0 h1
  obtain ⟨sk,ask⟩:∃sk:Int,atI (cdV (cy ls near)) (cell / 10 / 6 % 2)=some (.int sk):=by
   rcases (by omega:cell / 10 / 6 % 2=0\/cell / 10 / 6 % 2=1) with e | e<;>rw [e]
   ·k_upd
    exact ⟨_,rfl⟩
   ·k_upd
    exact ⟨_,rfl⟩
  obtain ⟨cdn,acdn,hcdn⟩:=code near hm0 hm1
  obtain ⟨wd,dP,ewd,hw1,hw2⟩:=vQ hM.ot
  k_mem
  by_cases c3:cell % 10 < 3
  ·rw [if_pos c3]
   k_upd
   refine ⟨_,SqL.of (s12 _ _ hcl),_,acdn,?_⟩
   k_mem
   exact ⟨_,s12.tup hcdn,_,ask,by decide,fun p hp=>q p (.ring near sk) _ (s12.lay hp) ae trivial⟩
  k_upd
  rw [if_neg c3]
  k_mem
  by_cases c4:cell % 10=3
  ·rw [if_pos c4]
   k_upd
   exact ⟨by decide,fun p hp=>q p (.ring lv (cell / 10 / 7 % 13 - 1)) _ (s12.lay hp) ae trivial⟩
  k_upd
  rw [if_neg c4]
  k_mem
  rw [ewd] at hp2
  have k7:zt8 {nx:=fun x H'=>Q V.non H',rt:=Q} [some (V.ref cl),some (V.ref dn),some (V.int cell),some (V.int (cell / 10)),some (V.int lv),some (V.int near),some (V.ref p2)] H2:=by
   k_mem
   by_cases c7:cell % 10 < 7
   ·rw [if_pos c7]
    k_upd
    exact ⟨by decide,fun p hp=>q p (.rept (cell / 10 % 13 - 1)) _ (s12.lay hp) ae trivial⟩
   k_upd
   rw [if_neg c7]
   k_mem
   have k9:zt10 {nx:=fun x H'=>Q V.non H',rt:=Q} [some (V.ref cl),some (V.ref dn),some (V.int cell),some (V.int (cell / 10)),some (V.int lv),some (V.int near),some (V.ref p2)] H2:=by
    k_mem
    by_cases c9:cell % 10 < 9
    ·rw [if_pos c9]
     k_upd
     refine ⟨by decide,fun p3 hp3=>?_⟩
     (generalize hE:upd H2 p3 _=H3 at *;have s3:=bc hE hp3;have e3:=aJ hE;clear hE)
     obtain ⟨kd,hkd,akd⟩:∃kd:Str,(kd="men"\/kd="coal")/\atI [V.str "men",V.str "coal"] (cell / 10 / 9 % 2)=some (.str kd):=by
      rcases (by omega:cell / 10 / 9 % 2=0\/cell / 10 / 9 % 2=1) with e | e<;>rw [e]
      ·k_upd
       exact ⟨_,.inl rfl,rfl⟩
      ·k_upd
       exact ⟨_,.inr rfl,rfl⟩
     k_upd
     exact ⟨_,SqL.of e3,_,akd,by decide,fun p hp=>q p (.use lv kd) _ ((s12.trans s3).lay hp) ae hkd⟩
    k_upd
    rw [if_neg c9]
    k_mem
    exact ⟨by decide,fun p hp=>q p (.fail lv) _ (s12.lay hp) ae trivial⟩
   by_cases c9:cell % 10 < 9
   ·rw [if_pos c9]
    k_upd
    refine ⟨_,hp2,_,ay (k:=0) rfl,?_⟩
    k_mem
    by_cases ew:wd="armed"
    ·rw [if_pos ew]
     obtain ⟨l,r,he⟩:=hw2 ew
     rw [he] at ewd
     obtain ⟨_,rfl⟩:V.str "armed"=.str wd/\[V.int l,.int r,.int r]=dP:=by
      have:esV (jy (.armed l r))=[V.str "armed",.int l,.int r,.int r]:=by show [_,_,_,_]=_;rw [if_neg Bool.false_ne_true,if_pos rfl]
      rw [this] at ewd
      injection ewd with e1 e2
      k_upd
      exact ⟨e1,e2⟩
     obtain ⟨h0,h1⟩:=hM.ew l r (.inr he)
     obtain ⟨cdl,acdl,hcdl⟩:=code l h0 h1
     k_upd
     refine ⟨_,hp2,_,ay (k:=1) rfl,by decide,fun p3 hp3=>?_⟩
     (generalize hE:upd H2 p3 _=H3 at *;have s3:=bc hE hp3;have e3:=aJ hE;clear hE)
     have s13:=s12.trans s3
     k_mem
     refine ⟨_,s3.tup hp2,_,ay (k:=1) rfl,?_⟩
     k_mem
     refine ⟨_,SqL.of (s13 _ _ hcl),_,acdl,?_⟩
     k_mem
     refine ⟨_,s13.tup hcdl,_,rfl,_,s3.tup hp2,_,ay (k:=2) rfl,?_⟩
     k_mem
     obtain ⟨kw,hkw,ax⟩:∃kw:Str,(kw="men"\/kw="coal")/\atI [V.str "coal",V.str "men"] (if decide ((cy ls l).1=r)=true then 1 else 0)=some (.str kw):=by
      cases decide ((cy ls l).1=r)
      ·k_upd
       exact ⟨_,.inr rfl,rfl⟩
      ·k_upd
       exact ⟨_,.inl rfl,rfl⟩
     k_upd
     exact ⟨_,SqL.of e3,_,ax,by decide,fun p hp=>q p (.use l kw) _ (s13.lay hp) ae hkw⟩
    ·rw [if_neg ew]
     exact k9
   ·rw [if_neg c9]
    exact k9
  by_cases c6:cell % 10 < 6
  ·rw [if_pos c6]
   k_upd
   refine ⟨_,hp2,_,ay (k:=0) rfl,?_⟩
   k_mem
   by_cases ew:wd="not repeated"
   ·rw [if_pos ew]
    obtain ⟨l,r,he⟩:=hw1 ew
    rw [he] at ewd
    obtain ⟨_,rfl⟩:V.str "not repeated"=.str wd/\[V.int l,.int r,.non]=dP:=by injection ewd with e1 e2;exact ⟨e1,e2⟩
    k_upd
    exact ⟨_,hp2,V.int r,rfl,by decide,fun p hp=>q p (.rept r) _ (s12.lay hp) ae trivial⟩
   ·rw [if_neg ew]
    exact k7
  ·rw [if_neg c6]
   exact k7
 k_upd
 refine ⟨by omega,?_⟩
 k_mem
 by_cases c7:cell / 10 % 11=7
 ·rw [if_pos c7]
  k_upd
  exact ⟨⟨by decide,by decide,by decide⟩,k2 _⟩
 ·rw [if_neg c7]
  exact k2 _
variable (lP:KD P w K mg base CX0 2 "_law_deed" (ig K Z))
theorem uV (s:Int)(x:Cd):inV (.int s) (cdV x)=decide (s=x.1\/s=x.2):=qW s x.1 x.2
inductive dv (K:JA)(Z:Adr)(vs:List V)(H:Hp)(Q:VK)(E:XK):Prop | mk (b cs fl st:Addr) (ls:List Cd) (fs:List Bool) (e:Eng) (lv s:Int):vs=[.ref b,.int lv,.int s]->aL Z.aP K H b cs fl st ls fs e->((¬(0<=lv/\lv < ls.length)->E (.ref Z.az) none H))->((0<=lv->lv < ls.length->fs.getD lv.toNat false=true->E (.ref Z.aW) none H))->((0<=lv->lv < ls.length->fs.getD lv.toNat false=false->¬(s=(cy ls lv).1\/s=(cy ls lv).2)->E (.ref Z.bq) none H))->((0<=lv->lv < ls.length->fs.getD lv.toNat false=false->(s=(cy ls lv).1\/s=(cy ls lv).2)->∀st' H',aD b H H'->aL Z.aP K H' b cs fl st' ls fs (.wait lv s)->Q .non H'))->dv K Z vs H Q E
include T bC in
theorem jQ:FF P w K mg base (CXf P w) 3 "ring" "Bells.ring" ee gN (dv K Z):=fkF jJ fun vs H Q E h=>by
 obtain ⟨b,cs,fl,st,ls,fs,e,lv,s,rfl,hB,q1,q2,q3,q4⟩:=h
 k_all
 refine seg 3 (ai (fJ (pv' 0) (ba (pa4 aw (pv' 1) (pv' 2) dQ)) rfl)) fun zt3 zh3 ze3=>?_
 refine seg 2 (ag (aT (dC jH (pv' 2) (ak aq (bG (pv' 0)) (pv' 1)) (by rfl)) (ai (cO T.lJ (by rfl) T.jq (pa1 aw))) (aB)) zh3) fun zt2 zh2 ze2=>?_
 refine seg 1 (ag (aT (bz (ak aq (bG (pv' 0)) (pv' 1))) (ai (cO T.mF (by rfl) T.jo (pa1 aw))) (aB)) zh2) fun zt1 zh1 ze1=>?_
 refine ⟨_,ag (bK (dc bC hr.dn i3 (pa2 (pv' 1) (aE aH (by rfl) T.cS bR (pa1 (bG (pv' 0))))))) zh1,?_⟩
 obtain ⟨⟨dx,hob⟩,⟨as,hcs,hT⟩,hfl,hst,nn,ln⟩:=id hB
 k_mem
 refine fgo hob T.aR T.br rfl ?_
 k_mem
 refine ⟨_,.inl (SqL.of hcs),_,_,rfl,?_⟩
 rw [JB,hT.1]
 k_upd
 refine ⟨fun hlv=>?_,q1⟩
 k_mem
 refine fgo hob T.aR T.bA rfl ?_
 k_mem
 refine ⟨_,SqL.of hfl,_,pQ hlv.1 (by omega),?_⟩
 k_mem
 split
 ·rename_i h
  k_upd
  exact ⟨by decide,q2 hlv.1 hlv.2 h⟩
 ·rename_i h
  k_upd
  refine fgo hob T.aR T.br rfl ?_
  k_mem
  obtain ⟨ar,ea,hr⟩:=gH hT hlv.1 hlv.2
  k_upd
  refine ⟨_,SqL.of hcs,_,ea,?_⟩
  k_mem
  refine ⟨_,.inr hr,rfl,rfl,?_⟩
  rw [uV]
  k_mem
  split
  ·rename_i h2
   k_upd
   exact ⟨by decide,q3 hlv.1 hlv.2 (by simpa using h) h2⟩
  ·rename_i h2
   k_upd
   refine ⟨by decide,fun st' hst'=>⟨_,_,_,upo hob hst',T.aR,T.aS,by show 3 < 1000;decide,?_⟩⟩
   have nsx:st'≠b:=fun z=>by rw [z,hob] at hst';cases hst'
   refine q4 hlv.1 hlv.2 (by simpa using h) (Decidable.not_not.mp h2) st' _ ((aD.of ((au.refl H).lay hst')).put) (hB.state ((aD.of ((au.refl H).lay hst')).put) (dx:=dx) (by rw [ae];rfl) (SqT.of ?_))
   rw [aj nsx,ae];rfl
variable (gY:KM P w K mg base (CXf P w) 3 Z.aP "ring" (dv K Z))
inductive dw (K:JA)(Z:Adr)(vs:List V)(H:Hp)(Q:VK)(E:XK):Prop | mk (b cs fl st:Addr) (ls:List Cd) (fs:List Bool) (e:Eng) (lv:Int):vs=[.ref b,.int lv]->aL Z.aP K H b cs fl st ls fs e->((¬(0<=lv/\lv < ls.length)->E (.ref Z.az) none H))->((0<=lv->lv < ls.length->fs.getD lv.toNat false=true->E (.ref Z.aX) none H))->((0<=lv->lv < ls.length->fs.getD lv.toNat false=false->∀H',aD fl H H'->H' fl=some (.lst ((fs.set lv.toNat true).map V.bl))->Q .non H'))->dw K Z vs H Q E
include T bC in
theorem jR:FF P w K mg base (CXf P w) 3 "fail" "Bells.fail" eg gO (dw K Z):=fkF jK fun vs H Q E h=>by
 obtain ⟨b,cs,fl,st,ls,fs,e,lv,rfl,hB,q1,q2,q3⟩:=h
 k_all
 refine seg 2 (ai (oU cN (oR (bG (pv' 0)) (pv' 1) j7))) fun zt2 zh2 ze2=>?_
 refine seg 1 (ag (aT (bz (ak aq (bG (pv' 0)) (pv' 1))) (ai (cO T.mG (by rfl) T.jr (pa1 aw))) (aB)) zh2) fun zt1 zh1 ze1=>?_
 refine ⟨_,ag (bK (dc bC hr.dn i3 (pa2 (pv' 1) (aE aH (by rfl) T.cS bR (pa1 (bG (pv' 0))))))) zh1,?_⟩
 obtain ⟨⟨dx,hob⟩,⟨as,hcs,hT⟩,hfl,hst,nn,ln⟩:=id hB
 k_mem
 refine fgo hob T.aR T.br rfl ?_
 k_mem
 refine ⟨_,.inl (SqL.of hcs),_,_,rfl,?_⟩
 rw [JB,hT.1]
 k_upd
 refine ⟨fun hlv=>?_,q1⟩
 k_mem
 refine fgo hob T.aR T.bA rfl ?_
 k_mem
 refine ⟨_,SqL.of hfl,_,pQ hlv.1 (by omega),?_⟩
 k_mem
 split
 ·rename_i h
  k_upd
  exact ⟨by decide,q2 hlv.1 hlv.2 h⟩
 ·rename_i h
  k_upd
  refine fgo hob T.aR T.bA rfl ?_
  k_mem
  refine ⟨_,hfl,_,pN hlv.1 (by rw [JB];omega),?_⟩
  k_upd
  exact q3 hlv.1 hlv.2 (by simpa using h) _ ((aD.of (au.refl H)).put) (by rw [ae,List.map_set])
variable (gZ:KM P w K mg base (CXf P w) 3 Z.aP "fail" (dw K Z))
theorem uW (e:Eng)(lv c:Int):eqL (i7 e) [V.str "armed",V.int lv,V.int c,V.int c]=match e with | .armed l' r=>decide (l'=lv/\r=c) | _=>false:=by
 cases e with
 | armed l r=>
  simp only [i7,eqL,kA,Bool.and_true]
  have:eqV (V.str "armed") (V.str "armed")=true:=rfl
  rw [this]
  by_cases h1:l=lv<;>by_cases h2:r=c<;>simp [h1,h2]
 | _=>rfl
theorem sr {k:Str}(hk:k="men"\/k="coal"):∃i:Int,(if eqV (V.str "men") (V.str k)=true then (0:Int) else 1)=i/\(eqV (V.str "men") (V.str k) || eqV (V.str "coal") (V.str k))=true/\∀x:Cd,atI (cdV x) i=some (.int (if k="men" then x.1 else x.2)):=by
 rcases hk with rfl | rfl
 ·exact ⟨0,rfl,rfl,fun x=>rfl⟩
 ·exact ⟨1,rfl,rfl,fun x=>rfl⟩
inductive eK (K:JA)(Z:Adr)(vs:List V)(H:Hp)(Q:VK)(E:XK):Prop | mk (b cs fl st:Addr) (ls:List Cd) (fs:List Bool) (e:Eng) (lv:Int) (k:Str):vs=[.ref b,.int lv,.str k]->aL Z.aP K H b cs fl st ls fs e->((k="men"\/k="coal"))->((¬(0<=lv/\lv < ls.length)->E (.ref Z.az) none H))->((0<=lv->lv < ls.length->e≠.armed lv (a7 ls lv k)->∀H',au H H'->E (.ref Z.aU) none H'))->((0<=lv->lv < ls.length->e=.armed lv (a7 ls lv k)->∀st' H',aD b H H'->aL Z.aP K H' b cs fl st' ls fs (.used lv (a7 ls lv k))->Q .non H'))->eK K Z vs H Q E
include T bC in
theorem kU:FF P w K mg base (CXf P w) 3 "use" "Bells.use" fe ip (eK K Z):=fkF gR fun vs H Q E h=>by
 obtain ⟨b,cs,fl,st,ls,fs,e,lv,k,rfl,hB,hk,q1,q2,q3⟩:=h
 k_all
 refine seg 3 (ai (fJ (pv' 0) (ba (pa4 aw (pv' 1) (pv' 3) (pv' 3))) rfl)) fun zt3 zh3 ze3=>?_
 refine seg 2 (ag (aT (dC (uB hr.units0) (bG (pv' 0)) (ba (pa4 aw (pv' 1) (pv' 3) (pv' 3))) (bD _)) (ai (cO T.mH (by rfl) T.js (pa1 aw))) (aB)) zh3) fun zt2 zh2 ze2=>?_
 refine seg 1 (ag (aO (i:=3) gR.nd rfl orL (ak av (ak aq (bG (pv' 0)) (pv' 1)) (eT PySem.F.plainAttrs_tuple PySem.F.slot_tuple_index PySem.F.type_tuple_index oj (i4 (by rfl) T.r6) (pa1 (pv' 2))))) zh2) fun zt1 zh1 ze1=>?_
 refine ⟨_,ag (bK (dc bC hr.dn i3 (pa2 (pv' 1) (aE aH (by rfl) T.cS bR (pa1 (bG (pv' 0))))))) zh1,?_⟩
 obtain ⟨⟨dx,hob⟩,⟨as,hcs,hT⟩,hfl,hst,nn,ln⟩:=id hB
 k_mem
 refine fgo hob T.aR T.br rfl ?_
 k_mem
 refine ⟨_,.inl (SqL.of hcs),_,_,rfl,?_⟩
 rw [JB,hT.1]
 k_upd
 refine ⟨fun hlv=>?_,q1⟩
 k_mem
 obtain ⟨ar,ea,hr⟩:=gH hT hlv.1 hlv.2
 obtain ⟨i,ei,ek,ex⟩:=sr hk
 k_upd
 refine fgo hob T.aR T.br rfl ?_
 k_mem
 refine ⟨_,SqL.of hcs,_,ea,.inr (.inl ⟨rfl,T.sd⟩),_,_,_,_,rfl,rfl,T.r8 _,rfl,rfl,rfl,ek,?_⟩
 rw [ei]
 k_mem
 refine ⟨_,hr,_,ex _,?_⟩
 k_mem
 have ec:(if k=Str.ofString "men" then (cy ls lv).1 else (cy ls lv).2)=a7 ls lv k:=rfl
 rw [ec]
 k_upd
 refine fgo hob T.aR T.aS rfl ⟨by decide,fun tp htp=>?_⟩
 k_mem
 refine ⟨_,_,_,_,rfl,rfl,((au.refl H).lay htp).tup hst,SqT.of ae,List.all_eq_true.mpr (hR e),rfl,?_⟩
 have s0:=(au.refl H).lay (o:=HO.tup [V.str (Str.ofString "armed"),V.int lv,V.int (a7 ls lv k),V.int (a7 ls lv k)]) htp
 have e2:eqL (i7 e) [V.str (Str.ofString "armed"),V.int lv,V.int (a7 ls lv k),V.int (a7 ls lv k)]=_:=uW e lv (a7 ls lv k)
 rw [e2]
 have hob0:=s0 _ _ hob
 generalize upd H tp (HO.tup [V.str (Str.ofString "armed"),V.int lv,V.int (a7 ls lv k),V.int (a7 ls lv k)])=H0 at *
 have no:e≠.armed lv (a7 ls lv k)->E (.ref Z.aU) none H0:=fun z=>q2 hlv.1 hlv.2 z H0 s0
 cases e with
 | armed l' r=>
  k_mem
  by_cases hh:l'=lv/\r=a7 ls lv k
  ·rw [if_neg (by simp [hh])]
   k_mem
   refine ⟨by decide,fun st' hst'=>⟨_,_,_,upo hob0 hst',T.aR,T.aS,by show 3 < 1000;decide,?_⟩⟩
   have nsx:st'≠b:=fun z=>by rw [z,hob0] at hst';cases hst'
   have k0:=((aD.of (s0.lay (o:=HO.tup [V.str (Str.ofString "used up"),V.int lv,V.int (a7 ls lv k),V.int (a7 ls lv k)]) hst')).put (o:=HO.ins Z.aP dx (bQ "state" (.ref st') [("codes",V.ref cs),("failed",V.ref fl),("state",V.ref st)])) (p:=b))
   refine q3 hlv.1 hlv.2 (by rw [hh.1,hh.2]) st' _ k0 (hB.state k0 (dx:=dx) (by rw [ae];rfl) (SqT.of ?_))
   rw [aj nsx,ae];rfl
  ·rw [if_pos (by simp;intro z1 z2;exact hh ⟨z1,z2⟩)]
   k_mem
   exact ⟨by decide,no fun z=>by injection z with z1 z2;exact hh ⟨z1,z2⟩⟩
 | _=>
  k_mem
  exact ⟨by decide,no fun z=>Eng.noConfusion z⟩
variable (iz:KM P w K mg base (CXf P w) 3 Z.aP "use" (eK K Z))
noncomputable def wj (Z:Adr):Rb->Addr
 | .lv=>Z.az
 | .db=>Z.aW
 | .nc=>Z.bq
 | .nr=>Z.aF
 | .ch=>Z.aX
 | .na=>Z.aU
theorem kW {C:Addr}{K:JA}{H H':Hp}{b cs fl st:Addr}{ls:List Cd}{fs fs':List Bool}{e:Eng}(h:aL C K H b cs fl st ls fs e)(k:aD fl H H')(hf:H' fl=some (.lst (fs'.map V.bl)))(hl:fs'.length=fs.length):aL C K H' b cs fl st ls fs' e:=by
 obtain ⟨⟨dx,a⟩,⟨as,c,t⟩,f,g,n,l⟩:=h
 exact ⟨⟨dx,k _ _ (fun z=>by rw [z,f] at a;cases a) a⟩,⟨as,k _ _ n c,t.keep k f⟩,hf,g.keep k f,n,by rw [hl,l]⟩
inductive cZ (K:JA)(Z:Adr)(vs:List V)(H:Hp)(Q:VK)(E:XK):Prop | mk (b cs fl st t:Addr) (ls:List Cd) (fs:List Bool) (e:Eng) (d:Bd):vs=[.ref b,.ref t]->aL Z.aP K H b cs fl st ls fs e->SqT K H t (bdV d)->q0 d->((bL ls fs e d=none->∀v st' H',bb b fl H H'->aL Z.aP K H' b cs fl st' ls (pP fs d) (om ls e d)->oo K H' e d v->Q v H'))->((∀r,bL ls fs e d=some r->∀H',au H H'->E (.ref (wj Z r)) none H'))->cZ K Z vs H Q E
include T fC gY gZ iz in
theorem jA:FF P w K mg base (CXf P w) 4 "_law_bell_call" "_law_bell_call" dk fX (cZ K Z):=fkF jj fun vs H Q E h=>by
 obtain ⟨b,cs,fl,st,t,ls,fs,e,d,rfl,hB,hT,hd,q1,q2⟩:=h
 k_all
 refine seg 3 (ai (aC (dm' (pv' 0) gZ hr.dn i3 (pa1 (ak av (pv' 1) af))))) fun zt3 zh3 ze3=>?_
 refine seg 2 (ag (aT (bV (ak av (pv' 1) af) aw) (ai (aC (dm' (pv' 0) iz hr.dn i3 (pa2 (ak av (pv' 1) af) (ak av (pv' 1) af))))) (aB)) zh3) fun zt2 zh2 ze2=>?_
 refine seg 1 (ag (aT (bV (ak av (pv' 1) af) aw) (ai (aC (dm' (pv' 0) fC hr.dn i3 (pa1 (ak av (pv' 1) af))))) (aB)) zh2) fun zt1 zh1 ze1=>?_
 refine ⟨_,ag (aT (bV (ak av (pv' 1) af) aw) (ai (aC (dm' (pv' 0) gY hr.dn i3 (pa2 (ak av (pv' 1) af) (ak av (pv' 1) af))))) (aB)) zh1,?_⟩
 obtain ⟨dx,hob⟩:=hB.ob
 k_mem
 cases d with
 | ring l s=>
  refine ⟨_,hT,_,rfl,?_⟩
  k_mem
  refine mgo hob rfl ⟨_,hT,_,rfl,_,hT,_,rfl,?_⟩
  k_upd
  refine ⟨_,_,_,_,_,_,_,_,_,rfl,hB,fun h=>?_,fun h1 h2 h=>?_,fun h1 h2 h h3=>?_,fun h1 h2 h h3 st' H' k hB'=>?_⟩
  ·k_upd
   exact q2 .lv (by rw [bL,if_pos (by omega)]) _ (au.refl H)
  ·k_upd
   exact q2 .db (by rw [bL,if_neg (by omega),if_pos h]) _ (au.refl H)
  ·k_upd
   exact q2 .nc (by rw [bL,if_neg (by omega),if_neg (by rw [h];decide),if_neg h3]) _ (au.refl H)
  ·k_upd
   exact q1 (by rw [bL,if_neg (by omega),if_neg (by rw [h];decide),if_pos h3]) .non st' H' (bb.l k) hB' rfl
 | rept s=>
  refine ⟨_,hT,_,rfl,?_⟩
  k_mem
  rw [if_neg (by decide)]
  k_upd
  refine ⟨_,hT,_,rfl,?_⟩
  k_mem
  refine mgo hob rfl ⟨_,hT,_,rfl,?_⟩
  k_upd
  refine ⟨_,_,_,_,_,_,_,_,rfl,hB,fun h=>?_,fun l r h h1=>?_,fun l r h h1 st' p H' hp k hB' hA=>?_⟩
  ·refine q2 .nr ?_ _ (au.refl H)
   cases e with
   | wait l r=>exact absurd rfl (h l r)
   | _=>rfl
  ·subst h
   k_upd
   exact q2 .nc (by simp only [bL,if_neg h1]) _ (au.refl H)
  ·subst h
   k_upd
   exact q1 (by simp only [bL,if_pos h1]) _ st' H' (bb.l k) hB' ⟨p,l,r,rfl,rfl,hA⟩
 | use l k=>
  refine ⟨_,hT,_,rfl,?_⟩
  k_mem
  rw [if_neg (by decide)]
  k_upd
  refine ⟨_,hT,_,rfl,?_⟩
  k_mem
  rw [if_neg (by decide)]
  k_upd
  refine ⟨_,hT,_,rfl,?_⟩
  k_mem
  rw [if_pos rfl]
  k_upd
  refine mgo hob rfl ⟨_,hT,_,rfl,_,hT,_,rfl,?_⟩
  k_upd
  refine ⟨_,_,_,_,_,_,_,_,_,rfl,hB,hd,fun h=>?_,fun h1 h2 h H' s=>?_,fun h1 h2 h st' H' k hB'=>?_⟩
  ·k_upd
   exact q2 .lv (by rw [bL,if_pos (by omega)]) _ (au.refl H)
  ·k_upd
   exact q2 .na (by rw [bL,if_neg (by omega),if_neg h]) _ s
  ·k_upd
   exact q1 (by rw [bL,if_neg (by omega),if_pos h]) _ st' H' (bb.l k) hB' rfl
 | fail l=>
  refine ⟨_,hT,_,rfl,?_⟩
  k_mem
  rw [if_neg (by decide)]
  k_upd
  refine ⟨_,hT,_,rfl,?_⟩
  k_mem
  rw [if_neg (by decide)]
  k_upd
  refine ⟨_,hT,_,rfl,?_⟩
  k_mem
  rw [if_neg (by decide)]
  k_upd
  refine mgo hob rfl ⟨_,hT,_,rfl,?_⟩
  k_upd
  refine ⟨_,_,_,_,_,_,_,_,rfl,hB,fun h=>?_,fun h1 h2 h=>?_,fun h1 h2 h H' k hf=>?_⟩
  ·k_upd
   exact q2 .lv (by rw [bL,if_pos (by omega)]) _ (au.refl H)
  ·k_upd
   exact q2 .ch (by rw [bL,if_neg (by omega),if_pos h]) _ (au.refl H)
  ·k_upd
   exact q1 (by rw [bL,if_neg (by omega),if_neg (by rw [h];decide)]) .non st H' (bb.r k) (kW hB k hf (show (fs.set l.toNat true).length=fs.length by rw [List.length_set])) rfl
variable (gf:KD P w K mg base (CXf P w) 4 "_law_bell_call" (cZ K Z))
noncomputable def fD (K:JA):Nat->Sp
 | 0=>fun _ _ _ _=>False
 | n+1=>fun vs H Q _=>∃(x y:V) (d:Dt),vs=[x,y]/\Rep K H n x d/\Rep K H n y d/\∀H',au H H'->Q (.bl true) H'
noncomputable def oG (K:JA)(Z:Adr):Sp:=fD K 5
def nK (x y:V)(H:Hp)(_:Nat)(σ:St)(H':Hp):Prop:=au H H'/\∃t,σ=[some x,some y,none,t]
theorem oH {v:V}{T:String}(h:i5 v=some T):(["list","tuple"].any (lr T))=false:=by
 cases v<;>simp only [i5,Option.some.injEq,reduceCtorEq] at h<;>subst h<;>decide
theorem lQ {v:V}(h:aQ v=true):∃T,i5 v=some T:=by
 cases v<;>simp only [aQ,reduceCtorEq,Bool.false_eq_true] at h<;>exact ⟨_,rfl⟩
theorem oI {v:V}(h:aQ v=true):jD v v=true:=by
 cases v<;>simp only [aQ,reduceCtorEq,Bool.false_eq_true] at h<;>rfl
include T in
theorem iA {n:Nat}(cb:KD P w K mg base CX0 n "_law_same" (fD K n)):FF P w K mg base CX0 (n+1) "_law_same" "_law_same" ff gQ (fD K (n+1)):=fk0 hV fun vs H Q E h=>by
 obtain ⟨x,y,d,rfl,hx,hy,q⟩:=h
 k_all
 refine ⟨_,ag (aT (dS (bz (aE hJ (by rfl) T.aI aG (pa2 (pv' 1) (ba (pa2 (bO (v:=.ty "list") (by rfl) T.jl gF rfl) (bO (v:=.ty "tuple") (by rfl) T.kQ iY rfl))))))) (ag (aO (i:=2) hV.nd rfl orL (bE gp (aE hJ (by rfl) T.aI aG (pa2 (pv' 0) (ba (pa2 (bO (v:=.ty "int") (by rfl) T.jm gj rfl) (bO (v:=.ty "str") (by rfl) T.tF pB rfl))))) (aE hJ (by rfl) T.aI aG (pa2 (pv' 1) (ba (pa2 (bO (v:=.ty "int") (by rfl) T.jm gj rfl) (bO (v:=.ty "str") (by rfl) T.tF pB rfl))))) (bD _))) (ai (aC (gL (pv' 2) (gL (bE gp (aE cL (by rfl) T.aI aG (pa2 (pv' 0) (bO (v:=.ty "bool") (by rfl) T.qw mY rfl))) (aE cL (by rfl) T.aI aG (pa2 (pv' 1) (bO (v:=.ty "bool") (by rfl) T.qw mY rfl))) (bD _)) (km (bE gp (pv' 0) (pv' 1) (bD _)))))))) (aB)) (ag (aT (j8 (aE cL (by rfl) T.aI aG (pa2 (pv' 0) (bO (v:=.ty "list") (by rfl) T.jl gF rfl))) (aE cL (by rfl) T.aI aG (pa2 (pv' 1) (bO (v:=.ty "list") (by rfl) T.jl gF rfl)))) (ai (aC cN)) (aB)) (ag (aT (oO (j8 (aE cL (by rfl) T.aI aG (pa2 (pv' 0) (bO (v:=.ty "tuple") (by rfl) T.kQ iY rfl))) (aE cL (by rfl) T.aI aG (pa2 (pv' 1) (bO (v:=.ty "tuple") (by rfl) T.kQ iY rfl)))) (lU (j8 (aE aH (by rfl) T.cS bR (pa1 (pv' 0))) (aE aH (by rfl) T.cS bR (pa1 (pv' 1)))))).pt (ai (aC cN)) (aB)) (ag (iT PassesOwn.never rfl (bS (by rfl) T.cJ (pa1 (aE aH (by rfl) T.cS bR (pa1 (pv' 1))))) (bu (i:=3) hV.nd rfl orL) (ai (aT (dS (bz (dc0 cb hr (pa2 (ak pq (pv' 0) (pv' 3)) (ak pq (pv' 1) (pv' 3)))))) (ai (aC cN)) (aB)))) (ai (aC cN))))),?_⟩
 k_mem
 refine ⟨by decide,fun tp htp=>?_⟩
 have s1:=(au.refl H).lay (o:=HO.tup [V.ty "list",V.ty "tuple"]) htp
 have ht1:upd H tp (HO.tup [V.ty "list",V.ty "tuple"]) tp=some (HO.tup (["list","tuple"].map V.ty)):=ae
 generalize upd H tp (HO.tup [V.ty "list",V.ty "tuple"])=H1 at *
 cases hx with
 | @flat _ v hv=>
  cases hy with
  | flat _=>
   obtain ⟨T0,hT⟩:=lQ hv
   refine ⟨_,tp,["list","tuple"],T0,rfl,SqT.of ht1,.inl hT,by decide,?_⟩
   rw [oH hT]
   k_mem
   refine ⟨by decide,fun p1 hp1=>⟨_,p1,["int","str"],T0,rfl,SqT.of ae,.inl hT,by decide,?_⟩⟩
   refine ⟨by decide,fun p2 hp2=>⟨_,p2,["int","str"],T0,rfl,SqT.of ae,.inl hT,by decide,?_⟩⟩
   k_mem
   rw [if_pos rfl]
   refine ⟨_,"bool",T0,rfl,.inl hT,by decide,_,"bool",T0,rfl,.inl hT,by decide,?_⟩
   k_mem
   rw [if_pos rfl]
   refine nv.mp ⟨oI hv,?_⟩
   rw [decide_eq_true rfl]
   exact q _ ((s1.lay hp1).lay hp2)
 | @lst m a xs ds hs hb hl hrx=>
  cases hy with
  | @lst _ b ys _ hs' hb' hl' hry=>
   have ha1:=s1.seq hs
   have hb1:=s1.seq hs'
   refine ⟨.ref b,tp,["list","tuple"],"list",rfl,SqT.of ht1,.inr (.inl ⟨b,ys,rfl,hb1,rfl⟩),by decide,?_⟩
   rw [show (["list","tuple"].any (lr "list"))=true from by decide]
   k_mem
   refine ⟨.ref a,"list","list",rfl,.inr (.inl ⟨a,xs,rfl,ha1,rfl⟩),by decide,.ref b,"list","list",rfl,.inr (.inl ⟨b,ys,rfl,hb1,rfl⟩),by decide,?_⟩
   k_mem
   refine ⟨.ref a,"tuple","list",rfl,.inr (.inl ⟨a,xs,rfl,ha1,rfl⟩),by decide,.ref b,"tuple","list",rfl,.inr (.inl ⟨b,ys,rfl,hb1,rfl⟩),by decide,?_⟩
   k_mem
   refine ⟨xs,.inl ha1,ys,.inl hb1,?_⟩
   rw [if_neg (by omega)]
   refine ⟨ys,.inl hb1,by omega,by omega,?_⟩
   refine a6 (nK (.ref a) (.ref b) H1) ⟨au.refl _,_,rfl⟩ ?_ ?_
   ·rintro i σ H2 hi ⟨s2,t,rfl⟩
    have hi1:i < xs.length:=by omega
    have hi2:i < ys.length:=by omega
    have hi3:i < ds.length:=by omega
    have ex:xs[i]?=some xs[i]:=List.getElem?_eq_getElem hi1
    have ey:ys[i]?=some ys[i]:=List.getElem?_eq_getElem hi2
    have ed:ds[i]?=some ds[i]:=List.getElem?_eq_getElem hi3
    k_mem
    rw [Int.zero_add]
    refine .inl ⟨a,xs,_,_,rfl,rfl,s2.seq ha1,ay ex,.inl ⟨b,ys,_,_,rfl,rfl,s2.seq hb1,ay ey,?_⟩⟩
    refine ⟨_,_,ds[i],rfl,(hrx i _ _ ex ed).same (s1.trans s2),(hry i _ _ ey ed).same (s1.trans s2),fun H3 s3=>?_⟩
    k_mem
    exact ⟨s2.trans s3,_,rfl⟩
   ·rintro σ H2 ⟨s2,t,rfl⟩
    k_mem
    exact q _ (s1.trans s2)
 | @tup m a xs ds hs hb hl hrx=>
  cases hy with
  | @tup _ b ys _ hs' hb' hl' hry=>
   have ha1:=s1.tup hs
   have hb1:=s1.tup hs'
   refine ⟨.ref b,tp,["list","tuple"],"tuple",rfl,SqT.of ht1,.inr (.inr ⟨b,ys,rfl,hb1,rfl⟩),by decide,?_⟩
   rw [show (["list","tuple"].any (lr "tuple"))=true from by decide]
   k_mem
   refine ⟨.ref a,"list","tuple",rfl,.inr (.inr ⟨a,xs,rfl,ha1,rfl⟩),by decide,.ref b,"list","tuple",rfl,.inr (.inr ⟨b,ys,rfl,hb1,rfl⟩),by decide,?_⟩
   k_mem
   refine ⟨.ref a,"tuple","tuple",rfl,.inr (.inr ⟨a,xs,rfl,ha1,rfl⟩),by decide,.ref b,"tuple","tuple",rfl,.inr (.inr ⟨b,ys,rfl,hb1,rfl⟩),by decide,?_⟩
   k_mem
   refine ⟨xs,.inr ha1,ys,.inr hb1,?_⟩
   rw [if_neg (by omega)]
   refine ⟨ys,.inr hb1,by omega,by omega,?_⟩
   refine a6 (nK (.ref a) (.ref b) H1) ⟨au.refl _,_,rfl⟩ ?_ ?_
   ·rintro i σ H2 hi ⟨s2,t,rfl⟩
    have hi1:i < xs.length:=by omega
    have hi2:i < ys.length:=by omega
    have hi3:i < ds.length:=by omega
    have ex:xs[i]?=some xs[i]:=List.getElem?_eq_getElem hi1
    have ey:ys[i]?=some ys[i]:=List.getElem?_eq_getElem hi2
    have ed:ds[i]?=some ds[i]:=List.getElem?_eq_getElem hi3
    k_mem
    rw [Int.zero_add]
    refine .inr (.inl ⟨a,xs,_,_,rfl,rfl,s2.tup ha1,ay ex,.inr (.inl ⟨b,ys,_,_,rfl,rfl,s2.tup hb1,ay ey,?_⟩)⟩)
    refine ⟨_,_,ds[i],rfl,(hrx i _ _ ex ed).same (s1.trans s2),(hry i _ _ ey ed).same (s1.trans s2),fun H3 s3=>?_⟩
    k_mem
    exact ⟨s2.trans s3,_,rfl⟩
   ·rintro σ H2 ⟨s2,t,rfl⟩
    k_mem
    exact q _ (s1.trans s2)
include T in
theorem oJ {f:Addr}{fd:FuncData}(b:mg "_law_same"=some (.ref f))(F:Fun K "_law_same" "_law_same" ff f fd)(c:bF K fd gQ []):FF P w K mg base CX0 5 "_law_same" "_law_same" ff gQ (fD K 5):=
 have h:∀n,KD P w K mg base CX0 n "_law_same" (fD K n):=fun n=>by
  induction n with
  | zero=>exact ⟨f,fd,_,b,F.kp,c,pM⟩
  | succ n ih=>exact KD.mk b F c (iA T ih)
 iA T (h 4)
variable (cb:KD P w K mg base CX0 5 "_law_same" (oG K Z))
noncomputable def vR:Rb->List V
 | .lv=>[.bl true,.bl false,.bl false,.bl false,.bl false,.bl false]
 | .db=>[.bl false,.bl true,.bl false,.bl false,.bl false,.bl false]
 | .nc=>[.bl false,.bl false,.bl true,.bl false,.bl false,.bl false]
 | .nr=>[.bl false,.bl false,.bl false,.bl true,.bl false,.bl false]
 | .ch=>[.bl false,.bl false,.bl false,.bl false,.bl true,.bl false]
 | .na=>[.bl false,.bl false,.bl false,.bl false,.bl false,.bl true]
noncomputable def sx:Rb->Nat->Bool
 | .lv,i=>i == 0
 | .db,i=>i == 1
 | .nc,i=>i == 2
 | .nr,i=>i == 3
 | .ch,i=>i == 4
 | .na,i=>i == 5
noncomputable def nL (i:Nat):V:=[V.str "UnknownLevel",.str "DeadBell",.str "NoCode",.str "NothingRung",.str "NoChange",.str "NotArmed"].getD i .non
def fT (r:Rb):Prop:=True
theorem sy (r:Rb)(h:fT r):((List.range 6).filter (sx r)).map nL=[V.str (nmB (some r))]:=by
 cases r<;>first | rfl | exact absurd rfl h.1 | exact absurd rfl h.2
theorem uX (r:Rb)(i:Nat)(h:i < 6):atI (vR r) (0+(i:Int))=some (.bl (sx r i)):=by
 rcases (by omega:i=0\/i=1\/i=2\/i=3\/i=4\/i=5) with rfl | rfl | rfl | rfl | rfl | rfl<;>cases r<;>rfl
theorem sD (i:Nat)(h:i < 6):atI [V.str "UnknownLevel",.str "DeadBell",.str "NoCode",.str "NothingRung",.str "NoChange",.str "NotArmed"] (0+(i:Int))=some (nL i):=by
 rcases (by omega:i=0\/i=1\/i=2\/i=3\/i=4\/i=5) with rfl | rfl | rfl | rfl | rfl | rfl<;>rfl
noncomputable def doE (ls:List Cd)(fs:List Bool)(e:Eng)(d:Bd):Eng:=match bL ls fs e d with | none=>om ls e d | some _=>e
noncomputable def doF (ls:List Cd)(fs:List Bool)(e:Eng)(d:Bd):List Bool:=match bL ls fs e d with | none=>pP fs d | some _=>fs
def DoR (K:JA)(H:Hp)(p:Addr)(ls:List Cd)(fs:List Bool)(e:Eng)(d:Bd):Prop:=match bL ls fs e d with
 | none=>∃v,H p=some (.lst [.bl true,v])/\oo K H e d v
 | some r=>H p=some (.lst [.bl false,.str (nmB (some r))])
inductive eL (K:JA)(Z:Adr)(vs:List V)(H:Hp)(Q:VK)(E:XK):Prop | mk (b cs fl st dd:Addr) (ls:List Cd) (fs:List Bool) (e:Eng) (d:Bd):vs=[.ref b,.ref dd]->aL Z.aP K H b cs fl st ls fs e->SqT K H dd (bdV d)->q0 d->((∀r,bL ls fs e d=some r->fT r))->(∀(p st':Addr) (H':Hp),H p=none->bb b fl H H'->(∀r,bL ls fs e d=some r->au H H')->aL Z.aP K H' b cs fl st' ls (doF ls fs e d) (doE ls fs e d)->DoR K H' p ls fs e d->Q (.ref p) H')->eL K Z vs H Q E
include T gf in
theorem kX:FF P w K mg base CX0 5 "_law_bell_do" "_law_bell_do" cz iq (eL K Z):=fk0 bZ fun vs H Q E h=>by
 obtain ⟨b,cs,fl,st,dd,ls,fs,e,d,rfl,hB,hT,hd,hr0,q⟩:=h
 k_all
 obtain ⟨t1,h1,k1⟩:∃t,PSs (iX CX0 P w K mg base ["_law_bells","_law_deed_here","_law_hit","e","_law_names","_law_met"] "_law_bell_do" (ao cz) zf zv zA zo zs H E).nox ((a8 cz).drop 2) t/\∀(hh:Addr) (u:Option V) (r:Rb) (H1:Hp),bL ls fs e d=some r->au H H1->H1 hh=some (.lst (vR r))->t ({nx:=fun _ H2=>Q .non H2,rt:=Q}:iD) [some (.ref b),some (.ref dd),some (.ref hh),u,none,none] H1:=by
  refine seg 3 (ai (aC (bg (pa2 cN (ak aq (pv' 5) af))))) fun zt3 zh3 ze3=>?_
  refine seg 2 (ag (aT (j8 (aE aH (by rfl) T.cS bR (pa1 (pv' 5))) af) (ai (aC (bg (pa2 cN aw)))) (aB)) zh3) fun zt2 zh2 ze2=>?_
  refine seg 1 (ag (j3 ["_law_k","_law_names","_law_hit"] [none,some 4,some 2] (iy:=5) bZ.nd rfl rfl (bS (by rfl) T.cJ (pa1 (aE aH (by rfl) T.cS bR (pa1 (pv' 4))))) (fun _ _ _ _=>(bu (i:=0) (show (["_law_k","_law_names","_law_hit"]:List Str).Nodup by decide +kernel) rfl orL)) (fun _ _ _ _=>(gD (bz (ak (show IxR _ (j6 K) from aq) (pv' 2) (pv' 0))))) (fun _ _ _ _=>(ak (show IxR _ (j6 K) from aq) (pv' 1) (pv' 0)))) zh2) fun zt1 zh1 ze1=>?_
  refine ⟨_,ag (aO (i:=4) bZ.nd rfl (Or.inr rfl) (bg (fG aw (fG aw (pa4 aw aw aw aw))))) zh1,?_⟩
  intro hh u r H1 er s1 hh1
  k_mem
  refine ⟨by decide,fun pn hpn=>?_⟩
  k_mem
  refine ⟨_,.inl (SqL.of ae),by decide,by decide,?_⟩
  refine eP (sx r) nL (by decide) rfl (fun i hi N hN=>?_) (fun i hi _ N hN=>?_) fun pm hpm=>?_
  ·k_mem
   k_upd
   exact ⟨_,SqL.of (upo hh1 hpn),_,uX r i hi,hN⟩
  ·k_mem
   k_upd
   exact ⟨_,SqL.of ae,_,sD i hi,hN⟩
  ·k_mem
   have em:List.map nL (List.filter (sx r) (List.range (((6:Nat):Int)).toNat))=[V.str (nmB (some r))]:=sy r (hr0 r er)
   k_upd
   refine ⟨_,.inl (SqL.of ae),?_⟩
   rw [em,if_neg (by simp)]
   k_upd
   refine ⟨_,SqL.of ae,_,rfl,by decide,fun p hp=>?_⟩
   have s2:=((s1.lay hpn).lay hpm).lay (o:=HO.lst [V.bl false,V.str (nmB (some r))]) hp
   refine q p st _ (((s1.lay hpn).lay hpm).free hp) (bb.of s2) (fun _ _=>s2) ?_ ?_
   ·simp only [doE,doF,er]
    exact hB.same s2
   ·simp only [DoR,er]
    exact ae
 refine seg 1 (ag (uu (i:=3) rfl rfl (fun _ _=>ai (aC (bg (pa2 cN (dcT gf hr.dn (pa2 (pv' 0) (pv' 1))))))) (fun _=>ag (bK (show PE _ _ (tBM K "list" bY _ _) from eT PySem.F.plainAttrs_list PySem.F.slot_list_append PySem.F.type_list_append bx (pv' 2) (pa1 (aE (show bW _ (.builtin "isinstance") (lq K) from dB) (by rfl) T.aI aG (pa2 (pv' 3) (dR (v:=.ref Z.az) (by rfl) T.fi rfl)))))) (ag (bK (show PE _ _ (tBM K "list" bY _ _) from eT PySem.F.plainAttrs_list PySem.F.slot_list_append PySem.F.type_list_append bx (pv' 2) (pa1 (aE (show bW _ (.builtin "isinstance") (lq K) from dB) (by rfl) T.aI aG (pa2 (pv' 3) (dR (v:=.ref Z.aW) (by rfl) T.jo rfl)))))) (ag (bK (show PE _ _ (tBM K "list" bY _ _) from eT PySem.F.plainAttrs_list PySem.F.slot_list_append PySem.F.type_list_append bx (pv' 2) (pa1 (aE (show bW _ (.builtin "isinstance") (lq K) from dB) (by rfl) T.aI aG (pa2 (pv' 3) (dR (v:=.ref Z.bq) (by rfl) T.jq rfl)))))) (ag (bK (show PE _ _ (tBM K "list" bY _ _) from eT PySem.F.plainAttrs_list PySem.F.slot_list_append PySem.F.type_list_append bx (pv' 2) (pa1 (aE (show bW _ (.builtin "isinstance") (lq K) from dB) (by rfl) T.aI aG (pa2 (pv' 3) (dR (v:=.ref Z.aF) (by rfl) T.fY rfl)))))) (ag (bK (show PE _ _ (tBM K "list" bY _ _) from eT PySem.F.plainAttrs_list PySem.F.slot_list_append PySem.F.type_list_append bx (pv' 2) (pa1 (aE (show bW _ (.builtin "isinstance") (lq K) from dB) (by rfl) T.aI aG (pa2 (pv' 3) (dR (v:=.ref Z.aX) (by rfl) T.jr rfl)))))) (ai (bK (show PE _ _ (tBM K "list" bY _ _) from eT PySem.F.plainAttrs_list PySem.F.slot_list_append PySem.F.type_list_append bx (pv' 2) (pa1 (aE (show bW _ (.builtin "isinstance") (lq K) from dB) (by rfl) T.aI aG (pa2 (pv' 3) (dR (v:=.ref Z.aU) (by rfl) T.js rfl)))))))))))) bZ.nd rfl rfl (by rfl) T.lI) h1) fun zt1 zh1 ze1=>?_
 refine ⟨_,ag (aO (i:=2) bZ.nd rfl (Or.inr rfl) (bg gh)) zh1,?_⟩
 k_mem
 refine ⟨by decide,fun hh hhn=>?_⟩
 have s0:=(au.refl H).lay (o:=HO.lst []) hhn
 k_upd
 refine ⟨b,cs,fl,st,dd,ls,fs,e,d,rfl,hB.same s0,s0.tup hT,hd,fun er v st' H1 kp hB1 hA=>?_,fun r er H1 s1=>?_⟩
 ·k_mem
  k_upd
  refine ⟨by decide,fun p hp=>?_⟩
  obtain ⟨dx,hob⟩:=hB1.ob
  have npb:p≠b:=fun z=>by rw [z,hob] at hp;cases hp
  have npf:p≠fl:=fun z=>by rw [z,hB1.of] at hp;cases hp
  refine q p st' _ (s0.free (kp.free npb npf hp)) (((bb.of s0).trans kp).trans (bb.of ((au.refl H1).lay hp))) (fun r z=>by rw [er] at z;cases z) ?_ ?_
  ·simp only [doE,doF,er]
   exact hB1.same ((au.refl H1).lay hp)
  ·simp only [DoR,er]
   k_upd
   exact ⟨v,ae,oo.same ((au.refl H1).lay hp) hA⟩
 ·have hh1:=s1 _ _ (ae (H:=H) (a:=hh) (o:=HO.lst []))
  have ht:=hr0 r er
  cases r with
  | lv=>
   refine ⟨T.dq,fun e he=>?_⟩
   have neh:e≠hh:=fun z=>by rw [z,hh1] at he;cases he
   k_mem
   refine ⟨.inl ⟨rfl,_,SqL.of (upo hh1 he)⟩,bH ae T.bt T.cK aA ⟨_,upo hh1 he,by decide,?_⟩⟩
   k_upd
   refine ⟨.inl ⟨rfl,_,SqL.of ae⟩,bH (by simp only [aj neh,ae];rfl) T.bt T.dE aA ⟨_,ae,by decide,?_⟩⟩
   k_upd
   refine ⟨.inl ⟨rfl,_,SqL.of ae⟩,bH (by simp only [aj neh,ae];rfl) T.bt T.eR aA ⟨_,ae,by decide,?_⟩⟩
   k_upd
   refine ⟨.inl ⟨rfl,_,SqL.of ae⟩,bH (by simp only [aj neh,ae];rfl) T.bt T.cT aA ⟨_,ae,by decide,?_⟩⟩
   k_upd
   refine ⟨.inl ⟨rfl,_,SqL.of ae⟩,bH (by simp only [aj neh,ae];rfl) T.bt T.dF aA ⟨_,ae,by decide,?_⟩⟩
   k_upd
   refine ⟨.inl ⟨rfl,_,SqL.of ae⟩,bH (by simp only [aj neh,ae];rfl) T.bt T.dG aA ⟨_,ae,by decide,?_⟩⟩
   exact k1 hh _ .lv _ er ((((((((s0.trans s1).lay he).rewr hhn).rewr hhn).rewr hhn).rewr hhn).rewr hhn).rewr hhn) ae
  | db=>
   refine ⟨T.fj,fun e he=>?_⟩
   have neh:e≠hh:=fun z=>by rw [z,hh1] at he;cases he
   k_mem
   refine ⟨.inl ⟨rfl,_,SqL.of (upo hh1 he)⟩,bH ae T.cn T.dH aA ⟨_,upo hh1 he,by decide,?_⟩⟩
   k_upd
   refine ⟨.inl ⟨rfl,_,SqL.of ae⟩,bH (by simp only [aj neh,ae];rfl) T.cn T.fK aA ⟨_,ae,by decide,?_⟩⟩
   k_upd
   refine ⟨.inl ⟨rfl,_,SqL.of ae⟩,bH (by simp only [aj neh,ae];rfl) T.cn T.gS aA ⟨_,ae,by decide,?_⟩⟩
   k_upd
   refine ⟨.inl ⟨rfl,_,SqL.of ae⟩,bH (by simp only [aj neh,ae];rfl) T.cn T.ez aA ⟨_,ae,by decide,?_⟩⟩
   k_upd
   refine ⟨.inl ⟨rfl,_,SqL.of ae⟩,bH (by simp only [aj neh,ae];rfl) T.cn T.fL aA ⟨_,ae,by decide,?_⟩⟩
   k_upd
   refine ⟨.inl ⟨rfl,_,SqL.of ae⟩,bH (by simp only [aj neh,ae];rfl) T.cn T.fM aA ⟨_,ae,by decide,?_⟩⟩
   exact k1 hh _ .db _ er ((((((((s0.trans s1).lay he).rewr hhn).rewr hhn).rewr hhn).rewr hhn).rewr hhn).rewr hhn) ae
  | nc=>
   refine ⟨T.gw,fun e he=>?_⟩
   have neh:e≠hh:=fun z=>by rw [z,hh1] at he;cases he
   k_mem
   refine ⟨.inl ⟨rfl,_,SqL.of (upo hh1 he)⟩,bH ae T.dI T.eS aA ⟨_,upo hh1 he,by decide,?_⟩⟩
   k_upd
   refine ⟨.inl ⟨rfl,_,SqL.of ae⟩,bH (by simp only [aj neh,ae];rfl) T.dI T.gT aA ⟨_,ae,by decide,?_⟩⟩
   k_upd
   refine ⟨.inl ⟨rfl,_,SqL.of ae⟩,bH (by simp only [aj neh,ae];rfl) T.dI T.iH aA ⟨_,ae,by decide,?_⟩⟩
   k_upd
   refine ⟨.inl ⟨rfl,_,SqL.of ae⟩,bH (by simp only [aj neh,ae];rfl) T.dI T.fm aA ⟨_,ae,by decide,?_⟩⟩
   k_upd
   refine ⟨.inl ⟨rfl,_,SqL.of ae⟩,bH (by simp only [aj neh,ae];rfl) T.dI T.gU aA ⟨_,ae,by decide,?_⟩⟩
   k_upd
   refine ⟨.inl ⟨rfl,_,SqL.of ae⟩,bH (by simp only [aj neh,ae];rfl) T.dI T.gV aA ⟨_,ae,by decide,?_⟩⟩
   exact k1 hh _ .nc _ er ((((((((s0.trans s1).lay he).rewr hhn).rewr hhn).rewr hhn).rewr hhn).rewr hhn).rewr hhn) ae
  | nr=>
   refine ⟨T.dJ,fun e he=>?_⟩
   have neh:e≠hh:=fun z=>by rw [z,hh1] at he;cases he
   k_mem
   refine ⟨.inl ⟨rfl,_,SqL.of (upo hh1 he)⟩,bH ae T.bB T.cU aA ⟨_,upo hh1 he,by decide,?_⟩⟩
   k_upd
   refine ⟨.inl ⟨rfl,_,SqL.of ae⟩,bH (by simp only [aj neh,ae];rfl) T.bB T.eB aA ⟨_,ae,by decide,?_⟩⟩
   k_upd
   refine ⟨.inl ⟨rfl,_,SqL.of ae⟩,bH (by simp only [aj neh,ae];rfl) T.bB T.fo aA ⟨_,ae,by decide,?_⟩⟩
   k_upd
   refine ⟨.inl ⟨rfl,_,SqL.of ae⟩,bH (by simp only [aj neh,ae];rfl) T.bB T.de aA ⟨_,ae,by decide,?_⟩⟩
   k_upd
   refine ⟨.inl ⟨rfl,_,SqL.of ae⟩,bH (by simp only [aj neh,ae];rfl) T.bB T.eC aA ⟨_,ae,by decide,?_⟩⟩
   k_upd
   refine ⟨.inl ⟨rfl,_,SqL.of ae⟩,bH (by simp only [aj neh,ae];rfl) T.bB T.eD aA ⟨_,ae,by decide,?_⟩⟩
   exact k1 hh _ .nr _ er ((((((((s0.trans s1).lay he).rewr hhn).rewr hhn).rewr hhn).rewr hhn).rewr hhn).rewr hhn) ae
  | ch=>
   refine ⟨T.fq,fun e he=>?_⟩
   have neh:e≠hh:=fun z=>by rw [z,hh1] at he;cases he
   k_mem
   refine ⟨.inl ⟨rfl,_,SqL.of (upo hh1 he)⟩,bH ae T.cq T.dM aA ⟨_,upo hh1 he,by decide,?_⟩⟩
   k_upd
   refine ⟨.inl ⟨rfl,_,SqL.of ae⟩,bH (by simp only [aj neh,ae];rfl) T.cq T.fN aA ⟨_,ae,by decide,?_⟩⟩
   k_upd
   refine ⟨.inl ⟨rfl,_,SqL.of ae⟩,bH (by simp only [aj neh,ae];rfl) T.cq T.gW aA ⟨_,ae,by decide,?_⟩⟩
   k_upd
   refine ⟨.inl ⟨rfl,_,SqL.of ae⟩,bH (by simp only [aj neh,ae];rfl) T.cq T.eE aA ⟨_,ae,by decide,?_⟩⟩
   k_upd
   refine ⟨.inl ⟨rfl,_,SqL.of ae⟩,bH (by simp only [aj neh,ae];rfl) T.cq T.fO aA ⟨_,ae,by decide,?_⟩⟩
   k_upd
   refine ⟨.inl ⟨rfl,_,SqL.of ae⟩,bH (by simp only [aj neh,ae];rfl) T.cq T.fP aA ⟨_,ae,by decide,?_⟩⟩
   exact k1 hh _ .ch _ er ((((((((s0.trans s1).lay he).rewr hhn).rewr hhn).rewr hhn).rewr hhn).rewr hhn).rewr hhn) ae
  | na=>
   refine ⟨T.fu,fun e he=>?_⟩
   have neh:e≠hh:=fun z=>by rw [z,hh1] at he;cases he
   k_mem
   refine ⟨.inl ⟨rfl,_,SqL.of (upo hh1 he)⟩,bH ae T.cu T.dN aA ⟨_,upo hh1 he,by decide,?_⟩⟩
   k_upd
   refine ⟨.inl ⟨rfl,_,SqL.of ae⟩,bH (by simp only [aj neh,ae];rfl) T.cu T.fQ aA ⟨_,ae,by decide,?_⟩⟩
   k_upd
   refine ⟨.inl ⟨rfl,_,SqL.of ae⟩,bH (by simp only [aj neh,ae];rfl) T.cu T.gX aA ⟨_,ae,by decide,?_⟩⟩
   k_upd
   refine ⟨.inl ⟨rfl,_,SqL.of ae⟩,bH (by simp only [aj neh,ae];rfl) T.cu T.eF aA ⟨_,ae,by decide,?_⟩⟩
   k_upd
   refine ⟨.inl ⟨rfl,_,SqL.of ae⟩,bH (by simp only [aj neh,ae];rfl) T.cu T.fR aA ⟨_,ae,by decide,?_⟩⟩
   k_upd
   refine ⟨.inl ⟨rfl,_,SqL.of ae⟩,bH (by simp only [aj neh,ae];rfl) T.cu T.fS aA ⟨_,ae,by decide,?_⟩⟩
   exact k1 hh _ .na _ er ((((((((s0.trans s1).lay he).rewr hhn).rewr hhn).rewr hhn).rewr hhn).rewr hhn).rewr hhn) ae
variable (iB:KD P w K mg base CX0 5 "_law_bell_do" (eL K Z))
inductive fE (K:JA)(Z:Adr)(vs:List V)(H:Hp)(Q:VK)(E:XK):Prop | mk (b cl dn cB fl st:Addr) (ls:List Cd) (fs:List Bool) (e:Eng) (cs as:List Addr) (L:List Bd):vs=[.ref b,.ref cl,.ref dn]->aL Z.aP K H b cB fl st ls fs e->H cl=some (.lst (cs.map V.ref))->cs.length=ls.length->H dn=some (.lst (as.map V.ref))->dO H as L->L.length<=1000->ls.length<=1000->M14 ls fs e L->(∀H',au H H'->Q (.bl true) H')->fE K Z vs H Q E
include T fz eI bJ cb in
theorem lR:FF P w K mg base CX0 6 "_law_stands" "_law_stands" gv jf (fE K Z):=fk0 fh fun vs H Q E h=>by
 obtain ⟨b,cl,dn,cB,fl,st,ls,fs,e,cs,as,L,rfl,hB,hcl,hcs,hdn,hD,hL,l6,hM,q⟩:=h
 k_all
 refine seg 4 (ai (aC (dc0 cb hr.dn (pa2 (uS (pv' 0) eI hr.dn jY) (pv' 3))))) fun zt4 zh4 ze4=>?_
 refine seg 3 (ag (bK (eT PySem.F.plainAttrs_list PySem.F.slot_list_append PySem.F.type_list_append bx (pv' 4) (pa1 af))) zh4) fun zt3 zh3 ze3=>?_
 refine seg 2 (ag (aT (oO (dS (bz (dc0 cb hr.dn (pa2 (pv' 4) (pv' 3))))) (lU (dS (bz (dc0 cb hr.dn (pa2 (uS (pv' 0) fz hr.dn jY) (dc0 bJ hr.dn (pa1 (pv' 2))))))))).pt (ai (aC cN)) (aB)) zh3) fun zt2 zh2 ze2=>?_
 refine seg 1 (ag (aO (i:=4) fh.nd rfl orL (uS (pv' 0) eI hr.dn jY)) zh2) fun zt1 zh1 ze1=>?_
 refine ⟨_,ag (j3 ["_law_at_here","_law_done"] [none,some 2] (iy:=3) fh.nd rfl rfl (bS (by rfl) T.cJ (pa1 (aE aH (by rfl) T.cS bR (pa1 (pv' 1))))) (fun _ _ _ _=>(bu (i:=0) (show (["_law_at_here","_law_done"]:List Str).Nodup by decide +kernel) rfl orL)) (fun _ _ _ _=>(gD (dC (show OpR _ _ (uT K) from qu hr.units1) (ba (pa2 aw (pv' 0))) (pv' 1) (by rfl)))) (fun _ _ _ _=>(pv' 0))) zh1,?_⟩
 have hal:=hD.1
 have ln:=hB.ln
 k_mem
 refine ⟨_,.inl (SqL.of hcl),by rw [JB];omega,by rw [JB];omega,?_⟩
 rw [JB,hcs,Int.toNat_natCast,←ln]
 refine lB (fun i acc H'=>au H H'/\acc=(dX fs i).map V.int) ⟨au.refl _,rfl⟩ rfl ?_ ?_
 ·rintro i acc H7 hi ⟨s7,rfl⟩
  k_upd
  refine ⟨by have:=gm fs i;rw [JB,sizeLine_eq];omega,fun M hM'=>?_⟩
  have gs:=il fs i
  k_mem
  refine ⟨by decide,fun pt hpt=>?_⟩
  (generalize hE:upd H7 pt _=H8 at *;have s8:=bc hE hpt;have e8:=aJ hE;clear hE)
  rw [Int.zero_add] at *
  obtain ⟨f,f1,f2⟩:=sj (K:=K) (lv:=(i:Int)) (hD.same (s7.trans s8)) e8
  k_upd
  refine ⟨as,_,f,SqL.of ((s7.trans s8) _ _ hdn),SqT.of e8,rfl,f1,?_⟩
  have hf:=hM.fl i (by omega)
  by_cases hm:as.any f=true
  ·rw [if_pos hm]
   k_upd
   rw [if_pos (hf.mpr (f2.mp hm))] at gs
   k_mem
   exact hM' _ _ ⟨s7.trans s8,by rw [gs,List.map_append];rfl⟩
  ·rw [if_neg hm]
   k_upd
   rw [if_neg (fun z=>hm (f2.mpr (hf.mp z)))] at gs
   exact hM' _ _ ⟨s7.trans s8,by rw [gs,List.append_nil]⟩
 ·rintro acc H7 ⟨s7,rfl⟩ pd hpd
  (generalize hE:upd H7 pd _=H8 at *;have s8:=bc hE hpd;have e8:=aJ hE;clear hE)
  have s18:=s7.trans s8
  k_mem
  obtain ⟨dx,hob⟩:=(hB.same s18).ob
  k_upd
  refine mgo hob rfl ⟨_,_,_,_,_,_,_,rfl,hB.same s18,by omega,fun p1 H9 hp1 s9 e9=>?_⟩
  k_mem
  have e8':=s9 _ _ e8
  have hdl:(j4 fs).length<=1000:=by have:=gm fs fs.length;show (dX fs fs.length).length<=1000;omega
  k_upd
  refine ⟨_,_,_,rfl,gI (SqL.of e9) (by omega),gI (SqL.of e8') (by show (j4 fs).length<=_;omega),fun H10 s10=>?_⟩
  k_mem
  have s110:=s18.trans (s9.trans s10)
  obtain ⟨dx',hob'⟩:=(hB.same s110).ob
  k_upd
  refine mgo hob' rfl ⟨_,_,_,_,_,_,_,rfl,hB.same s110,?_⟩
  k_mem
  refine ⟨dn,as,L,jy e,rfl,s110 _ _ hdn,(hD.same s110).at,hL,hM.en,fun p2 H11 s11 hp2=>?_⟩
  rw [so hM.ot] at hp2
  have s111:=s110.trans s11
  k_upd
  refine ⟨_,_,_,rfl,cj (s111.tup hB.os) (by rw [lx];decide) (hR _),cj hp2 (by rw [lx];decide) (hR _),fun H12 s12=>?_⟩
  k_mem
  have s912:=(s10.trans (s11.trans s12))
  have e12:=s912 _ _ e9
  k_upd
  refine ⟨.inl ⟨rfl,_,SqL.of e12⟩,_,e12,cf (by rw [JB];omega),?_⟩
  have k13:L2.aD p1 H12 (upd H12 p1 (HO.lst ((j4 fs).map V.int++[V.int 3]))):=(aD.of (au.refl H12)).put
  generalize upd H12 p1 (HO.lst ((j4 fs).map V.int++[V.int 3]))=H13 at *
  have f8:H8 p1=none:=hp1
  have s13:au H8 H13:=(s9.trans s912).keeps k13 f8
  have s113:=s18.trans s13
  k_mem
  obtain ⟨dx2,hob2⟩:=(hB.same s113).ob
  k_upd
  refine mgo hob2 rfl ⟨_,_,_,_,_,_,_,rfl,hB.same s113,by omega,fun p3 H14 hp3 s14 e14=>?_⟩
  k_mem
  refine ⟨_,_,_,rfl,gI (SqL.of e14) (by omega),gI (SqL.of (s14 _ _ (s13 _ _ e8))) (by show (j4 fs).length<=_;omega),fun H15 s15=>?_⟩
  k_upd
  exact q _ (s113.trans (s14.trans s15))
variable (eM:KD P w K mg base CX0 6 "_law_stands" (fE K Z))
theorem nM {K:JA}{te:TE}{cm:List (Option Nat)}{σ:St}{H:Hp}{Q:VK}{j:Nat}{a:Addr}{x0 x1:V}(R1:V->Hp->Prop)(R2:V->V->Hp->Prop)(hj:(bf cm σ)[j]?=some none)
  (hS:SqL K H a [x0,x1]) (hS1:∀v H1,R1 v H1->SqL K H1 a [x0,x1]) (hS2:∀v v' H1,R2 v v' H1->SqL K H1 a [x0,x1])
  (h0:∀N:VK,(∀v H',R1 v H'->N v H')->te ((bf cm σ).set j (some x0)) H N)
  (h1:∀v H1,R1 v H1->∀N:VK,(∀v' H',R2 v v' H'->N v' H')->te ((bf cm σ).set j (some x1)) H1 N)
  (hd:∀v v' H',R2 v v' H'->∀p,H' p=none->Q (.ref p) (upd H' p (.lst [v,v']))):iZ (Itl K a) (dz j) qT te cm σ Q H:=by
 have sq:∀i acc H',((i=0/\acc=([]:List V)/\H'=H)\/(i=1/\∃v,acc=[v]/\R1 v H')\/(i=2/\∃v v',acc=[v,v']/\R2 v v' H'))->SqL K H' a [x0,x1]:=by
  rintro i acc H' (⟨rfl,rfl,rfl⟩ | ⟨rfl,v,rfl,hr⟩ | ⟨rfl,v,v',rfl,hr⟩)
  ·exact hS
  ·exact hS1 _ _ hr
  ·exact hS2 _ _ _ hr
 refine kE 2 (fun i acc H'=>(i=0/\acc=[]/\H'=H)\/(i=1/\∃v,acc=[v]/\R1 v H')\/(i=2/\∃v v',acc=[v,v']/\R2 v v' H')) (.inl ⟨rfl,rfl,rfl⟩) (fun i acc H' hi h=>?_) (fun acc H' h=>⟨_,sq _ _ _ h,Nat.le_refl _⟩) ?_ ?_
 ·refine ⟨_,([x0,x1])[i]'hi,sq _ _ _ h,List.getElem?_eq_getElem hi⟩
 ·intro i acc H' hi h
  refine ⟨?_,fun x H2 y M hM=>?_⟩
  ·rcases h with ⟨_,rfl,_⟩ | ⟨_,v,rfl,_⟩ | ⟨e,_⟩
   ·decide
   ·show 1 < sizeLine;decide
   ·omega
  obtain ⟨e,y⟩:=y
  subst e
  have hx:=y _ (sq _ _ _ h)
  refine ⟨mh hj,?_⟩
  unfold qT;dsimp only
  split
  ·rcases h with ⟨rfl,rfl,rfl⟩ | ⟨rfl,v,rfl,hr⟩ | ⟨rfl,_⟩
   ·cases hx
    exact h0 _ fun v H2 r=>hM _ _ (.inr (.inl ⟨rfl,v,rfl,r⟩))
   ·cases hx
    exact h1 v _ hr _ fun v' H2 r=>hM _ _ (.inr (.inr ⟨rfl,v,v',rfl,r⟩))
   ·omega
  ·rename_i z;exact absurd rfl z
 ·rintro acc H' (⟨e,_⟩ | ⟨e,_⟩ | ⟨_,v,v',rfl,hr⟩) p hp
  ·cases e
  ·cases e
  ·exact hd v v' H' hr p hp
def Sd (Z:Adr)(K:JA)(H:Hp)(b cB fl d:Addr)(ls:List Cd)(n:Nat):Prop:=∃(st:Addr) (fs:List Bool) (e:Eng) (as:List Addr) (L:List Bd),aL Z.aP K H b cB fl st ls fs e/\H d=some (.lst (as.map V.ref))/\dO H as L/\L.length<=n/\M14 ls fs e L
theorem lS {C:Addr}{K:JA}{H H':Hp}{p q b cs fl st D dx:Addr}{ls:List Cd}{fs:List Bool}{e:Eng}{ys:List V}{us:List (Str×V)}(h:aL C K H b cs fl st ls fs e)(s:bb p q H H')(hp:H p=some (.ins D dx us))(hq:H q=some (.lst ys))(n1:b≠p)(n2:cs≠q)(n3:fl≠q):aL C K H' b cs fl st ls fs e:=by
 obtain ⟨⟨dx',a⟩,⟨as,c,t⟩,f,g,n,l⟩:=h
 exact ⟨⟨dx',s _ _ n1 (fun z=>by rw [z,hq] at a;cases a) a⟩,⟨as,s _ _ (fun z=>by rw [z,hp] at c;cases c) n2 c,⟨t.1,fun i a x e1 e2=>(t.2 i a x e1 e2).keep2 s hp hq⟩⟩,s _ _ (fun z=>by rw [z,hp] at f;cases f) n3 f,g.keep2 s hp hq,n,l⟩
theorem dO.keep {H H':Hp}{q:Addr}{as:List Addr}{L:List Bd}{ys:List V}(h:dO H as L)(k:aD q H H')(hq:H q=some (.lst ys)):dO H' as L:=h.imp fun a x e=>k _ _ (fun z=>by rw [z,hq] at e;cases e) e
theorem dO.keep2 {H H':Hp}{p q D dx:Addr}{as:List Addr}{L:List Bd}{ys:List V}{us:List (Str×V)}(h:dO H as L)(k:bb p q H H')(hp:H p=some (.ins D dx us))(hq:H q=some (.lst ys)):dO H' as L:=h.imp fun a x e=>k _ _ (fun z=>by rw [z,hp] at e;cases e) (fun z=>by rw [z,hq] at e;cases e) e
theorem Sd.same {Z:Adr}{K:JA}{H H':Hp}{b cB fl d:Addr}{ls:List Cd}{n:Nat}(h:Sd Z K H b cB fl d ls n)(s:au H H'):Sd Z K H' b cB fl d ls n:=by
 obtain ⟨st,fs,e,as,L,h1,h2,h3,h4,h5⟩:=h
 exact ⟨st,fs,e,as,L,h1.same s,s _ _ h2,h3.same s,h4,h5⟩
theorem Sd.mono {Z:Adr}{K:JA}{H:Hp}{b cB fl d:Addr}{ls:List Cd}{n:Nat}(h:Sd Z K H b cB fl d ls n):Sd Z K H b cB fl d ls (n+1):=by
 obtain ⟨st,fs,e,as,L,h1,h2,h3,h4,h5⟩:=h
 exact ⟨st,fs,e,as,L,h1,h2,h3,by omega,h5⟩
theorem Sd.keep {Z:Adr}{K:JA}{H H':Hp}{b cB fl d q:Addr}{ls:List Cd}{n:Nat}{ys:List V}(h:Sd Z K H b cB fl d ls n)(k:aD q H H')(hq:H q=some (.lst ys))(n1:cB≠q)(n2:fl≠q)(n3:d≠q):Sd Z K H' b cB fl d ls n:=by
 obtain ⟨st,fs,e,as,L,h1,h2,h3,h4,h5⟩:=h
 exact ⟨st,fs,e,as,L,h1.off k hq n1 n2,k _ _ n3 h2,h3.keep k hq,h4,h5⟩
theorem Sd.keep2 {Z:Adr}{K:JA}{H H':Hp}{b cB fl d p q D dx:Addr}{ls:List Cd}{n:Nat}{ys:List V}{us:List (Str×V)}(h:Sd Z K H b cB fl d ls n)(k:bb p q H H')(hp:H p=some (.ins D dx us))(hq:H q=some (.lst ys))(n0:b≠p)(n1:cB≠q)(n2:fl≠q)(n3:d≠q):Sd Z K H' b cB fl d ls n:=by
 obtain ⟨st,fs,e,as,L,h1,h2,h3,h4,h5⟩:=h
 exact ⟨st,fs,e,as,L,lS h1 k hp hq n0 n1 n2,k _ _ (fun z=>by rw [z,hp] at h2;cases h2) n3 h2,h3.keep2 k hp hq,h4,h5⟩
theorem iC {H H1 H2:Hp}{p q:Addr}(s:au H H1)(k:bb p q H1 H2)(hp:H p=none)(hq:H q=none):au H H2:=fun b o e=>k b o (ah e hp) (ah e hq) (s b o e)
structure N14 (b0 b1 cB0 cB1 fl0 fl1 d0 d1 tw dd:Addr):Prop where
 b:b0≠b1
 f:fl0≠fl1
 c01:cB0≠fl1
 c10:cB1≠fl0
 d:d0≠d1
 fd00:fl0≠d0
 fd01:fl0≠d1
 fd10:fl1≠d0
 fd11:fl1≠d1
 cd00:cB0≠d0
 cd01:cB0≠d1
 cd10:cB1≠d0
 cd11:cB1≠d1
 tf0:tw≠fl0
 tf1:tw≠fl1
 td0:tw≠d0
 td1:tw≠d1
 df0:dd≠fl0
 df1:dd≠fl1
 dd0:dd≠d0
 dd1:dd≠d1
def vS (Z:Adr)(K:JA)(HB:Hp)(a plc phl tw dd b0 b1 cB0 cB1 fl0 fl1 d0 d1:Addr)(ls0 ls1:List Cd)(i:Nat)(σ:St)(H':Hp):Prop:=(∃t5 t6 t7 t8 t9 t10 t11 t12 t13,σ=[some (.ref a),some (.ref plc),some (.ref phl),some (.ref tw),some (.ref dd),t5,t6,t7,t8,t9,t10,t11,t12,t13])/\au HB H'/\H' tw=some (.lst [.ref b0,.ref b1])/\H' dd=some (.lst [.ref d0,.ref d1])/\Sd Z K H' b0 cB0 fl0 d0 ls0 i/\Sd Z K H' b1 cB1 fl1 d1 ls1 i
theorem lT {r:Rb}:¬nmB (some r)="":=by cases r<;>decide
theorem qB (e:Eng):∃v2,atI (esV (jy e)) 2=some v2/\(v2=.non\/∃r,v2=.int r)/\∀l r,e=.wait l r->v2=.int r:=by
 cases e with
 | no=>exact ⟨_,rfl,.inl rfl,fun _ _ z=>nomatch z⟩
 | wait l r=>exact ⟨_,rfl,.inr ⟨r,rfl⟩,fun l' r' z=>by cases z;rfl⟩
 | _=>exact ⟨_,rfl,.inr ⟨_,rfl⟩,fun _ _ z=>nomatch z⟩
theorem tI {v2:V}{s:Int}(h:v2=.non\/∃r,v2=.int r)(F:Bool->Prop)(k:F (decide (v2=.int s))):eqP v2 (.int s) F:=by
 rcases h with rfl | ⟨r,rfl⟩
 ·exact ⟨rfl,k⟩
 ·have:decide (V.int r=V.int s)=decide (r=s):=by simp
  rw [this] at k
  exact k
inductive jB (K:JA)(Z:Adr)(vs:List V)(H:Hp)(Q:VK)(E:XK):Prop | mk (a:Addr) (ns:List Int):vs=[.ref a]->SqL K H a (ns.map V.int)->ns.length<=63->(∀H',Q (.bl true) H')->jB K Z vs H Q E
include T eG mI ke bJ kh ix lP cb iB eM in
theorem uY:FF P w K mg base CX0 7 "law" "law" iu tE (jB K Z):=fk0 bT fun vs H Q E h=>by
 obtain ⟨a,ns,rfl,hS,hn,q⟩:=h
 k_all
 obtain ⟨t1,h1,k1⟩:∃t,PSs (iX CX0 P w K mg base ["_law_script","_law_all_codes","_law_handed","_law_two","_law_done","_law_k","_law_cell","_law_side","_law_deed_here","_law_word","_law_told","_law_due","_law_strokes","_law_at_here"] "law" (ao iu) zf zv zA zo zs H E).nox ((a8 iu).drop 7) t/\∀(plc phl tw dd b0 b1 cB0 cB1 fl0 fl1 d0 d1 c0 c1:Addr) (cs0 cs1:List Addr) (ls0 ls1:List Cd) (HB HM:Hp),au H HB->HB plc=some (.lst [.ref c0,.ref c1])->HB c0=some (.lst (cs0.map V.ref))->aK cdV K HB cs0 ls0->2<=ls0.length->ls0.length<=6->HB c1=some (.lst (cs1.map V.ref))->aK cdV K HB cs1 ls1->2<=ls1.length->ls1.length<=6->HB b0=none->HB fl0=none->HB d0=none->HB b1=none->HB fl1=none->HB d1=none->N14 b0 b1 cB0 cB1 fl0 fl1 d0 d1 tw dd->au HB HM->HM tw=some (.lst [.ref b0,.ref b1])->HM dd=some (.lst [.ref d0,.ref d1])->Sd Z K HM b0 cB0 fl0 d0 ls0 0->Sd Z K HM b1 cB1 fl1 d1 ls1 0->t ({nx:=fun _ H2=>Q .non H2,rt:=Q}:iD) [some (.ref a),some (.ref plc),some (.ref phl),some (.ref tw),some (.ref dd),none,none,none,none,none,none,none,none,none] HM:=by
  refine seg 1 (ai (aC (gL (dc0 eM hr.dn (pa3 (ak aq (pv' 3) af) (ak aq (pv' 1) af) (ak aq (pv' 4) af))) (km (dc0 eM hr.dn (pa3 (ak aq (pv' 3) af) (ak aq (pv' 1) af) (ak aq (pv' 4) af))))))) fun zt1 zh1 ze1=>?_
  refine ⟨_,ag (iT PassesOwn.never rfl (mB (by rfl) T.cJ (pa2 af (aE aH (by rfl) T.cS bR (pa1 (pv' 0))))) (bu (i:=5) bT.nd rfl orL) (ag (aO (i:=6) bT.nd rfl orL (dc0 ke hr.dn (pa2 (pv' 0) (pv' 5)))) (ag (aO (i:=7) bT.nd rfl orL (a9 (pv' 6) af)) (ag (aO (i:=8) bT.nd rfl orL (dc0 lP hr.dn (pa3 (ak aq (pv' 1) (pv' 7)) (ak aq (pv' 4) (pv' 7)) (cH (pv' 6) af)))) (ag (aO (i:=9) bT.nd rfl orL (dc0 ix hr.dn (pa3 (ak aq (pv' 1) (pv' 7)) (ak aq (pv' 4) (pv' 7)) (pv' 8)))) (ag (aO (i:=10) bT.nd rfl orL (dc0 iB hr.dn (pa2 (ak aq (pv' 3) (pv' 7)) (pv' 8)))) (ag (aO (i:=11) bT.nd rfl orL dQ) (ag (aT (bV (ak av (pv' 8) af) aw) (ag (aO (i:=12) bT.nd rfl orL (ak av (dc0 bJ hr.dn (pa1 (ak aq (pv' 4) (pv' 7)))) af)) (ai (aO (i:=11) bT.nd rfl orL (ba (pa3 (bE gp (pv' 12) (ak av (pv' 8) af) (bD _)) (pv' 12) (ak av (pv' 8) af)))))) (aB)) (ag (aT (bV (pv' 9) aw) (ai (bK (eT PySem.F.plainAttrs_list PySem.F.slot_list_append PySem.F.type_list_append bx (ak aq (pv' 4) (pv' 7)) (pa1 (pv' 8))))) (aB)) (ag (aT (dS (bz (dc0 cb hr.dn (pa2 (pv' 10) (ak aq (bg (pa2 (bg (pa2 cN (pv' 9))) (bg (pa2 cN (pv' 11))))) (bU cP (by rfl) T.jm gj (pa1 (bE gp (pv' 9) aw (bD _))))))))) (ai (aC cN)) (aB)) (ai (iT PassesOwn.never rfl (bS (by rfl) T.cJ (pa1 af)) (bu (i:=13) bT.nd rfl orL) (ai (aT (dS (bz (dc0 eM hr.dn (pa3 (ak aq (pv' 3) (pv' 13)) (ak aq (pv' 1) (pv' 13)) (ak aq (pv' 4) (pv' 13)))))) (ai (aC cN)) (aB))))))))))))))) zh1,?_⟩
  intro plc phl tw dd b0 b1 cB0 cB1 fl0 fl1 d0 d1 c0 c1 cs0 cs1 ls0 ls1 HB HM sHB elc ec0 hT0 l20 l60 ec1 hT1 l21 l61 fb0 ff0 fd0 fb1 ff1 fd1 hN sBM etw edd hS0 hS1
  have hSB:=sHB.seq hS
  k_mem
  refine ⟨_,.inl (sBM.seq hSB),⟨by decide,by decide,by rw [JB];omega,by rw [JB];omega⟩,?_⟩
  k_upd
  refine a6 (vS Z K HB a plc phl tw dd b0 b1 cB0 cB1 fl0 fl1 d0 d1 ls0 ls1) ⟨⟨_,_,_,_,_,_,_,_,_,rfl⟩,sBM,etw,edd,hS0,hS1⟩ ?_ ?_
  ·clear hS0 hS1 etw edd sBM
   rintro i σ H1 hi ⟨⟨t5,t6,t7,t8,t9,t10,t11,t12,t13,rfl⟩,s1,etw,edd,hS0,hS1⟩
   rw [JB] at hi
   k_mem
   refine ⟨a,ns,_,rfl,s1.seq hSB,by omega,by omega,fun c=>?_⟩
   k_mem
   have elc1:=s1 _ _ elc
   rcases (by omega:c % 2=0\/c % 2=1) with hs | hs<;>rw [hs]
   ·obtain ⟨st0,fs0,e0,as0,L0,hb0,hd0,hDB0,hL0,hM0⟩:=hS0
    k_upd
    refine ⟨_,SqL.of elc1,_,rfl,?_⟩
    k_mem
    refine ⟨_,SqL.of edd,_,rfl,?_⟩
    k_upd
    refine ⟨c0,d0,c / 2,ls0,fs0,e0,cs0,as0,L0,rfl,s1 _ _ ec0,aK.same s1 hT0,hd0,hDB0,by omega,hM0,by omega,by omega,fun dp d H2 s2 hdp ok=>?_⟩
    have s12:=s1.trans s2
    k_upd
    refine ⟨_,SqL.of (s12 _ _ elc),_,rfl,_,SqL.of (s2 _ _ edd),_,rfl,?_⟩
    k_upd
    refine ⟨c0,d0,dp,ls0,fs0,e0,cs0,as0,L0,d,rfl,s12 _ _ ec0,aK.same s12 hT0,s2 _ _ hd0,hDB0.same s2,by omega,hM0,hdp,ok,fun H3 s3=>?_⟩
    have s23:=s2.trans s3
    have hdp3:=s3 _ _ hdp
    have hb3:=hb0.same s23
    obtain ⟨dxb,hob⟩:=hb3.ob
    have hfl3:=hb3.of
    k_upd
    refine ⟨_,SqL.of (s23 _ _ etw),_,rfl,?_⟩
    k_upd
    refine ⟨b0,cB0,fl0,st0,dp,ls0,fs0,e0,d,rfl,hb3,SqT.of hdp3,ok,fun r _=>trivial,fun pt st' H4 fpt k4 ksame hB4 hDo=>?_⟩
    have etw3:=s23 _ _ etw
    have edd3:=s23 _ _ edd
    have hd3:=s23 _ _ hd0
    have etw4:=k4 _ _ (fun z=>by rw [z,hob] at etw3;cases etw3) hN.tf0 etw3
    have edd4:=k4 _ _ (fun z=>by rw [z,hob] at edd3;cases edd3) hN.df0 edd3
    have hd4:=k4 _ _ (fun z=>by rw [z,hob] at hd3;cases hd3) hN.fd00.symm hd3
    have hdp4:=k4 _ _ (fun z=>by rw [z,hob] at hdp3;cases hdp3) (fun z=>by rw [z,hfl3] at hdp3;cases hdp3) hdp3
    have hDB4:=(hDB0.same s23).keep2 k4 hob hfl3
    have hS4:=(hS1.same s23).keep2 k4 hob hfl3 hN.b.symm hN.c10 hN.f.symm hN.fd01.symm
    have s4:=iC (s1.trans s23) k4 fb0 ff0
    have ptd:pt≠d0:=fun z=>by rw [z,hd3] at fpt;cases fpt
    k_mem
    by_cases hrp:cW d=true
    ·obtain ⟨sv9,rfl⟩:∃sv9,d=.rept sv9:=by cases d<;>first | exact ⟨_,rfl⟩ | cases hrp
     k_upd
     refine ⟨_,SqT.of hdp4,_,ay (k:=0) rfl,?_⟩
     k_mem
     rw [if_pos rfl]
     k_mem
     refine ⟨_,SqL.of edd4,_,rfl,?_⟩
     k_upd
     refine ⟨d0,as0,L0,jy e0,rfl,hd4,hDB4.at,by omega,hM0.en,fun pe H5 s5 hpe=>?_⟩
     obtain ⟨v2,av2,hv2,hv2w⟩:=qB e0
     k_mem
     refine ⟨_,hpe,v2,av2,_,s5.tup (SqT.of hdp4),_,ay (k:=1) rfl,?_⟩
     k_mem
     refine tI hv2 _ ?_
     k_upd
     refine ⟨_,s5.tup (SqT.of hdp4),_,ay (k:=1) rfl,by decide,fun pd hpd=>?_⟩
     (generalize hE:upd H5 pd _=H6 at *;have s6:=bc hE hpd;have ed:=aJ hE;clear hE)
     have s46:=s5.trans s6
     cases er:bL ls0 fs0 e0 (.rept sv9) with
     | some r=>
      simp only [doE,doF,er] at hB4
      simp only [DoR,er] at hDo
      k_upd
      rw [if_neg lT]
      k_mem
      refine ⟨by decide,fun q1 hq1=>?_⟩
      (generalize hE:upd H6 q1 _=H7 at *;have s7:=bc hE hq1;have eq1:=aJ hE;clear hE)
      k_upd
      refine ⟨by decide,fun q2 hq2=>?_⟩
      (generalize hE:upd H7 q2 _=H8 at *;have s8:=bc hE hq2;have eq2:=aJ hE;clear hE)
      k_upd
      refine ⟨by decide,fun q3 hq3=>?_⟩
      (generalize hE:upd H8 q3 _=H9 at *;have s9:=bc hE hq3;have eq3:=aJ hE;clear hE)
      k_mem
      rw [decide_eq_false lT]
      k_upd
      refine ⟨_,SqL.of eq3,_,rfl,?_⟩
      have s69:=s7.trans (s8.trans s9)
      k_upd
      refine ⟨_,_,_,rfl,aZ (SqL.of ((s46.trans s69) _ _ hDo)) (.flat rfl) (.flat rfl),aZ (SqL.of ((s8.trans s9) _ _ eq1)) (.flat rfl) (.flat rfl),fun HN s10=>?_⟩
      have s4N:=(s46.trans s69).trans s10
      have sN:=s4.trans s4N
      have etwN:=s4N _ _ etw4
      have eddN:=s4N _ _ edd4
      have hSN0:Sd Z K HN b0 cB0 fl0 d0 ls0 (i+1):=⟨_,_,_,_,_,hB4.same s4N,s4N _ _ hd4,hDB4.same s4N,by omega,hM0⟩
      have hSN1:=(hS4.same s4N).mono
      k_mem
      refine ⟨by decide,by decide,?_⟩
      k_upd
      refine a6 (lo:=0) (n:=2) (fun _ σ H'=>(∃t5 t6 t7 t8 t9 t10 t11 t12 t13,σ=[some (.ref a),some (.ref plc),some (.ref phl),some (.ref tw),some (.ref dd),t5,t6,t7,t8,t9,t10,t11,t12,t13])/\au HN H') ⟨⟨_,_,_,_,_,_,_,_,_,rfl⟩,au.refl _⟩ ?_ ?_
      ·rintro j σ' HT hj ⟨⟨t5,t6,t7,t8,t9,t10,t11,t12,t13,rfl⟩,sT⟩
       have sNT:=sN.trans sT
       rcases (by omega:j=0\/j=1) with rfl | rfl
       ·obtain ⟨st,fs,e,as,L,hb,hd,hDB,hL,hM⟩:=hSN0.same sT
        k_mem
        refine ⟨_,SqL.of (sT _ _ etwN),_,rfl,_,SqL.of (sNT _ _ elc),_,rfl,_,SqL.of (sT _ _ eddN),_,rfl,?_⟩
        k_upd
        refine ⟨b0,c0,d0,cB0,fl0,st,ls0,fs,e,cs0,as,L,rfl,hb,sNT _ _ ec0,hT0.1,hd,hDB,by omega,by omega,hM,fun H2 s2=>?_⟩
        k_mem
        exact ⟨⟨_,_,_,_,_,_,_,_,_,rfl⟩,sT.trans s2⟩
       ·obtain ⟨st,fs,e,as,L,hb,hd,hDB,hL,hM⟩:=hSN1.same sT
        k_mem
        refine ⟨_,SqL.of (sT _ _ etwN),_,rfl,_,SqL.of (sNT _ _ elc),_,rfl,_,SqL.of (sT _ _ eddN),_,rfl,?_⟩
        k_upd
        refine ⟨b1,c1,d1,cB1,fl1,st,ls1,fs,e,cs1,as,L,rfl,hb,sNT _ _ ec1,hT1.1,hd,hDB,by omega,by omega,hM,fun H2 s2=>?_⟩
        k_mem
        exact ⟨⟨_,_,_,_,_,_,_,_,_,rfl⟩,sT.trans s2⟩
      ·rintro σ' HT ⟨⟨t5,t6,t7,t8,t9,t10,t11,t12,t13,rfl⟩,sT⟩
       k_mem
       exact ⟨⟨_,_,_,_,_,_,_,_,_,rfl⟩,sN.trans sT,sT _ _ etwN,sT _ _ eddN,hSN0.same sT,hSN1.same sT⟩
     | none=>
      simp only [doE,doF,er] at hB4
      simp only [DoR,er] at hDo
      obtain ⟨va,hDo,hAns⟩:=hDo
      k_upd
      rw [if_pos (show nmB none="" from rfl)]
      have hd6:=s46 _ _ hd4
      k_upd
      refine ⟨_,SqL.of (s46 _ _ edd4),_,rfl,.inl ⟨rfl,_,SqL.of hd6⟩,?_⟩
      k_mem
      refine ⟨_,hd6,cf (by rw [JB,hDB0.1];omega),?_⟩
      have k7:L2.aD d0 H6 (upd H6 d0 (HO.lst (as0.map V.ref++[V.ref dp]))):=(aD.of (au.refl H6)).put
      have hd7:upd H6 d0 (HO.lst (as0.map V.ref++[V.ref dp])) d0=some (HO.lst ((as0++[dp]).map V.ref)):=by rw [ae,List.map_append];rfl
      generalize upd H6 d0 (HO.lst (as0.map V.ref++[V.ref dp]))=H7 at *
      have sB7:=(s4.trans s46).keeps k7 fd0
      have etw7:=k7 _ _ hN.td0 (s46 _ _ etw4)
      have edd7:=k7 _ _ hN.dd0 (s46 _ _ edd4)
      have hdp6:=s46 _ _ hdp4
      have hDB7:dO H7 (as0++[dp]) (L0++[.rept sv9]):=((hDB4.same s46).keep k7 hd6).push (k7 _ _ (fun z=>by rw [z,hd6] at hdp6;cases hdp6) hdp6)
      have hB7:=(hB4.same s46).off k7 hd6 hN.cd00 hN.fd00
      have hS7:=(hS4.same s46).keep k7 hd6 hN.cd10 hN.fd10 hN.d.symm
      have hM7:=hM0.next hb0.ln er
      have pt6:=s46 _ _ hDo
      have pt7:=k7 _ _ (fun z=>ptd z) pt6
      obtain ⟨pa,l9,r9,rfl,rfl,hpa⟩:=hAns
      obtain rfl:=hv2w l9 r9 rfl
      have hpa7:SqT K H7 pa _:=SqT.keep k7 hd6 (s46.tup hpa)
      have hpd7:SqT K H7 pd _:=SqT.keep k7 hd6 (SqT.of ed)
      k_mem
      refine ⟨by decide,fun q1 hq1=>?_⟩
      (generalize hE:upd H7 q1 _=H8 at *;have s8:=bc hE hq1;have eq1:=aJ hE;clear hE)
      k_upd
      refine ⟨by decide,fun q2 hq2=>?_⟩
      (generalize hE:upd H8 q2 _=H9 at *;have s9:=bc hE hq2;have eq2:=aJ hE;clear hE)
      k_upd
      refine ⟨by decide,fun q3 hq3=>?_⟩
      (generalize hE:upd H9 q3 _=H10 at *;have s10:=bc hE hq3;have eq3:=aJ hE;clear hE)
      k_mem
      rw [decide_eq_true (show nmB none="" from rfl)]
      k_upd
      refine ⟨_,SqL.of eq3,_,rfl,?_⟩
      have s710:=s8.trans (s9.trans s10)
      have eb:decide (V.int r9=V.int sv9)=decide (sv9=r9):=by rw [Bool.eq_iff_iff];simp [eq_comm]
      rw [eb] at hpd7
      k_upd
      refine ⟨_,_,_,rfl,aZ (SqL.of (s710 _ _ pt7)) (.flat rfl) (cj (s710.tup hpa7) (by simp) (by simp [aQ])),aZ (SqL.of (s10 _ _ eq2)) (.flat rfl) (cj (s710.tup hpd7) (by simp) (by simp [aQ])),fun HN s11=>?_⟩
      have sN7:=s710.trans s11
      have sN:=sB7.trans sN7
      have etwN:=sN7 _ _ etw7
      have eddN:=sN7 _ _ edd7
      have hSN0:Sd Z K HN b0 cB0 fl0 d0 ls0 (i+1):=⟨_,_,_,_,_,hB7.same sN7,sN7 _ _ hd7,hDB7.same sN7,by rw [List.length_append,List.length_singleton];omega,hM7⟩
      have hSN1:=(hS7.same sN7).mono
      k_mem
      refine ⟨by decide,by decide,?_⟩
      k_upd
      refine a6 (lo:=0) (n:=2) (fun _ σ H'=>(∃t5 t6 t7 t8 t9 t10 t11 t12 t13,σ=[some (.ref a),some (.ref plc),some (.ref phl),some (.ref tw),some (.ref dd),t5,t6,t7,t8,t9,t10,t11,t12,t13])/\au HN H') ⟨⟨_,_,_,_,_,_,_,_,_,rfl⟩,au.refl _⟩ ?_ ?_
      ·rintro j σ' HT hj ⟨⟨t5,t6,t7,t8,t9,t10,t11,t12,t13,rfl⟩,sT⟩
       have sNT:=sN.trans sT
       rcases (by omega:j=0\/j=1) with rfl | rfl
       ·obtain ⟨st,fs,e,as,L,hb,hd,hDB,hL,hM⟩:=hSN0.same sT
        k_mem
        refine ⟨_,SqL.of (sT _ _ etwN),_,rfl,_,SqL.of (sNT _ _ elc),_,rfl,_,SqL.of (sT _ _ eddN),_,rfl,?_⟩
        k_upd
        refine ⟨b0,c0,d0,cB0,fl0,st,ls0,fs,e,cs0,as,L,rfl,hb,sNT _ _ ec0,hT0.1,hd,hDB,by omega,by omega,hM,fun H2 s2=>?_⟩
        k_mem
        exact ⟨⟨_,_,_,_,_,_,_,_,_,rfl⟩,sT.trans s2⟩
       ·obtain ⟨st,fs,e,as,L,hb,hd,hDB,hL,hM⟩:=hSN1.same sT
        k_mem
        refine ⟨_,SqL.of (sT _ _ etwN),_,rfl,_,SqL.of (sNT _ _ elc),_,rfl,_,SqL.of (sT _ _ eddN),_,rfl,?_⟩
        k_upd
        refine ⟨b1,c1,d1,cB1,fl1,st,ls1,fs,e,cs1,as,L,rfl,hb,sNT _ _ ec1,hT1.1,hd,hDB,by omega,by omega,hM,fun H2 s2=>?_⟩
        k_mem
        exact ⟨⟨_,_,_,_,_,_,_,_,_,rfl⟩,sT.trans s2⟩
      ·rintro σ' HT ⟨⟨t5,t6,t7,t8,t9,t10,t11,t12,t13,rfl⟩,sT⟩
       k_mem
       exact ⟨⟨_,_,_,_,_,_,_,_,_,rfl⟩,sN.trans sT,sT _ _ etwN,sT _ _ eddN,hSN0.same sT,hSN1.same sT⟩
    ·have hnr:¬cW d=true:=hrp
     obtain ⟨rr,ew⟩:=fA d
     have hne:¬gb d="repeat":=fun z=>hrp (by rw [ie];exact decide_eq_true z)
     k_upd
     refine ⟨_,SqT.of hdp4,.str (gb d),(by rw [ew];exact ay (k:=0) rfl),?_⟩
     k_mem
     rw [if_neg hne]
     cases er:bL ls0 fs0 e0 d with
     | some r=>
      simp only [doE,doF,er] at hB4
      simp only [DoR,er] at hDo
      k_upd
      rw [if_neg lT]
      k_mem
      refine ⟨by decide,fun q1 hq1=>?_⟩
      (generalize hE:upd H4 q1 _=H7 at *;have s7:=bc hE hq1;have eq1:=aJ hE;clear hE)
      k_upd
      refine ⟨by decide,fun q2 hq2=>?_⟩
      (generalize hE:upd H7 q2 _=H8 at *;have s8:=bc hE hq2;have eq2:=aJ hE;clear hE)
      k_upd
      refine ⟨by decide,fun q3 hq3=>?_⟩
      (generalize hE:upd H8 q3 _=H9 at *;have s9:=bc hE hq3;have eq3:=aJ hE;clear hE)
      k_mem
      rw [decide_eq_false lT]
      k_upd
      refine ⟨_,SqL.of eq3,_,rfl,?_⟩
      have s69:=s7.trans (s8.trans s9)
      k_upd
      refine ⟨_,_,_,rfl,aZ (SqL.of (((au.refl H4).trans s69) _ _ hDo)) (.flat rfl) (.flat rfl),aZ (SqL.of ((s8.trans s9) _ _ eq1)) (.flat rfl) (.flat rfl),fun HN s10=>?_⟩
      have s4N:=((au.refl H4).trans s69).trans s10
      have sN:=s4.trans s4N
      have etwN:=s4N _ _ etw4
      have eddN:=s4N _ _ edd4
      have hSN0:Sd Z K HN b0 cB0 fl0 d0 ls0 (i+1):=⟨_,_,_,_,_,hB4.same s4N,s4N _ _ hd4,hDB4.same s4N,by omega,hM0⟩
      have hSN1:=(hS4.same s4N).mono
      k_mem
      refine ⟨by decide,by decide,?_⟩
      k_upd
      refine a6 (lo:=0) (n:=2) (fun _ σ H'=>(∃t5 t6 t7 t8 t9 t10 t11 t12 t13,σ=[some (.ref a),some (.ref plc),some (.ref phl),some (.ref tw),some (.ref dd),t5,t6,t7,t8,t9,t10,t11,t12,t13])/\au HN H') ⟨⟨_,_,_,_,_,_,_,_,_,rfl⟩,au.refl _⟩ ?_ ?_
      ·rintro j σ' HT hj ⟨⟨t5,t6,t7,t8,t9,t10,t11,t12,t13,rfl⟩,sT⟩
       have sNT:=sN.trans sT
       rcases (by omega:j=0\/j=1) with rfl | rfl
       ·obtain ⟨st,fs,e,as,L,hb,hd,hDB,hL,hM⟩:=hSN0.same sT
        k_mem
        refine ⟨_,SqL.of (sT _ _ etwN),_,rfl,_,SqL.of (sNT _ _ elc),_,rfl,_,SqL.of (sT _ _ eddN),_,rfl,?_⟩
        k_upd
        refine ⟨b0,c0,d0,cB0,fl0,st,ls0,fs,e,cs0,as,L,rfl,hb,sNT _ _ ec0,hT0.1,hd,hDB,by omega,by omega,hM,fun H2 s2=>?_⟩
        k_mem
        exact ⟨⟨_,_,_,_,_,_,_,_,_,rfl⟩,sT.trans s2⟩
       ·obtain ⟨st,fs,e,as,L,hb,hd,hDB,hL,hM⟩:=hSN1.same sT
        k_mem
        refine ⟨_,SqL.of (sT _ _ etwN),_,rfl,_,SqL.of (sNT _ _ elc),_,rfl,_,SqL.of (sT _ _ eddN),_,rfl,?_⟩
        k_upd
        refine ⟨b1,c1,d1,cB1,fl1,st,ls1,fs,e,cs1,as,L,rfl,hb,sNT _ _ ec1,hT1.1,hd,hDB,by omega,by omega,hM,fun H2 s2=>?_⟩
        k_mem
        exact ⟨⟨_,_,_,_,_,_,_,_,_,rfl⟩,sT.trans s2⟩
      ·rintro σ' HT ⟨⟨t5,t6,t7,t8,t9,t10,t11,t12,t13,rfl⟩,sT⟩
       k_mem
       exact ⟨⟨_,_,_,_,_,_,_,_,_,rfl⟩,sN.trans sT,sT _ _ etwN,sT _ _ eddN,hSN0.same sT,hSN1.same sT⟩
     | none=>
      simp only [doE,doF,er] at hB4
      simp only [DoR,er] at hDo
      obtain ⟨va,hDo,hAns⟩:=hDo
      k_upd
      rw [if_pos (show nmB none="" from rfl)]
      have hd6:=(au.refl H4) _ _ hd4
      k_upd
      refine ⟨_,SqL.of ((au.refl H4) _ _ edd4),_,rfl,.inl ⟨rfl,_,SqL.of hd6⟩,?_⟩
      k_mem
      refine ⟨_,hd6,cf (by rw [JB,hDB0.1];omega),?_⟩
      have k7:L2.aD d0 H4 (upd H4 d0 (HO.lst (as0.map V.ref++[V.ref dp]))):=(aD.of (au.refl H4)).put
      have hd7:upd H4 d0 (HO.lst (as0.map V.ref++[V.ref dp])) d0=some (HO.lst ((as0++[dp]).map V.ref)):=by rw [ae,List.map_append];rfl
      generalize upd H4 d0 (HO.lst (as0.map V.ref++[V.ref dp]))=H7 at *
      have sB7:=(s4.trans (au.refl H4)).keeps k7 fd0
      have etw7:=k7 _ _ hN.td0 ((au.refl H4) _ _ etw4)
      have edd7:=k7 _ _ hN.dd0 ((au.refl H4) _ _ edd4)
      have hdp6:=(au.refl H4) _ _ hdp4
      have hDB7:dO H7 (as0++[dp]) (L0++[d]):=((hDB4.same (au.refl H4)).keep k7 hd6).push (k7 _ _ (fun z=>by rw [z,hd6] at hdp6;cases hdp6) hdp6)
      have hB7:=(hB4.same (au.refl H4)).off k7 hd6 hN.cd00 hN.fd00
      have hS7:=(hS4.same (au.refl H4)).keep k7 hd6 hN.cd10 hN.fd10 hN.d.symm
      have hM7:=hM0.next hb0.ln er
      have pt6:=(au.refl H4) _ _ hDo
      have pt7:=k7 _ _ (fun z=>ptd z) pt6
      obtain rfl:va=.non:=by cases d<;>first | exact hAns | exact absurd rfl hnr
      k_mem
      refine ⟨by decide,fun q1 hq1=>?_⟩
      (generalize hE:upd H7 q1 _=H8 at *;have s8:=bc hE hq1;have eq1:=aJ hE;clear hE)
      k_upd
      refine ⟨by decide,fun q2 hq2=>?_⟩
      (generalize hE:upd H8 q2 _=H9 at *;have s9:=bc hE hq2;have eq2:=aJ hE;clear hE)
      k_upd
      refine ⟨by decide,fun q3 hq3=>?_⟩
      (generalize hE:upd H9 q3 _=H10 at *;have s10:=bc hE hq3;have eq3:=aJ hE;clear hE)
      k_mem
      rw [decide_eq_true (show nmB none="" from rfl)]
      k_upd
      refine ⟨_,SqL.of eq3,_,rfl,?_⟩
      have s710:=s8.trans (s9.trans s10)
      k_upd
      refine ⟨_,_,_,rfl,aZ (SqL.of (s710 _ _ pt7)) (.flat rfl) (.flat rfl),aZ (SqL.of (s10 _ _ eq2)) (.flat rfl) (.flat rfl),fun HN s11=>?_⟩
      have sN7:=s710.trans s11
      have sN:=sB7.trans sN7
      have etwN:=sN7 _ _ etw7
      have eddN:=sN7 _ _ edd7
      have hSN0:Sd Z K HN b0 cB0 fl0 d0 ls0 (i+1):=⟨_,_,_,_,_,hB7.same sN7,sN7 _ _ hd7,hDB7.same sN7,by rw [List.length_append,List.length_singleton];omega,hM7⟩
      have hSN1:=(hS7.same sN7).mono
      k_mem
      refine ⟨by decide,by decide,?_⟩
      k_upd
      refine a6 (lo:=0) (n:=2) (fun _ σ H'=>(∃t5 t6 t7 t8 t9 t10 t11 t12 t13,σ=[some (.ref a),some (.ref plc),some (.ref phl),some (.ref tw),some (.ref dd),t5,t6,t7,t8,t9,t10,t11,t12,t13])/\au HN H') ⟨⟨_,_,_,_,_,_,_,_,_,rfl⟩,au.refl _⟩ ?_ ?_
      ·rintro j σ' HT hj ⟨⟨t5,t6,t7,t8,t9,t10,t11,t12,t13,rfl⟩,sT⟩
       have sNT:=sN.trans sT
       rcases (by omega:j=0\/j=1) with rfl | rfl
       ·obtain ⟨st,fs,e,as,L,hb,hd,hDB,hL,hM⟩:=hSN0.same sT
        k_mem
        refine ⟨_,SqL.of (sT _ _ etwN),_,rfl,_,SqL.of (sNT _ _ elc),_,rfl,_,SqL.of (sT _ _ eddN),_,rfl,?_⟩
        k_upd
        refine ⟨b0,c0,d0,cB0,fl0,st,ls0,fs,e,cs0,as,L,rfl,hb,sNT _ _ ec0,hT0.1,hd,hDB,by omega,by omega,hM,fun H2 s2=>?_⟩
        k_mem
        exact ⟨⟨_,_,_,_,_,_,_,_,_,rfl⟩,sT.trans s2⟩
       ·obtain ⟨st,fs,e,as,L,hb,hd,hDB,hL,hM⟩:=hSN1.same sT
        k_mem
        refine ⟨_,SqL.of (sT _ _ etwN),_,rfl,_,SqL.of (sNT _ _ elc),_,rfl,_,SqL.of (sT _ _ eddN),_,rfl,?_⟩
        k_upd
        refine ⟨b1,c1,d1,cB1,fl1,st,ls1,fs,e,cs1,as,L,rfl,hb,sNT _ _ ec1,hT1.1,hd,hDB,by omega,by omega,hM,fun H2 s2=>?_⟩
        k_mem
        exact ⟨⟨_,_,_,_,_,_,_,_,_,rfl⟩,sT.trans s2⟩
      ·rintro σ' HT ⟨⟨t5,t6,t7,t8,t9,t10,t11,t12,t13,rfl⟩,sT⟩
       k_mem
       exact ⟨⟨_,_,_,_,_,_,_,_,_,rfl⟩,sN.trans sT,sT _ _ etwN,sT _ _ eddN,hSN0.same sT,hSN1.same sT⟩
   ·obtain ⟨st1,fs1,e1,as1,L1,hb1,hd1,hDB1,hL1,hM1⟩:=hS1
    k_upd
    refine ⟨_,SqL.of elc1,_,rfl,?_⟩
    k_mem
    refine ⟨_,SqL.of edd,_,rfl,?_⟩
    k_upd
    refine ⟨c1,d1,c / 2,ls1,fs1,e1,cs1,as1,L1,rfl,s1 _ _ ec1,aK.same s1 hT1,hd1,hDB1,by omega,hM1,by omega,by omega,fun dp d H2 s2 hdp ok=>?_⟩
    have s12:=s1.trans s2
    k_upd
    refine ⟨_,SqL.of (s12 _ _ elc),_,rfl,_,SqL.of (s2 _ _ edd),_,rfl,?_⟩
    k_upd
    refine ⟨c1,d1,dp,ls1,fs1,e1,cs1,as1,L1,d,rfl,s12 _ _ ec1,aK.same s12 hT1,s2 _ _ hd1,hDB1.same s2,by omega,hM1,hdp,ok,fun H3 s3=>?_⟩
    have s23:=s2.trans s3
    have hdp3:=s3 _ _ hdp
    have hb3:=hb1.same s23
    obtain ⟨dxb,hob⟩:=hb3.ob
    have hfl3:=hb3.of
    k_upd
    refine ⟨_,SqL.of (s23 _ _ etw),_,rfl,?_⟩
    k_upd
    refine ⟨b1,cB1,fl1,st1,dp,ls1,fs1,e1,d,rfl,hb3,SqT.of hdp3,ok,fun r _=>trivial,fun pt st' H4 fpt k4 ksame hB4 hDo=>?_⟩
    have etw3:=s23 _ _ etw
    have edd3:=s23 _ _ edd
    have hd3:=s23 _ _ hd1
    have etw4:=k4 _ _ (fun z=>by rw [z,hob] at etw3;cases etw3) hN.tf1 etw3
    have edd4:=k4 _ _ (fun z=>by rw [z,hob] at edd3;cases edd3) hN.df1 edd3
    have hd4:=k4 _ _ (fun z=>by rw [z,hob] at hd3;cases hd3) hN.fd11.symm hd3
    have hdp4:=k4 _ _ (fun z=>by rw [z,hob] at hdp3;cases hdp3) (fun z=>by rw [z,hfl3] at hdp3;cases hdp3) hdp3
    have hDB4:=(hDB1.same s23).keep2 k4 hob hfl3
    have hS4:=(hS0.same s23).keep2 k4 hob hfl3 hN.b hN.c01 hN.f hN.fd10.symm
    have s4:=iC (s1.trans s23) k4 fb1 ff1
    have ptd:pt≠d1:=fun z=>by rw [z,hd3] at fpt;cases fpt
    k_mem
    by_cases hrp:cW d=true
    ·obtain ⟨sv9,rfl⟩:∃sv9,d=.rept sv9:=by cases d<;>first | exact ⟨_,rfl⟩ | cases hrp
     k_upd
     refine ⟨_,SqT.of hdp4,_,ay (k:=0) rfl,?_⟩
     k_mem
     rw [if_pos rfl]
     k_mem
     refine ⟨_,SqL.of edd4,_,rfl,?_⟩
     k_upd
     refine ⟨d1,as1,L1,jy e1,rfl,hd4,hDB4.at,by omega,hM1.en,fun pe H5 s5 hpe=>?_⟩
     obtain ⟨v2,av2,hv2,hv2w⟩:=qB e1
     k_mem
     refine ⟨_,hpe,v2,av2,_,s5.tup (SqT.of hdp4),_,ay (k:=1) rfl,?_⟩
     k_mem
     refine tI hv2 _ ?_
     k_upd
     refine ⟨_,s5.tup (SqT.of hdp4),_,ay (k:=1) rfl,by decide,fun pd hpd=>?_⟩
     (generalize hE:upd H5 pd _=H6 at *;have s6:=bc hE hpd;have ed:=aJ hE;clear hE)
     have s46:=s5.trans s6
     cases er:bL ls1 fs1 e1 (.rept sv9) with
     | some r=>
      simp only [doE,doF,er] at hB4
      simp only [DoR,er] at hDo
      k_upd
      rw [if_neg lT]
      k_mem
      refine ⟨by decide,fun q1 hq1=>?_⟩
      (generalize hE:upd H6 q1 _=H7 at *;have s7:=bc hE hq1;have eq1:=aJ hE;clear hE)
      k_upd
      refine ⟨by decide,fun q2 hq2=>?_⟩
      (generalize hE:upd H7 q2 _=H8 at *;have s8:=bc hE hq2;have eq2:=aJ hE;clear hE)
      k_upd
      refine ⟨by decide,fun q3 hq3=>?_⟩
      (generalize hE:upd H8 q3 _=H9 at *;have s9:=bc hE hq3;have eq3:=aJ hE;clear hE)
      k_mem
      rw [decide_eq_false lT]
      k_upd
      refine ⟨_,SqL.of eq3,_,rfl,?_⟩
      have s69:=s7.trans (s8.trans s9)
      k_upd
      refine ⟨_,_,_,rfl,aZ (SqL.of ((s46.trans s69) _ _ hDo)) (.flat rfl) (.flat rfl),aZ (SqL.of ((s8.trans s9) _ _ eq1)) (.flat rfl) (.flat rfl),fun HN s10=>?_⟩
      have s4N:=(s46.trans s69).trans s10
      have sN:=s4.trans s4N
      have etwN:=s4N _ _ etw4
      have eddN:=s4N _ _ edd4
      have hSN1:Sd Z K HN b1 cB1 fl1 d1 ls1 (i+1):=⟨_,_,_,_,_,hB4.same s4N,s4N _ _ hd4,hDB4.same s4N,by omega,hM1⟩
      have hSN0:=(hS4.same s4N).mono
      k_mem
      refine ⟨by decide,by decide,?_⟩
      k_upd
      refine a6 (lo:=0) (n:=2) (fun _ σ H'=>(∃t5 t6 t7 t8 t9 t10 t11 t12 t13,σ=[some (.ref a),some (.ref plc),some (.ref phl),some (.ref tw),some (.ref dd),t5,t6,t7,t8,t9,t10,t11,t12,t13])/\au HN H') ⟨⟨_,_,_,_,_,_,_,_,_,rfl⟩,au.refl _⟩ ?_ ?_
      ·rintro j σ' HT hj ⟨⟨t5,t6,t7,t8,t9,t10,t11,t12,t13,rfl⟩,sT⟩
       have sNT:=sN.trans sT
       rcases (by omega:j=0\/j=1) with rfl | rfl
       ·obtain ⟨st,fs,e,as,L,hb,hd,hDB,hL,hM⟩:=hSN0.same sT
        k_mem
        refine ⟨_,SqL.of (sT _ _ etwN),_,rfl,_,SqL.of (sNT _ _ elc),_,rfl,_,SqL.of (sT _ _ eddN),_,rfl,?_⟩
        k_upd
        refine ⟨b0,c0,d0,cB0,fl0,st,ls0,fs,e,cs0,as,L,rfl,hb,sNT _ _ ec0,hT0.1,hd,hDB,by omega,by omega,hM,fun H2 s2=>?_⟩
        k_mem
        exact ⟨⟨_,_,_,_,_,_,_,_,_,rfl⟩,sT.trans s2⟩
       ·obtain ⟨st,fs,e,as,L,hb,hd,hDB,hL,hM⟩:=hSN1.same sT
        k_mem
        refine ⟨_,SqL.of (sT _ _ etwN),_,rfl,_,SqL.of (sNT _ _ elc),_,rfl,_,SqL.of (sT _ _ eddN),_,rfl,?_⟩
        k_upd
        refine ⟨b1,c1,d1,cB1,fl1,st,ls1,fs,e,cs1,as,L,rfl,hb,sNT _ _ ec1,hT1.1,hd,hDB,by omega,by omega,hM,fun H2 s2=>?_⟩
        k_mem
        exact ⟨⟨_,_,_,_,_,_,_,_,_,rfl⟩,sT.trans s2⟩
      ·rintro σ' HT ⟨⟨t5,t6,t7,t8,t9,t10,t11,t12,t13,rfl⟩,sT⟩
       k_mem
       exact ⟨⟨_,_,_,_,_,_,_,_,_,rfl⟩,sN.trans sT,sT _ _ etwN,sT _ _ eddN,hSN0.same sT,hSN1.same sT⟩
     | none=>
      simp only [doE,doF,er] at hB4
      simp only [DoR,er] at hDo
      obtain ⟨va,hDo,hAns⟩:=hDo
      k_upd
      rw [if_pos (show nmB none="" from rfl)]
      have hd6:=s46 _ _ hd4
      k_upd
      refine ⟨_,SqL.of (s46 _ _ edd4),_,rfl,.inl ⟨rfl,_,SqL.of hd6⟩,?_⟩
      k_mem
      refine ⟨_,hd6,cf (by rw [JB,hDB1.1];omega),?_⟩
      have k7:L2.aD d1 H6 (upd H6 d1 (HO.lst (as1.map V.ref++[V.ref dp]))):=(aD.of (au.refl H6)).put
      have hd7:upd H6 d1 (HO.lst (as1.map V.ref++[V.ref dp])) d1=some (HO.lst ((as1++[dp]).map V.ref)):=by rw [ae,List.map_append];rfl
      generalize upd H6 d1 (HO.lst (as1.map V.ref++[V.ref dp]))=H7 at *
      have sB7:=(s4.trans s46).keeps k7 fd1
      have etw7:=k7 _ _ hN.td1 (s46 _ _ etw4)
      have edd7:=k7 _ _ hN.dd1 (s46 _ _ edd4)
      have hdp6:=s46 _ _ hdp4
      have hDB7:dO H7 (as1++[dp]) (L1++[.rept sv9]):=((hDB4.same s46).keep k7 hd6).push (k7 _ _ (fun z=>by rw [z,hd6] at hdp6;cases hdp6) hdp6)
      have hB7:=(hB4.same s46).off k7 hd6 hN.cd11 hN.fd11
      have hS7:=(hS4.same s46).keep k7 hd6 hN.cd01 hN.fd01 hN.d
      have hM7:=hM1.next hb1.ln er
      have pt6:=s46 _ _ hDo
      have pt7:=k7 _ _ (fun z=>ptd z) pt6
      obtain ⟨pa,l9,r9,rfl,rfl,hpa⟩:=hAns
      obtain rfl:=hv2w l9 r9 rfl
      have hpa7:SqT K H7 pa _:=SqT.keep k7 hd6 (s46.tup hpa)
      have hpd7:SqT K H7 pd _:=SqT.keep k7 hd6 (SqT.of ed)
      k_mem
      refine ⟨by decide,fun q1 hq1=>?_⟩
      (generalize hE:upd H7 q1 _=H8 at *;have s8:=bc hE hq1;have eq1:=aJ hE;clear hE)
      k_upd
      refine ⟨by decide,fun q2 hq2=>?_⟩
      (generalize hE:upd H8 q2 _=H9 at *;have s9:=bc hE hq2;have eq2:=aJ hE;clear hE)
      k_upd
      refine ⟨by decide,fun q3 hq3=>?_⟩
      (generalize hE:upd H9 q3 _=H10 at *;have s10:=bc hE hq3;have eq3:=aJ hE;clear hE)
      k_mem
      rw [decide_eq_true (show nmB none="" from rfl)]
      k_upd
      refine ⟨_,SqL.of eq3,_,rfl,?_⟩
      have s710:=s8.trans (s9.trans s10)
      have eb:decide (V.int r9=V.int sv9)=decide (sv9=r9):=by rw [Bool.eq_iff_iff];simp [eq_comm]
      rw [eb] at hpd7
      k_upd
      refine ⟨_,_,_,rfl,aZ (SqL.of (s710 _ _ pt7)) (.flat rfl) (cj (s710.tup hpa7) (by simp) (by simp [aQ])),aZ (SqL.of (s10 _ _ eq2)) (.flat rfl) (cj (s710.tup hpd7) (by simp) (by simp [aQ])),fun HN s11=>?_⟩
      have sN7:=s710.trans s11
      have sN:=sB7.trans sN7
      have etwN:=sN7 _ _ etw7
      have eddN:=sN7 _ _ edd7
      have hSN1:Sd Z K HN b1 cB1 fl1 d1 ls1 (i+1):=⟨_,_,_,_,_,hB7.same sN7,sN7 _ _ hd7,hDB7.same sN7,by rw [List.length_append,List.length_singleton];omega,hM7⟩
      have hSN0:=(hS7.same sN7).mono
      k_mem
      refine ⟨by decide,by decide,?_⟩
      k_upd
      refine a6 (lo:=0) (n:=2) (fun _ σ H'=>(∃t5 t6 t7 t8 t9 t10 t11 t12 t13,σ=[some (.ref a),some (.ref plc),some (.ref phl),some (.ref tw),some (.ref dd),t5,t6,t7,t8,t9,t10,t11,t12,t13])/\au HN H') ⟨⟨_,_,_,_,_,_,_,_,_,rfl⟩,au.refl _⟩ ?_ ?_
      ·rintro j σ' HT hj ⟨⟨t5,t6,t7,t8,t9,t10,t11,t12,t13,rfl⟩,sT⟩
       have sNT:=sN.trans sT
       rcases (by omega:j=0\/j=1) with rfl | rfl
       ·obtain ⟨st,fs,e,as,L,hb,hd,hDB,hL,hM⟩:=hSN0.same sT
        k_mem
        refine ⟨_,SqL.of (sT _ _ etwN),_,rfl,_,SqL.of (sNT _ _ elc),_,rfl,_,SqL.of (sT _ _ eddN),_,rfl,?_⟩
        k_upd
        refine ⟨b0,c0,d0,cB0,fl0,st,ls0,fs,e,cs0,as,L,rfl,hb,sNT _ _ ec0,hT0.1,hd,hDB,by omega,by omega,hM,fun H2 s2=>?_⟩
        k_mem
        exact ⟨⟨_,_,_,_,_,_,_,_,_,rfl⟩,sT.trans s2⟩
       ·obtain ⟨st,fs,e,as,L,hb,hd,hDB,hL,hM⟩:=hSN1.same sT
        k_mem
        refine ⟨_,SqL.of (sT _ _ etwN),_,rfl,_,SqL.of (sNT _ _ elc),_,rfl,_,SqL.of (sT _ _ eddN),_,rfl,?_⟩
        k_upd
        refine ⟨b1,c1,d1,cB1,fl1,st,ls1,fs,e,cs1,as,L,rfl,hb,sNT _ _ ec1,hT1.1,hd,hDB,by omega,by omega,hM,fun H2 s2=>?_⟩
        k_mem
        exact ⟨⟨_,_,_,_,_,_,_,_,_,rfl⟩,sT.trans s2⟩
      ·rintro σ' HT ⟨⟨t5,t6,t7,t8,t9,t10,t11,t12,t13,rfl⟩,sT⟩
       k_mem
       exact ⟨⟨_,_,_,_,_,_,_,_,_,rfl⟩,sN.trans sT,sT _ _ etwN,sT _ _ eddN,hSN0.same sT,hSN1.same sT⟩
    ·have hnr:¬cW d=true:=hrp
     obtain ⟨rr,ew⟩:=fA d
     have hne:¬gb d="repeat":=fun z=>hrp (by rw [ie];exact decide_eq_true z)
     k_upd
     refine ⟨_,SqT.of hdp4,.str (gb d),(by rw [ew];exact ay (k:=0) rfl),?_⟩
     k_mem
     rw [if_neg hne]
     cases er:bL ls1 fs1 e1 d with
     | some r=>
      simp only [doE,doF,er] at hB4
      simp only [DoR,er] at hDo
      k_upd
      rw [if_neg lT]
      k_mem
      refine ⟨by decide,fun q1 hq1=>?_⟩
      (generalize hE:upd H4 q1 _=H7 at *;have s7:=bc hE hq1;have eq1:=aJ hE;clear hE)
      k_upd
      refine ⟨by decide,fun q2 hq2=>?_⟩
      (generalize hE:upd H7 q2 _=H8 at *;have s8:=bc hE hq2;have eq2:=aJ hE;clear hE)
      k_upd
      refine ⟨by decide,fun q3 hq3=>?_⟩
      (generalize hE:upd H8 q3 _=H9 at *;have s9:=bc hE hq3;have eq3:=aJ hE;clear hE)
      k_mem
      rw [decide_eq_false lT]
      k_upd
      refine ⟨_,SqL.of eq3,_,rfl,?_⟩
      have s69:=s7.trans (s8.trans s9)
      k_upd
      refine ⟨_,_,_,rfl,aZ (SqL.of (((au.refl H4).trans s69) _ _ hDo)) (.flat rfl) (.flat rfl),aZ (SqL.of ((s8.trans s9) _ _ eq1)) (.flat rfl) (.flat rfl),fun HN s10=>?_⟩
      have s4N:=((au.refl H4).trans s69).trans s10
      have sN:=s4.trans s4N
      have etwN:=s4N _ _ etw4
      have eddN:=s4N _ _ edd4
      have hSN1:Sd Z K HN b1 cB1 fl1 d1 ls1 (i+1):=⟨_,_,_,_,_,hB4.same s4N,s4N _ _ hd4,hDB4.same s4N,by omega,hM1⟩
      have hSN0:=(hS4.same s4N).mono
      k_mem
      refine ⟨by decide,by decide,?_⟩
      k_upd
      refine a6 (lo:=0) (n:=2) (fun _ σ H'=>(∃t5 t6 t7 t8 t9 t10 t11 t12 t13,σ=[some (.ref a),some (.ref plc),some (.ref phl),some (.ref tw),some (.ref dd),t5,t6,t7,t8,t9,t10,t11,t12,t13])/\au HN H') ⟨⟨_,_,_,_,_,_,_,_,_,rfl⟩,au.refl _⟩ ?_ ?_
      ·rintro j σ' HT hj ⟨⟨t5,t6,t7,t8,t9,t10,t11,t12,t13,rfl⟩,sT⟩
       have sNT:=sN.trans sT
       rcases (by omega:j=0\/j=1) with rfl | rfl
       ·obtain ⟨st,fs,e,as,L,hb,hd,hDB,hL,hM⟩:=hSN0.same sT
        k_mem
        refine ⟨_,SqL.of (sT _ _ etwN),_,rfl,_,SqL.of (sNT _ _ elc),_,rfl,_,SqL.of (sT _ _ eddN),_,rfl,?_⟩
        k_upd
        refine ⟨b0,c0,d0,cB0,fl0,st,ls0,fs,e,cs0,as,L,rfl,hb,sNT _ _ ec0,hT0.1,hd,hDB,by omega,by omega,hM,fun H2 s2=>?_⟩
        k_mem
        exact ⟨⟨_,_,_,_,_,_,_,_,_,rfl⟩,sT.trans s2⟩
       ·obtain ⟨st,fs,e,as,L,hb,hd,hDB,hL,hM⟩:=hSN1.same sT
        k_mem
        refine ⟨_,SqL.of (sT _ _ etwN),_,rfl,_,SqL.of (sNT _ _ elc),_,rfl,_,SqL.of (sT _ _ eddN),_,rfl,?_⟩
        k_upd
        refine ⟨b1,c1,d1,cB1,fl1,st,ls1,fs,e,cs1,as,L,rfl,hb,sNT _ _ ec1,hT1.1,hd,hDB,by omega,by omega,hM,fun H2 s2=>?_⟩
        k_mem
        exact ⟨⟨_,_,_,_,_,_,_,_,_,rfl⟩,sT.trans s2⟩
      ·rintro σ' HT ⟨⟨t5,t6,t7,t8,t9,t10,t11,t12,t13,rfl⟩,sT⟩
       k_mem
       exact ⟨⟨_,_,_,_,_,_,_,_,_,rfl⟩,sN.trans sT,sT _ _ etwN,sT _ _ eddN,hSN0.same sT,hSN1.same sT⟩
     | none=>
      simp only [doE,doF,er] at hB4
      simp only [DoR,er] at hDo
      obtain ⟨va,hDo,hAns⟩:=hDo
      k_upd
      rw [if_pos (show nmB none="" from rfl)]
      have hd6:=(au.refl H4) _ _ hd4
      k_upd
      refine ⟨_,SqL.of ((au.refl H4) _ _ edd4),_,rfl,.inl ⟨rfl,_,SqL.of hd6⟩,?_⟩
      k_mem
      refine ⟨_,hd6,cf (by rw [JB,hDB1.1];omega),?_⟩
      have k7:L2.aD d1 H4 (upd H4 d1 (HO.lst (as1.map V.ref++[V.ref dp]))):=(aD.of (au.refl H4)).put
      have hd7:upd H4 d1 (HO.lst (as1.map V.ref++[V.ref dp])) d1=some (HO.lst ((as1++[dp]).map V.ref)):=by rw [ae,List.map_append];rfl
      generalize upd H4 d1 (HO.lst (as1.map V.ref++[V.ref dp]))=H7 at *
      have sB7:=(s4.trans (au.refl H4)).keeps k7 fd1
      have etw7:=k7 _ _ hN.td1 ((au.refl H4) _ _ etw4)
      have edd7:=k7 _ _ hN.dd1 ((au.refl H4) _ _ edd4)
      have hdp6:=(au.refl H4) _ _ hdp4
      have hDB7:dO H7 (as1++[dp]) (L1++[d]):=((hDB4.same (au.refl H4)).keep k7 hd6).push (k7 _ _ (fun z=>by rw [z,hd6] at hdp6;cases hdp6) hdp6)
      have hB7:=(hB4.same (au.refl H4)).off k7 hd6 hN.cd11 hN.fd11
      have hS7:=(hS4.same (au.refl H4)).keep k7 hd6 hN.cd01 hN.fd01 hN.d
      have hM7:=hM1.next hb1.ln er
      have pt6:=(au.refl H4) _ _ hDo
      have pt7:=k7 _ _ (fun z=>ptd z) pt6
      obtain rfl:va=.non:=by cases d<;>first | exact hAns | exact absurd rfl hnr
      k_mem
      refine ⟨by decide,fun q1 hq1=>?_⟩
      (generalize hE:upd H7 q1 _=H8 at *;have s8:=bc hE hq1;have eq1:=aJ hE;clear hE)
      k_upd
      refine ⟨by decide,fun q2 hq2=>?_⟩
      (generalize hE:upd H8 q2 _=H9 at *;have s9:=bc hE hq2;have eq2:=aJ hE;clear hE)
      k_upd
      refine ⟨by decide,fun q3 hq3=>?_⟩
      (generalize hE:upd H9 q3 _=H10 at *;have s10:=bc hE hq3;have eq3:=aJ hE;clear hE)
      k_mem
      rw [decide_eq_true (show nmB none="" from rfl)]
      k_upd
      refine ⟨_,SqL.of eq3,_,rfl,?_⟩
      have s710:=s8.trans (s9.trans s10)
      k_upd
      refine ⟨_,_,_,rfl,aZ (SqL.of (s710 _ _ pt7)) (.flat rfl) (.flat rfl),aZ (SqL.of (s10 _ _ eq2)) (.flat rfl) (.flat rfl),fun HN s11=>?_⟩
      have sN7:=s710.trans s11
      have sN:=sB7.trans sN7
      have etwN:=sN7 _ _ etw7
      have eddN:=sN7 _ _ edd7
      have hSN1:Sd Z K HN b1 cB1 fl1 d1 ls1 (i+1):=⟨_,_,_,_,_,hB7.same sN7,sN7 _ _ hd7,hDB7.same sN7,by rw [List.length_append,List.length_singleton];omega,hM7⟩
      have hSN0:=(hS7.same sN7).mono
      k_mem
      refine ⟨by decide,by decide,?_⟩
      k_upd
      refine a6 (lo:=0) (n:=2) (fun _ σ H'=>(∃t5 t6 t7 t8 t9 t10 t11 t12 t13,σ=[some (.ref a),some (.ref plc),some (.ref phl),some (.ref tw),some (.ref dd),t5,t6,t7,t8,t9,t10,t11,t12,t13])/\au HN H') ⟨⟨_,_,_,_,_,_,_,_,_,rfl⟩,au.refl _⟩ ?_ ?_
      ·rintro j σ' HT hj ⟨⟨t5,t6,t7,t8,t9,t10,t11,t12,t13,rfl⟩,sT⟩
       have sNT:=sN.trans sT
       rcases (by omega:j=0\/j=1) with rfl | rfl
       ·obtain ⟨st,fs,e,as,L,hb,hd,hDB,hL,hM⟩:=hSN0.same sT
        k_mem
        refine ⟨_,SqL.of (sT _ _ etwN),_,rfl,_,SqL.of (sNT _ _ elc),_,rfl,_,SqL.of (sT _ _ eddN),_,rfl,?_⟩
        k_upd
        refine ⟨b0,c0,d0,cB0,fl0,st,ls0,fs,e,cs0,as,L,rfl,hb,sNT _ _ ec0,hT0.1,hd,hDB,by omega,by omega,hM,fun H2 s2=>?_⟩
        k_mem
        exact ⟨⟨_,_,_,_,_,_,_,_,_,rfl⟩,sT.trans s2⟩
       ·obtain ⟨st,fs,e,as,L,hb,hd,hDB,hL,hM⟩:=hSN1.same sT
        k_mem
        refine ⟨_,SqL.of (sT _ _ etwN),_,rfl,_,SqL.of (sNT _ _ elc),_,rfl,_,SqL.of (sT _ _ eddN),_,rfl,?_⟩
        k_upd
        refine ⟨b1,c1,d1,cB1,fl1,st,ls1,fs,e,cs1,as,L,rfl,hb,sNT _ _ ec1,hT1.1,hd,hDB,by omega,by omega,hM,fun H2 s2=>?_⟩
        k_mem
        exact ⟨⟨_,_,_,_,_,_,_,_,_,rfl⟩,sT.trans s2⟩
      ·rintro σ' HT ⟨⟨t5,t6,t7,t8,t9,t10,t11,t12,t13,rfl⟩,sT⟩
       k_mem
       exact ⟨⟨_,_,_,_,_,_,_,_,_,rfl⟩,sN.trans sT,sT _ _ etwN,sT _ _ eddN,hSN0.same sT,hSN1.same sT⟩
  ·rintro σ H1 ⟨⟨t5,t6,t7,t8,t9,t10,t11,t12,t13,rfl⟩,s1,etw,edd,hS0,hS1⟩
   rw [JB] at hS0 hS1
   obtain ⟨st0,fs0,e0,as0,L0,hb0,hd0,hDB0,hL0,hM0⟩:=hS0
   obtain ⟨st1,fs1,e1,as1,L1,hb1,hd1,hDB1,hL1,hM1⟩:=hS1
   k_mem
   refine ⟨_,SqL.of etw,_,rfl,_,SqL.of (s1 _ _ elc),_,rfl,_,SqL.of edd,_,rfl,?_⟩
   k_upd
   refine ⟨b0,c0,d0,cB0,fl0,st0,ls0,fs0,e0,cs0,as0,L0,rfl,hb0,s1 _ _ ec0,hT0.1,hd0,hDB0,by omega,by omega,hM0,fun H2 s2=>?_⟩
   k_mem
   refine ⟨_,SqL.of (s2 _ _ etw),_,rfl,_,SqL.of ((s1.trans s2) _ _ elc),_,rfl,_,SqL.of (s2 _ _ edd),_,rfl,?_⟩
   k_upd
   exact ⟨b1,c1,d1,cB1,fl1,st1,ls1,fs1,e1,cs1,as1,L1,rfl,hb1.same s2,(s1.trans s2) _ _ ec1,hT1.1,s2 _ _ hd1,hDB1.same s2,by omega,by omega,hM1,fun H3 s3=>q _⟩
 refine seg 6 (ag (aO (i:=4) bT.nd rfl orL (bg (pa2 (bg gh) (bg gh)))) h1) fun zt6 zh6 ze6=>?_
 refine seg 5 (ag (bK (ug PySem.F.plainAttrs_list PySem.F.slot_list_pop PySem.F.type_list_pop rY (ak aq (pv' 2) af))) zh6) fun zt5 zh5 ze5=>?_
 refine seg 4 (ag (oU (ba (pa2 af af)) (oR (ak aq (pv' 2) af) af j7)) zh5) fun zt4 zh4 ze4=>?_
 refine seg 3 (ag (aT (dS (bz (dc0 cb hr.dn (pa2 (pv' 2) (pv' 1))))) (ai (aC cN)) (aB)) zh4) fun zt3 zh3 ze3=>?_
 refine seg 2 (ag (aO (i:=3) bT.nd rfl orL (bg (pa2 (dn eG hr.dn T.nJ jY (pa1 (ak aq (pv' 2) af))) (dn eG hr.dn T.nJ jY (pa1 (ak aq (pv' 2) af)))))) zh3) fun zt2 zh2 ze2=>?_
 refine seg 1 (ag (j3 ["_law_codes_here"] [none] (iy:=2) bT.nd rfl rfl (eY (pv' 1)) (fun _ _ _ _=>(bu (i:=0) (show (["_law_codes_here"]:List Str).Nodup by decide +kernel) rfl orL)) (fun _ _ _ _=>iL) (fun _ _ _ _=>(bU (show bW _ (.type "list") (gK K) from fU) (by rfl) T.jl gF (pa1 (pv' 0))))) zh2) fun zt1 zh1 ze1=>?_
 refine ⟨_,ag (j3 ["_law_k","_law_script"] [none,some 0] (iy:=1) bT.nd rfl rfl (eY (bg (pa2 af af))) (fun _ _ _ _=>(bu (i:=0) (show (["_law_k","_law_script"]:List Str).Nodup by decide +kernel) rfl orL)) (fun _ _ _ _=>iL) (fun _ _ _ _=>(dc0 kh hr.dn (pa2 (dc0 mI hr.dn (pa2 (pv' 1) (pv' 0))) (bj bM af (a9 (cH (dc0 mI hr.dn (pa2 (pv' 1) (pv' 0))) af) af)))))) zh1,?_⟩
 k_mem
 refine ⟨by decide,fun pk hpk=>?_⟩
 (generalize hE:upd H pk _=HA at *;have sA:=bc hE hpk;have eA:=aJ hE;clear hE)
 k_upd
 refine ⟨⟨_,SqL.of eA⟩,?_⟩
 refine nM (fun v H'=>∃c0 cs0 ls0,v=.ref c0/\au HA H'/\H' c0=some (.lst (cs0.map V.ref))/\aK cdV K H' cs0 ls0/\2<=ls0.length/\ls0.length<=6/\∀x∈ls0,i6 x) (fun v v' H'=>∃c0 cs0 ls0 c1 cs1 ls1,v=.ref c0/\v'=.ref c1/\au HA H'/\H' c0=some (.lst (cs0.map V.ref))/\aK cdV K H' cs0 ls0/\2<=ls0.length/\ls0.length<=6/\(∀x∈ls0,i6 x)/\H' c1=some (.lst (cs1.map V.ref))/\aK cdV K H' cs1 ls1/\2<=ls1.length/\ls1.length<=6/\(∀x∈ls1,i6 x)) rfl (SqL.of eA) (fun v H1 h=>?_) (fun v v' H1 h=>?_) (fun N hN=>?_) (fun v H1 h N hN=>?_) fun v v' H1 h plc hplc=>?_
 ·obtain ⟨_,_,_,_,s,_⟩:=h
  exact SqL.of (s _ _ eA)
 ·obtain ⟨_,_,_,_,_,_,_,_,s,_⟩:=h
  exact SqL.of (s _ _ eA)
 ·k_mem
  k_upd
  refine ⟨a,ns,1,rfl,sA.seq hS,by decide,a,ns,1,rfl,sA.seq hS,by decide,?_⟩
  k_mem
  refine ⟨_,_,rfl,by omega,by omega,fun l as ls H' fl sl el hT hlen hg=>?_⟩
  exact hN _ _ ⟨l,as,ls,rfl,sl,el,hT,by omega,by omega,hg⟩
 ·obtain ⟨c0,cs0,ls0,rfl,s1,e0,hT0,l2,l6,g0⟩:=h
  k_mem
  refine ⟨a,ns,2,rfl,s1.seq (sA.seq hS),by decide,a,ns,2,rfl,s1.seq (sA.seq hS),by decide,?_⟩
  k_mem
  refine ⟨_,_,rfl,by omega,by omega,fun l as ls H' fl sl el hT hlen hg=>?_⟩
  exact hN _ _ ⟨c0,cs0,ls0,l,as,ls,rfl,rfl,s1.trans sl,sl _ _ e0,aK.same sl hT0,l2,l6,g0,el,hT,by omega,by omega,hg⟩
 ·obtain ⟨c0,cs0,ls0,c1,cs1,ls1,rfl,rfl,s1,ec0,hT0,l20,l60,g0,ec1,hT1,l21,l61,g1⟩:=h
  (generalize hE:upd H1 plc _=HB at *;have sB:=bc hE hplc;have elc:=aJ hE;clear hE)
  have ec0B:=sB _ _ ec0
  have ec1B:=sB _ _ ec1
  have hT0B:=aK.same sB hT0
  have hT1B:=aK.same sB hT1
  have sAB:=sA.trans (s1.trans sB)
  k_mem
  refine ⟨⟨_,SqL.of elc⟩,?_⟩
  refine nM (fun v H'=>∃h0,v=.ref h0/\au HB H'/\HB h0=none/\H' h0=some (.lst (cs0.map V.ref))) (fun v v' H'=>∃h0 h1,v=.ref h0/\v'=.ref h1/\au HB H'/\HB h0=none/\HB h1=none/\h0≠h1/\H' h0=some (.lst (cs0.map V.ref))/\H' h1=some (.lst (cs1.map V.ref))) rfl (SqL.of elc) (fun v H1 h=>?_) (fun v v' H1 h=>?_) (fun N hN=>?_) (fun v H1 h N hN=>?_) fun v v' H1 h phl hphl=>?_
  ·obtain ⟨_,_,s,_⟩:=h
   exact SqL.of (s _ _ elc)
  ·obtain ⟨_,_,_,_,s,_⟩:=h
   exact SqL.of (s _ _ elc)
  ·k_mem
   k_upd
   refine ⟨_,.inl (SqL.of ec0B),fun l hl=>hN _ _ ⟨l,rfl,(au.refl HB).lay hl,hl,ae⟩⟩
  ·obtain ⟨h0,rfl,sh,fh0,eh0⟩:=h
   k_mem
   refine ⟨_,.inl (SqL.of (sh _ _ ec1B)),fun l hl=>hN _ _ ⟨h0,l,rfl,rfl,sh.lay hl,fh0,sh.free hl,ah eh0 hl,upo eh0 hl,ae⟩⟩
  ·obtain ⟨h0,h1,rfl,rfl,sh,fh0,fh1,nh,eh0,eh1⟩:=h
   (generalize hE:upd H1 phl _=HC at *;have sC:=bc hE hphl;have ehl:=aJ hE;clear hE)
   have shC:=sh.trans sC
   have eh0C:=sC _ _ eh0
   have eh1C:=sC _ _ eh1
   have sBC:=shC
   k_mem
   refine ⟨_,SqL.of (ehl),_,rfl,fun b0 dx0 hb0 hdx0 nb0=>?_⟩
   have sx0:=((au.refl HC).lay (o:=HO.own b0) hdx0).lay (o:=HO.ins Z.aP dx0 []) (show upd HC dx0 (.own b0) b0=none by rw [aj (Ne.symm nb0)];exact hb0)
   k_upd
   refine ⟨b0,dx0,h0,ls0,rfl,ae,⟨cs0,sx0.seq (SqL.of eh0C),aK.same sx0 (aK.same sBC hT0B)⟩,by omega,fun cB0 fl0 st0 HD fcB0 ffl0 kx0 hBe0=>⟨rfl,?_⟩⟩
   have sCD:=ly hb0 hdx0 kx0
   have gcB0:HC cB0=none:=gJ fcB0
   have gfl0:HC fl0=none:=gJ ffl0
   clear kx0 fcB0 ffl0 sx0
   k_mem
   have eh1D:=sCD _ _ eh1C
   have sBD:=shC.trans sCD
   k_upd
   refine ⟨_,SqL.of (sCD _ _ ehl),_,rfl,fun b1 dx1 hb1 hdx1 nb1=>?_⟩
   have sx1:=((au.refl HD).lay (o:=HO.own b1) hdx1).lay (o:=HO.ins Z.aP dx1 []) (show upd HD dx1 (.own b1) b1=none by rw [aj (Ne.symm nb1)];exact hb1)
   k_upd
   refine ⟨b1,dx1,h1,ls1,rfl,ae,⟨cs1,sx1.seq (SqL.of eh1D),aK.same sx1 (aK.same sBD hT1B)⟩,by omega,fun cB1 fl1 st1 HE fcB1 ffl1 kx1 hBe1=>⟨rfl,?_⟩⟩
   have sDE:=ly hb1 hdx1 kx1
   have gcB1:HD cB1=none:=gJ fcB1
   have gfl1:HD fl1=none:=gJ ffl1
   clear kx1 fcB1 ffl1 sx1
   k_mem
   refine ⟨by decide,fun tw htw=>?_⟩
   (generalize hE:upd HE tw _=HF at *;have sF:=bc hE htw;have etw:=aJ hE;clear hE)
   have sCE:=sCD.trans sDE
   have sCF:=sCE.trans sF
   have sBF:=shC.trans sCF
   k_mem
   refine ⟨_,_,_,rfl,aZ (SqL.of (sCF _ _ ehl)) (gG ⟨cs0,SqL.of (sCF _ _ eh0C),aK.same sBF hT0B⟩ (by omega) fun x _=>kF x) (gG ⟨cs1,SqL.of (sCF _ _ eh1C),aK.same sBF hT1B⟩ (by omega) fun x _=>kF x),aZ (SqL.of (sBF _ _ elc)) (gG ⟨cs0,SqL.of (sBF _ _ ec0B),aK.same sBF hT0B⟩ (by omega) fun x _=>kF x) (gG ⟨cs1,SqL.of (sBF _ _ ec1B),aK.same sBF hT1B⟩ (by omega) fun x _=>kF x),fun HG sG=>?_⟩
   k_mem
   refine ⟨by decide,fun pt hpt=>?_⟩
   (generalize hE:upd HG pt _=HH at *;have sH:=bc hE hpt;have eH:=aJ hE;clear hE)
   have sFH:=sG.trans sH
   have sCH:=sCF.trans sFH
   k_upd
   refine ⟨_,SqL.of (sCH _ _ ehl),_,rfl,?_⟩
   k_mem
   have eh0H:=sCH _ _ eh0C
   k_upd
   refine ⟨_,eh0H,_,pN (Int.le_refl 0) (by rw [JB,hT0.1];omega),?_⟩
   have kI:L2.aD h0 HH (upd HH h0 (HO.lst ((cs0.map V.ref).set (Int.toNat 0) (V.ref pt)))):=(aD.of (au.refl HH)).put
   have eh0I:upd HH h0 (HO.lst ((cs0.map V.ref).set (Int.toNat 0) (V.ref pt))) h0=some (HO.lst ((cs0.map V.ref).set (Int.toNat 0) (V.ref pt))):=ae
   generalize upd HH h0 (HO.lst ((cs0.map V.ref).set (Int.toNat 0) (V.ref pt)))=HI at *
   have sBI:=(sBF.trans sFH).keeps kI fh0
   have nBI:∀z o,HB z=none->z≠h0->HH z=some o->HI z=some o:=fun z o _ n e=>kI z o n e
   k_mem
   have ehlI:HI phl=some (HO.lst [V.ref h0,V.ref h1]):=kI _ _ (ah eh0 hphl).symm (sCH _ _ ehl)
   have eh1I:=kI _ _ nh.symm (sCH _ _ eh1C)
   k_upd
   refine ⟨_,SqL.of ehlI,_,rfl,?_⟩
   k_mem
   obtain ⟨cl1,hcl1⟩:∃x,(cs1.map V.ref)[(cs1.map V.ref).length - 1]?=some x:=⟨_,List.getElem?_eq_getElem (by rw [JB,hT1.1];omega)⟩
   k_upd
   refine ⟨.inl ⟨rfl,_,SqL.of eh1I⟩,_,eh1I,_,hcl1,?_⟩
   have kJ:L2.aD h1 HI (upd HI h1 (HO.lst (cs1.map V.ref).dropLast)):=(aD.of (au.refl HI)).put
   generalize upd HI h1 (HO.lst (cs1.map V.ref).dropLast)=HJ at *
   have sBJ:=sBI.keeps kJ fh1
   have hbx0:=(hBe0.same (sDE.trans (sF.trans sFH)))
   have hbx1:=(hBe1.same (sF.trans sFH))
   have hb0J:=(hbx0.off kI eh0H (ah eh0C gcB0).symm (ah eh0C gfl0).symm).off kJ eh1I (ah eh1C gcB0).symm (ah eh1C gfl0).symm
   have hb1J:=(hbx1.off kI eh0H (ah (sCD _ _ eh0C) gcB1).symm (ah (sCD _ _ eh0C) gfl1).symm).off kJ eh1I (ah eh1D gcB1).symm (ah eh1D gfl1).symm
   have etwJ:HJ tw=some (HO.lst [V.ref b0,V.ref b1]):=kJ _ _ (ah (sCE _ _ eh1C) htw).symm (kI _ _ (ah (sCE _ _ eh0C) htw).symm (sFH _ _ etw))
   k_mem
   refine ⟨by decide,fun d0 hd0=>?_⟩
   (generalize hE:upd HJ d0 _=HK at *;have sK:=bc hE hd0;have ed0:=aJ hE;clear hE)
   k_upd
   refine ⟨by decide,fun d1 hd1=>?_⟩
   (generalize hE:upd HK d1 _=HL at *;have sL:=bc hE hd1;have ed1:=aJ hE;clear hE)
   k_upd
   refine ⟨by decide,fun dd hdd=>?_⟩
   (generalize hE:upd HL dd _=HM at *;have sM:=bc hE hdd;have edd:=aJ hE;clear hE)
   have sJM:=sK.trans (sL.trans sM)
   have sBM:=sBJ.trans sJM
   have hN:N14 b0 b1 cB0 cB1 fl0 fl1 d0 d1 tw dd:=by
    obtain ⟨_,o0⟩:=hBe0.ob
    obtain ⟨_,oc0,_⟩:=hBe0.oc
    obtain ⟨_,oc1,_⟩:=hb1J.oc
    obtain ⟨_,oc0J,_⟩:=hb0J.oc
    k_upd
    exact ⟨ah o0 hb1,ah hBe0.of gfl1,ah oc0 gfl1,(ah hBe0.of gcB1).symm,ah ed0 hd1,ah hb0J.of hd0,ah (sK _ _ hb0J.of) hd1,ah hb1J.of hd0,ah (sK _ _ hb1J.of) hd1,ah oc0J hd0,ah (sK _ _ oc0J) hd1,ah oc1 hd0,ah (sK _ _ oc1) hd1,(ah (sDE _ _ hBe0.of) htw).symm,(ah hBe1.of htw).symm,ah etwJ hd0,ah (sK _ _ etwJ) hd1,(ah ((sK.trans sL) _ _ hb0J.of) hdd).symm,(ah ((sK.trans sL) _ _ hb1J.of) hdd).symm,(ah (sL _ _ ed0) hdd).symm,(ah ed1 hdd).symm⟩
   have hS0:Sd Z K HM b0 cB0 fl0 d0 ls0 0:=⟨_,_,_,[],[],hb0J.same sJM,(sL.trans sM) _ _ ed0,eQ.nil,Nat.le_refl _,M14.zero fun i=>kg ls0 i⟩
   have hS1:Sd Z K HM b1 cB1 fl1 d1 ls1 0:=⟨_,_,_,[],[],hb1J.same sJM,sM _ _ ed1,eQ.nil,Nat.le_refl _,M14.zero fun i=>kg ls1 i⟩
   exact k1 plc phl tw dd b0 b1 cB0 cB1 fl0 fl1 d0 d1 c0 c1 cs0 cs1 ls0 ls1 HB HM sAB elc ec0B hT0B l20 l60 ec1B hT1B l21 l61 (shC.free hb0) (shC.free gfl0) (sBJ.free hd0) (sBD.free hb1) (sBD.free gfl1) ((sBJ.trans sK).free hd1) hN sBM (sJM _ _ etwJ) edd hS0 hS1
end
theorem uZ {l:W.OpenLaw}{w:World}{K:JA}{h:Heap}{mg:Str->Option Value}{fa:Addr}(X:K.In h)(G:h.Ns mainGlobals mg)(hfa:mg "law"=some (.ref fa)){C0 C1 C2 C3 C4 C5 C6 C7:Addr}{ta_KINDS:Addr}{tk_KINDS_0 tk_KINDS_1:Tok}{tn_KINDS:Nat}{ts_KINDS:Array (Option Value)}(fx:tG K C0 C1 C2 C3 C4 C5 C6 C7 ta_KINDS tk_KINDS_0 tk_KINDS_1 tn_KINDS ts_KINDS)
 : ∃Z:Adr,∃fd:FuncData,(∀(s:Shared) (v:Value),BindsTo s fd ⟨[v],[]⟩ [("_law_script",v)])/\∀base:Heap,K.In base->base.Ns mainGlobals mg->c5 l.prog w K mg base CX0 7 fa fd ["_law_script"] (jB K Z):=by
 obtain ⟨z_list,z_len,z_enumerate,z_range,z_isinstance,z_tuple,z_int,z_str,z_bool,m0,m1,m2,m3,m4,m5,m6,m7,n_FEWEST_STROKES,n_MOST_STROKES,n_KINDS,lt_KINDS,cl7,na7_codes,na7_failed,na7_state,l0,x0,x1,x2,x3,x4,x5,e0_CageError,k0_UnknownLevel,k0_DeadBell,k0_NoCode,k0_NothingRung,k0_NoChange,k0_NotArmed,e1_CageError,k1_UnknownLevel,k1_DeadBell,k1_NoCode,k1_NothingRung,k1_NoChange,k1_NotArmed,e2_CageError,k2_UnknownLevel,k2_DeadBell,k2_NoCode,k2_NothingRung,k2_NoChange,k2_NotArmed,e3_CageError,k3_UnknownLevel,k3_DeadBell,k3_NoCode,k3_NothingRung,k3_NoChange,k3_NotArmed,e4_CageError,k4_UnknownLevel,k4_DeadBell,k4_NoCode,k4_NothingRung,k4_NoChange,k4_NotArmed,e5_CageError,k5_UnknownLevel,k5_DeadBell,k5_NoCode,k5_NothingRung,k5_NoChange,k5_NotArmed,d0,d1,d2,d3,d4,d5,d6,d7,d8,d9,d10,d11,d12,d13,d14,d15,d16,d17,d18,d19,d20,d21⟩:=fx
 obtain ⟨f0,_,b0,F0⟩:=d0
 obtain ⟨f1,_,b1,F1⟩:=d1
 obtain ⟨f2,_,b2,F2⟩:=d2
 obtain ⟨f3,_,b3,F3⟩:=d3
 obtain ⟨f4,_,b4,F4⟩:=d4
 obtain ⟨f5,_,b5,F5⟩:=d5
 obtain ⟨f6,_,b6,F6⟩:=d6
 obtain ⟨f7,_,b7,F7⟩:=d7
 obtain ⟨f8,_,b8,F8⟩:=d8
 obtain ⟨f9,_,b9,F9⟩:=d9
 obtain ⟨f10,_,b10,F10⟩:=d10
 obtain ⟨f11,_,b11,F11⟩:=d11
 obtain ⟨f12,_,b12,F12⟩:=d12
 obtain ⟨f13,_,b13,F13⟩:=d13
 obtain ⟨f14,_,b14,F14⟩:=d14
 obtain ⟨f15,_,b15,F15⟩:=d15
 obtain ⟨f16,_,b16,F16⟩:=d16
 obtain ⟨f17,_,b17,F17⟩:=d17
 obtain ⟨f18,_,b18,F18⟩:=d18
 obtain ⟨f19,_,b19,F19⟩:=d19
 obtain ⟨f20,_,b20,F20⟩:=d20
 obtain ⟨f21,_,b21,F21⟩:=d21
 have e:=hfa.symm.trans (W.mg_of X G b21)
 cases e
 obtain ⟨oc,od,kV,dc,pm,an,cd,ct,sl,rfl,ll,cc⟩:=F21.ex
 let Z:Adr:=⟨C0,C1,C2,C3,C4,C5,C6,C7,ta_KINDS⟩
 refine ⟨Z,W.fnOf "law" "law" (bw iu) (a8 iu) (ao iu) .none kV dc pm an cd ct,fun s v=>.of_eq rfl,fun base _ _=>?_⟩
 have T:Txt l.prog w K mg base Z:=⟨W.mg_none_of X G z_list,W.mg_none_of X G z_len,W.mg_none_of X G z_enumerate,W.mg_none_of X G z_range,W.mg_none_of X G z_isinstance,W.mg_none_of X G z_tuple,W.mg_none_of X G z_int,W.mg_none_of X G z_str,W.mg_none_of X G z_bool,KI.txt X G n_FEWEST_STROKES,KI.txt X G n_MOST_STROKES,⟨_,W.mg_of X G n_KINDS,rfl⟩,fun H=>.inr ⟨_,_,_,lt_KINDS,rfl,rfl,(by show 2<=sizeLine;decide),.cons ⟨_,rfl⟩ (.cons ⟨_,rfl⟩ .nil)⟩,⟨_,lt_KINDS,rfl,rfl⟩,W.mg_of X G m0,W.mg_of X G m1,W.mg_of X G m2,W.mg_of X G m3,W.mg_of X G m4,W.mg_of X G m5,W.mg_of X G m6,W.mg_of X G m7,cl7,na7_codes,na7_failed,na7_state,(x0 l0).ex,x0 l0,e0_CageError,k0_UnknownLevel,k0_DeadBell,k0_NoCode,k0_NothingRung,k0_NoChange,k0_NotArmed,(x1 l0).ex,x1 l0,e1_CageError,k1_UnknownLevel,k1_DeadBell,k1_NoCode,k1_NothingRung,k1_NoChange,k1_NotArmed,(x2 l0).ex,x2 l0,e2_CageError,k2_UnknownLevel,k2_DeadBell,k2_NoCode,k2_NothingRung,k2_NoChange,k2_NotArmed,(x3 l0).ex,x3 l0,e3_CageError,k3_UnknownLevel,k3_DeadBell,k3_NoCode,k3_NothingRung,k3_NoChange,k3_NotArmed,(x4 l0).ex,x4 l0,e4_CageError,k4_UnknownLevel,k4_DeadBell,k4_NoCode,k4_NothingRung,k4_NoChange,k4_NotArmed,(x5 l0).ex,x5 l0,e5_CageError,k5_UnknownLevel,k5_DeadBell,k5_NoCode,k5_NothingRung,k5_NoChange,k5_NotArmed⟩
 have D0:=KD.mk (W.mg_of X G b0) F0 F0.b2 (lK T)
 have D2:=KD.mk (W.mg_of X G b2) F2 F2.b1 (jv T)
 have D3:=KN.mk b3 F3 F3.b2 (jN T)
 have D6:=KM.mk cl7 b6 F6 F6.b1 (iI T)
 have D8:=KM.mk cl7 b8 F8 F8.b1 (jO T)
 have D10:=KD.mk (W.mg_of X G b10) F10 F10.b2 (se T)
 have D11:=KD.mk (W.mg_of X G b11) F11 F11.b3 (oB T)
 have D12:=KD.mk (W.mg_of X G b12) F12 F12.b2 (mJ T)
 have D17:=KD.mk (W.mg_of X G b17) F17 F17.b1 (lO T)
 have D1:=KD.mk (W.mg_of X G b1) F1 F1.b2 (jz T D0)
 have D5:=KM.mk cl7 b5 F5 F5.b2 (iJ T D2)
 have D14:=KD.mk (W.mg_of X G b14) F14 F14.b2 (mK T D11)
 have D18:=KD.mk (W.mg_of X G b18) F18 F18.b3 (kT T D17)
 have D19:=KD.mk (W.mg_of X G b19) F19 F19.b3 (oF T D17)
 have D4:=KM.mk cl7 b4 F4 F4.b3 (jQ T D1)
 have D7:=KM.mk cl7 b7 F7 F7.b2 (jR T D1)
 have D9:=KM.mk cl7 b9 F9 F9.b3 (kU T D1)
 have D15:=KD.mk (W.mg_of X G b15) F15 F15.b2 (jA T D5 D4 D7 D9)
 have D13:=KD.mk (W.mg_of X G b13) F13 F13.b2 (oJ T (W.mg_of X G b13) F13 F13.b2)
 have D16:=KD.mk (W.mg_of X G b16) F16 F16.b2 (kX T D15)
 have D20:=KD.mk (W.mg_of X G b20) F20 F20.b3 (lR T D6 D8 D17 D13)
 exact uY T D3 D10 D12 D17 D14 D18 D19 D13 D16 D20 _ _ F21
theorem oK {K:JA}{Z:Adr}{H:Hp}{a:Addr}{ns:List Int}(hl:ns.length<=63)(hS:SqL K H a (ns.map V.int)){Q:VK}{E:XK}(q:∀H',Q (.bl true) H'):jB K Z [.ref a] H Q E:=⟨a,ns,rfl,hS,hl,q⟩
noncomputable def SPl (K:JA):Sp:=fun vs H Q _=>∃(a:Addr) (ns:List Int),vs=[.ref a]/\SqL K H a (ns.map V.int)/\ns.length<=63/\∀H',Q (.bl true) H'
theorem wm {l:W.OpenLaw}{q:Program}{loose:List Str}{XP:(Str->Option Value)->Heap->Prop}{YP:World->Heap->Prop}{d:DefRec}{K:Params->JA}(hn:l.most=some 63)(hdf:d.params.defaults=[])
  (hY:∀(w:World) (h:Heap),YP w h->(K w.params).In h)
  (F:∀(w:World) (mg:Str->Option Value) (fa:Addr) (h:Heap),(K w.params).In h->h.Ns mainGlobals mg->mg d.name=some (.ref fa)->
   ∃Z:Adr,∃fd:FuncData,(∀(s:Shared) (u:Value),BindsTo s fd ⟨[u],[]⟩ [("_law_script",u)])/\∀base:Heap,(K w.params).In base->base.Ns mainGlobals mg->c5 l.prog w (K w.params) mg base CX0 7 fa fd ["_law_script"] (jB (K w.params) Z)) :
  W.WalkO q loose XP YP l.row.toRowW d [] (fun f vs=>PySem.call f vs):=
 L2.qS (n:=63) (k:=7) (x:="_law_script") (CX:=fun _=>CX0) (sp:=fun w=>SPl (K w.params)) hn (by decide) hdf ⟨rfl,by decide,by decide⟩ hY
  (fun w mg fa h a b c=>let ⟨Z,fd,b1,b2⟩:=F w mg fa h a b c;⟨fd,b1,fun base x y=>(b2 base x y).imp fun vs H Q E ⟨a,ns,e,hS,hl,q⟩=>by subst e;exact oK hl hS q⟩) (fun _ _ a ns hl _ hS=>⟨a,ns,rfl,hS,hl,fun _=>rfl⟩) fun _ _ _ _ _ z=>z
end K14
local macro_rules | `(tactic| walk_at "m_is") => `(tactic| (delta L2.Xm; kts_exm))
local macro_rules | `(tactic| walk_at "h_is") => `(tactic| (delta L2.Kt; kit_is))
local macro_rules | `(tactic| walk_at "n_is") => `(tactic| (delta L2.NI; k_is))
local macro_rules | `(tactic| walk_at "a_is") => `(tactic| (delta L2.bI; k_is))
local macro_rules | `(tactic| walk_at "i_is") => `(tactic| (apply L2.KI.mk; k_is))
local macro_rules | `(tactic| walk_at "c_is") => `(tactic| (apply L2.Cls.mk; iterate 4 k_is))
local macro_rules | `(tactic| walk_at "o_is") => `(tactic| (apply L2.C0I.mk; k_is; exact rfl; k_is; exact rfl; exact rfl))
local macro_rules | `(tactic| walk_at "x_is") => `(tactic| (apply L2.XI.mk; k_is; k_is; exact rfl; exact rfl; k_is; k_is))
local macro_rules | `(tactic| walk_at "d_is") => `(tactic| (apply L2.DI.mk; iterate 4 k_is))
local macro_rules | `(tactic| walk_at "e_is") => `(tactic| (apply L2.MI.mk; iterate 5 k_is))
local macro_rules | `(tactic| walk_at "t_is") => `(tactic| (apply L2.II.mk; iterate 7 k_is))
open PySem PySem.W PyProof.Rows
set_option maxRecDepth 100000 in
set_option maxHeartbeats 0 in
theorem PySem.Challenge.cw_cagebells_k14_bells_through_any_day_holds : PySem.Challenge.rw_cagebells_k14_bells_through_any_day.Holds := by
 refine hd ?_
 k_fill
 refine K14.wm (l:=PySem.Challenge.rw_cagebells_k14_bells_through_any_day) rfl rfl (fun w h Y=>W.kIn_of Y) ?F
 case F=>
  intro w mg fa h KX G hmg
  apply K14.uZ KX G hmg
  apply K14.tG.mk
  iterate 9 k_is
  iterate 8 walk_at "n_is"
  iterate 2 walk_at "i_is"
  iterate 2 k_is
  walk_at "c_is"
  iterate 3 walk_at "a_is"
  walk_at "o_is"
  iterate 6 walk_at "x_is"
  walk_at "m_is"
  iterate 6 walk_at "h_is"
  walk_at "m_is"
  iterate 6 walk_at "h_is"
  walk_at "m_is"
  iterate 6 walk_at "h_is"
  walk_at "m_is"
  iterate 6 walk_at "h_is"
  walk_at "m_is"
  iterate 6 walk_at "h_is"
  walk_at "m_is"
  iterate 6 walk_at "h_is"
  iterate 3 walk_at "d_is"
  walk_at "t_is"
  iterate 6 walk_at "e_is"
  iterate 12 walk_at "d_is"
