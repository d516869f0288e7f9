import PyProof.Rows.All
import Wide.All
import OpenK.AllK
import Wide.FinOn
import PyProof.EqAt
import PyProof.EqKinds
import PyProof.TupleCall
import KE.BitLaws
import KE.KDictList
import KE.KDictSum
import PyProof.Rows.SortShellAny
import PyProof.Rows.SetFrom
import KE.OsGo
import Open.SpecLaws
import KE.KLam
import KE.KSortKeyAny
import KE.KSortTupG
import PySem.Challenge.RW_reasonhall_s05_reason
set_option Elab.async false
set_option linter.all false
set_option maxRecDepth 100000
namespace L2
open PySem PySem.Spec PyProof.Rows
abbrev Key:=Sum Int Str
def gF:Key->Value->Bool
 |.inl k,v=>Value.isInt k v
 |.inr x,v=>Value.isStrOf x v
def zW (w:World):Key->Int
 |.inl k=>hashInt k
 |.inr x=>hashStr w x
theorem bP:∀{k:Key} {v:Value},gF k v=true->(∃i t,k=Sum.inl i/\v=Value.int i t)∨(∃x t,k=Sum.inr x/\v=Value.str x t)
 |.inl i,v,h=>by
  obtain⟨t,e⟩:=Value.isInt_shape (k:=i) (v:=v) h
  exact .inl ⟨i,t,rfl,e⟩
 |.inr x,v,h=>by
  obtain⟨t,e⟩:=Value.isStrOf_shape (x:=x) (v:=v) h
  exact .inr ⟨x,t,rfl,e⟩
theorem u9 (i:Int)(t:Tok):gF (.inl i) (.int i t)=true:=by simp[gF,Value.isInt]
theorem uH (x:Str)(t:Tok):gF (.inr x) (.str x t)=true:=by simp[gF,Value.isStrOf]
theorem yZ (a b:Int):decide ((Sum.inl a:Key)=Sum.inl b)=(a==b):=by
 by_cases e:a=b
 ·subst e;simp
 ·have h:¬(Sum.inl a:Key)=Sum.inl b:=fun q=>e (Sum.inl.inj q)
  rw[decide_eq_false h]
  exact (beq_eq_false_iff_ne.mpr e).symm
theorem y8 (a b:Str):decide ((Sum.inr a:Key)=Sum.inr b)=decide (a=b):=by
 by_cases e:a=b
 ·subst e;simp
 ·have h:¬(Sum.inr a:Key)=Sum.inr b:=fun q=>e (Sum.inr.inj q)
  rw[decide_eq_false h,decide_eq_false e]
theorem zl (a:Int)(b:Str):decide ((Sum.inl a:Key)=Sum.inr b)=false:=decide_eq_false (fun q=>nomatch q)
theorem yY (a:Str)(b:Int):decide ((Sum.inr a:Key)=Sum.inl b)=false:=decide_eq_false (fun q=>nomatch q)
def bi (prog:Program)(w:World):PySem.KeyKind prog w Key where
 is:=gF
 hash:=zW w
 inj:=fun v a b ha hb=>by
  rcases bP ha with ⟨i,t,rfl,rfl⟩|⟨x,t,rfl,rfl⟩
  ·rcases bP hb with ⟨j,u,rfl,e⟩|⟨y,u,rfl,e⟩
   ·injection e with e1 _;rw[e1]
   ·exact nomatch e
  ·rcases bP hb with ⟨j,u,rfl,e⟩|⟨y,u,rfl,e⟩
   ·exact nomatch e
   ·injection e with e1 _;rw[e1]
 byValue:=fun k v h=>by
  rcases bP h with ⟨i,t,rfl,rfl⟩|⟨x,t,rfl,rfl⟩<;>rfl
 pyHash:=fun hv h=>by
  rcases bP hv with ⟨i,t,rfl,rfl⟩|⟨x,t,rfl,rfl⟩
  ·exact wpAny_pyHash_int h
  ·exact wpAny_pyHash_str h
 eqBool:=fun hu hv h=>by
  rcases bP hu with ⟨i,t,rfl,rfl⟩|⟨x,t,rfl,rfl⟩
  ·rcases bP hv with ⟨j,u,rfl,rfl⟩|⟨y,u,rfl,rfl⟩
   ·rw[yZ]at h;exact wpAny_eqBool_int h
   ·rw[zl]at h;exact SeqAt.EqAt.int_str i t y u _ _ _ _ h
  ·rcases bP hv with ⟨j,u,rfl,rfl⟩|⟨y,u,rfl,rfl⟩
   ·rw[yY]at h;exact SeqAt.EqAt.str_int x t j u _ _ _ _ h
   ·rw[y8]at h;exact wpAny_eqBool_str h
 «strs»:=fun k x t v h=>by
  rcases bP h with ⟨i,u,rfl,e⟩|⟨y,u,rfl,e⟩
  ·exact nomatch e
  ·injection e with e1 _
   subst e1
   cases v<;>rfl
theorem rV (prog:Program)(w:World)(i:Int)(t:Tok):(bi prog w).is (.inl i) (.int i t)=true:=u9 i t
theorem rp (prog:Program)(w:World)(x:Str)(t:Tok):(bi prog w).is (.inr x) (.str x t)=true:=uH x t
inductive V where
 |non|bl (b:Bool)|int (i:Int)|str (x:Str)|byt (b:Array UInt8)|flt (b:UInt64)|ref (a:Addr)|ty (n:String)
 deriving DecidableEq
def RelV:V->Value->Prop
 |.non,u=>u=Value.none
 |.bl b,u=>u=Value.bool b
 |.int i,u=>∃t,u=Value.int i t
 |.str x,u=>∃t,u=Value.str x t
 |.byt b,u=>∃t,u=Value.bytes b t
 |.flt b,u=>∃t,u=Value.float b t
 |.ref a,u=>u=Value.ref a
 |.ty n,u=>u=Value.type n
abbrev Vals:List V->List Value->Prop:=Paired RelV
theorem Vals.length {xs:List V}{us:List Value}(r:Vals xs us):xs.length=us.length:=Paired.length r
theorem Vals.get:∀{xs:List V} {us:List Value} {i:Nat} {x:V},Vals xs us->xs[i]?=some x->∃u,us[i]?=some u/\RelV x u
 |_,_,_,_,.nil,e=>by simp at e
 |_,_,0,_,.cons r _,e=>by simp at e;subst e;exact⟨_,rfl,r⟩
 |_,_,i+1,x,.cons _ t,e=>by
  obtain⟨u,h1,h2⟩:=Vals.get (i:=i) (x:=x) t (by simpa using e)
  exact⟨u,by simpa using h1,h2⟩
theorem Vals.set {x:V}{u:Value}(r:RelV x u):∀{xs:List V} {us:List Value} (i:Nat),Vals xs us->Vals (xs.set i x) (us.set i u)
 |_,_,_,.nil=>.nil
 |_,_,0,.cons _ t=>.cons r t
 |_,_,i+1,.cons q t=>.cons q (Vals.set r i t)
theorem Vals.append:∀{xs ys:List V} {us ws:List Value},Vals xs us->Vals ys ws->Vals (xs++ys) (us++ws)
 |_,_,_,_,.nil,s=>s
 |_,_,_,_,.cons r t,s=>.cons r (Vals.append t s)
theorem Vals.take:∀{xs:List V} {us:List Value} (n:Nat),Vals xs us->Vals (xs.take n) (us.take n)
 |_,_,0,_=>.nil
 |_,_,_+1,.nil=>.nil
 |_,_,n+1,.cons r t=>.cons r (Vals.take n t)
theorem Vals.drop:∀{xs:List V} {us:List Value} (n:Nat),Vals xs us->Vals (xs.drop n) (us.drop n)
 |_,_,0,r=>r
 |_,_,_+1,.nil=>.nil
 |_,_,n+1,.cons _ t=>Vals.drop n t
def RelO:Option V->Option Value->Prop
 |some v,some u=>RelV v u
 |none,none=>True
 |_,_=>False
def KV {κ:Type}:List (κ×V)->List (κ×Value)->Prop:=Paired fun (p:κ×V) (q:κ×Value)=>p.1=q.1/\RelV p.2 q.2
def kV:Key->V
 |.inl i=>.int i
 |.inr x=>.str x
inductive HO where
 |lst (xs:List V)
 |tup (xs:List V)
 |dK (kvs:List (Key×V))|dT (kvs:List (List Key×V))
 |set (S:Int->Bool) (n:Nat)
 |ins (C dx:Addr) (fs:List (Str×V))
 |own (x:Addr)
 |xd (fs:List (Str×V))
 |met (f x:Addr)
 |rng (lo hi:Int)
 |frz (o:Obj) (u:HO)
 |tbl (ps:Array Value)
 |ext (φ:Heap->Prop)
abbrev Hp:=Addr->Option HO
def upd (H:Hp)(a:Addr)(o:HO):Hp:=fun b=>if b=a then some o else H b
theorem af {H:Hp}{a:Addr}{o:HO}:upd H a o a=some o:=by unfold upd;rw[if_pos rfl]
theorem ae {H:Hp}{a b:Addr}{o:HO}(h:b≠a):upd H a o b=H b:=by unfold upd;rw[if_neg h]
theorem bW {H:Hp}{a:Addr}{o u:HO}:upd (upd H a o) a u=upd H a u:=by
 funext b;unfold upd;split<;>rfl
theorem bo {H:Hp}{a b:Addr}{o u:HO}(h:H a=some o)(h':H b=some u)(d:o≠u):a≠b:=by
 intro e;subst e;rw[h]at h';exact d (Option.some.inj h')
theorem aD {H:Hp}{a b:Addr}{o:HO}(h:H a=some o)(h':H b=none):a≠b:=by
 intro e;subst e;rw[h]at h';cases h'
section
variable (P:Program)(w:World)
def ObjOk (H:Hp)(h:Heap)(a:Addr):HO->Prop
 |.lst xs=>xs.length<=sizeLine/\∃(its:List Value)(n:Nat),Vals xs its/\h.get? a=some { cls:=.type "list",data:=.seq its.toArray n }
 |.tup xs=>xs.length<=sizeLine/\∃its:List Value,Vals xs its/\IsTup h a its.toArray
 |.dK kvs=>kvs.length<=sizeLine/\(a==sysModules)=false/\∃vs,KV kvs vs/\h.DictOf (bi P w) a vs
 |.dT kvs=>kvs.length<=sizeLine/\(a==sysModules)=false/\∃xs:List (List Key×Addr×Value),
   Paired (fun (p:List Key×V) (q:List Key×Addr×Value)=>p.1=q.1/\H q.2.1=some (.tup (p.1.map kV))/\RelV p.2 q.2.2) kvs xs/\
   ∃o es ep,h.get? a=some o/\o.ExactDict/\o.data=.dict es ep/\es.toList=xs.map (entryOfKey (tupleKind (bi P w)))/\(xs.map (·.1)).Nodup
 |.set S n=>h.SetOf (intKind P w) a S n
 |.ins C dx fs=>H dx=some (.own a)/\fs.length<=1000/\dx≠a/\h.get? a=some (PySem.W.instObj C dx)/\
   ∃mA,h.Ns1 dx mA/\(∀f,RelO (fs.lookup f) (mA f))/\PySem.Within mA (fs.map (·.1))
 |.own _=>∃o,h.get? a=some o
 |.xd fs=>∃mA,h.Ns1 a mA/\∀f,RelO (fs.lookup f) (mA f)
 |.rng lo hi=>∃t u v,h.get? a=some { cls:=.type "range",data:=.fields #[.int lo t,.int hi u,.int 1 v] }
 |.frz o u=>h.get? a=some o/\ObjOk H h a u
 |.tbl ps=>h.get? a=some { cls:=.none,data:=.fields ps }
 |.met f x=>h.get? a=some (PySem.W.methodObj (.ref f) (.ref x))
 |.ext φ=>φ h/\(∃o,h.get? a=some o)/\∀h1 h2:Heap,φ h1->(∀o,h1.get? a=some o->h2.get? a=some o)->φ h2
def HOk (H:Hp)(h:Heap):Prop:=∀a o,H a=some o->ObjOk P w H h a o
end
section
variable {P:Program}{w:World}{H H':Hp}{h h':Heap}{a:Addr}{o:HO}
theorem ObjOk.lt (x:ObjOk P w H h a o):a<h.objs.size:=by
 cases o with
 |lst xs=>obtain⟨_,_,_,_,e⟩:=x;exact Heap.lt_size e
 |tup xs=>obtain⟨_,_,_,p⟩:=x;exact p.lt
 |dK kvs=>obtain⟨_,_,_,_,o,_,_,e,_⟩:=x;exact Heap.lt_size e
 |dT kvs=>obtain⟨_,_,_,_,o,_,_,e,_⟩:=x;exact Heap.lt_size e
 |set S n=>obtain⟨o,_,_,_,e,_⟩:=x;exact Heap.lt_size e
 |ins C dx fs=>obtain⟨_,_,_,e,_⟩:=x;exact Heap.lt_size e
 |own y=>obtain⟨_,e⟩:=x;exact Heap.lt_size e
 |xd fs=>obtain⟨_,⟨_,_,_,e,_⟩,_⟩:=x;exact Heap.lt_size e
 |rng lo hi=>obtain⟨_,_,_,e⟩:=x;exact Heap.lt_size e
 |frz ob u=>obtain⟨e,_⟩:=x;exact Heap.lt_size e
 |tbl ps=>exact Heap.lt_size (show h.get? a=some _ from x)
 |met f y=>exact Heap.lt_size (show h.get? a=some _ from x)
 |ext φ=>obtain⟨_,⟨_,e⟩,_⟩:=x;exact Heap.lt_size e
theorem Paired.mapP {α β:Type}{F G:α->β->Prop}:∀{l₁:List α} {l₂:List β},Paired F l₁ l₂->(∀a b,F a b->G a b)->Paired G l₁ l₂
 |_,_,.nil,_=>.nil
 |_,_,.cons r t,f=>.cons (f _ _ r) (Paired.mapP t f)
theorem ObjOk.stay (x:ObjOk P w H h a o)(k:∀b u,(b=a∨H b=some (.own a))->h.get? b=some u->h'.get? b=some u)
  (ho:∀b,H b=some (.own a)->H' b=some (.own a))(ht:∀b xs,H b=some (.tup xs)->H' b=some (.tup xs)):ObjOk P w H' h' a o:=by
 induction o with
 |lst xs=>obtain⟨z,its,n,r,e⟩:=x;exact⟨z,its,n,r,k _ _ (.inl rfl) e⟩
 |tup xs=>obtain⟨z,its,r,ob,e,c⟩:=x;exact⟨z,its,r,ob,k _ _ (.inl rfl) e,c⟩
 |dK kvs=>obtain⟨z,y,vs,r,ob,es,ep,e,c⟩:=x;exact⟨z,y,vs,r,ob,es,ep,k _ _ (.inl rfl) e,c⟩
 |dT kvs=>
  obtain⟨z,y,xs,r,ob,es,ep,e,c⟩:=x
  exact⟨z,y,xs,Paired.mapP r fun p q z=>⟨z.1,ht _ _ z.2.1,z.2.2⟩,ob,es,ep,k _ _ (.inl rfl) e,c⟩
 |set S n=>obtain⟨ob,es,ep,t,e,c⟩:=x;exact⟨ob,es,ep,t,k _ _ (.inl rfl) e,c⟩
 |ins C dx fs=>
  obtain⟨d,z,ne,e,mA,⟨od,es,ep,e2,c⟩,r⟩:=x
  exact⟨ho _ d,z,ne,k _ _ (.inl rfl) e,mA,⟨od,es,ep,k _ _ (.inr d) e2,c⟩,r⟩
 |own y=>obtain⟨ob,e⟩:=x;exact⟨ob,k _ _ (.inl rfl) e⟩
 |xd fs=>obtain⟨mA,⟨od,es,ep,e,c⟩,r⟩:=x;exact⟨mA,⟨od,es,ep,k _ _ (.inl rfl) e,c⟩,r⟩
 |rng lo hi=>obtain⟨t,u,v,e⟩:=x;exact⟨t,u,v,k _ _ (.inl rfl) e⟩
 |frz ob u ih=>obtain⟨e,q⟩:=x;exact⟨k _ _ (.inl rfl) e,ih q⟩
 |tbl ps=>
  have e:h.get? a=some { cls:=.none,data:=.fields ps }:=x
  show h'.get? a=some { cls:=.none,data:=.fields ps }
  exact k a _ (.inl rfl) e
 |met f y=>
  have e:h.get? a=some (PySem.W.methodObj (.ref f) (.ref y)):=x
  show h'.get? a=some (PySem.W.methodObj (.ref f) (.ref y))
  exact k a _ (.inl rfl) e
 |ext φ=>obtain⟨p,⟨o,e⟩,st⟩:=x;exact⟨st _ _ p fun o q=>k _ _ (.inl rfl) q,⟨o,k _ _ (.inl rfl) e⟩,st⟩
theorem HOk.lt (x:HOk P w H h)(e:H a=some o):a<h.objs.size:=(x a o e).lt
theorem HOk.fresh (x:HOk P w H h)(e:h.objs.size<=a):H a=none:=by
 cases q:H a with
 |none=>rfl
 |some u=>exact absurd (Nat.lt_of_lt_of_le (x.lt q) e) (Nat.lt_irrefl _)
theorem HOk.kept (x:HOk P w H h)(k:∀b u,h.get? b=some u->h'.get? b=some u):HOk P w H h':=fun a o e=>
 (x a o e).stay (fun b u _ q=>k b u q) (fun _ q=>q) fun _ _ q=>q
theorem HOk.laid (x:HOk P w H h)(k:∀b u,h.get? b=some u->h'.get? b=some u)(hp:h.objs.size<=a)(new:ObjOk P w (upd H a o) h' a o):HOk P w (upd H a o) h':=fun b u e=>by
 have hn:=x.fresh hp
 by_cases hb:b=a
 ·subst hb;rw[af]at e;cases e;exact new
 ·rw[ae hb]at e
  exact (x b u e).stay (fun c v _ q=>k c v q) (fun c q=>by rw[ae (aD q hn)];exact q) fun c xs q=>by rw[ae (aD q hn)];exact q
end
def Rd (H:Hp)(a:Addr)(u:HO):Prop:=H a=some u∨∃o,H a=some (.frz o u)
theorem Rd.of {H:Hp}{a:Addr}{u:HO}(h:H a=some u):Rd H a u:=.inl h
theorem Rd.ok {P:Program}{w:World}{H:Hp}{h:Heap}{a:Addr}{u:HO}(r:Rd H a u)(x:HOk P w H h):ObjOk P w H h a u:=by
 rcases r with r|⟨o,r⟩
 ·exact x a u r
 ·obtain⟨_,q⟩:=x a _ r
  exact q
def Mut:Option HO->Prop
 |some (.lst _)=>True
 |some (.dK _)=>True
 |some (.dT _)=>True
 |some (.set _ _)=>True
 |some (.ins _ _ _)=>True
 |some (.ext _)=>True
 |_=>False
section
variable {P:Program}{w:World}{H:Hp}{h h':Heap}{x e:Addr}{o':HO}
theorem HOk.write (ok:HOk P w H h)(mu:Mut (H x))(he:e=x∨H e=some (.own x))(k:∀b u,b≠e->h.get? b=some u->h'.get? b=some u)(heo:∃u,h'.get? e=some u)
  (new:ObjOk P w (upd H x o') h' x o'):HOk P w (upd H x o') h':=fun b u q=>by
 have nown:∀c y,H c=some (.own y)->c≠x:=fun c y r z=>by subst z;rw[r]at mu;exact mu
 have ntup:∀c xs,H c=some (.tup xs)->c≠x:=fun c xs r z=>by subst z;rw[r]at mu;exact mu
 by_cases hb:b=x
 ·subst hb;rw[af]at q;cases q;exact new
 ·rw[ae hb]at q
  by_cases hbe:b=e
  ·have q':H b=some (.own x):=by
    rcases he with z|z
    ·exact absurd (hbe.trans z) hb
    ·rw[hbe];exact z
   rw[q]at q';cases q'
   obtain⟨v,hv⟩:=heo
   exact⟨v,by rw[hbe];exact hv⟩
  ·refine (ok b u q).stay (fun c v hc r=>k c v ?_ r) (fun c r=>by rw[ae (nown c b r)];exact r) fun c xs r=>by rw[ae (ntup c xs r)];exact r
   rcases hc with rfl|hc
   ·exact hbe
   ·rintro rfl
    rcases he with z|z
    ·exact nown c b hc z
    ·rw[hc]at z;cases z;exact hb rfl
end
structure Un (fs ex:List Addr)(H H':Hp)(h h':Heap):Prop where
 keep:∀b o,h.get? b=some o->H b=none->b ∉ fs->b ∉ ex->h'.get? b=some o
 slot:∀b o,h.get? b=some o->H b=none->b∈fs->b ∉ ex->∃sl,h'.get? b=some { o with slots:=sl }
 free:∀b o,h.get? b=some o->H b=none->b ∉ ex->H' b=none
 there:∀b o,h.get? b=some o->b ∉ ex->∃o',h'.get? b=some o'
 tups:∀b xs,H b=some (.tup xs)->H' b=some (.tup xs)
 frzs:∀b o u,H b=some (.frz o u)->H' b=some (.frz o u)
 tbls:∀b ps,H b=some (.tbl ps)->∃more,H' b=some (.tbl (ps++more))
section
variable {fs fs' ex ex':List Addr}{H H1 H2:Hp}{h h1 h2 h':Heap}{a x e:Addr}{o:HO}
theorem Un.any (u:Un fs ex H H1 h h1){b:Addr}{ob:Obj}(q:h.get? b=some ob)(n:H b=none)(hx:b ∉ ex):∃sl,h1.get? b=some { ob with slots:=sl }:=by
 by_cases hb:b∈fs
 ·exact u.slot b ob q n hb hx
 ·exact⟨ob.slots,u.keep b ob q n hb hx⟩
theorem Un.trans (a:Un fs ex H H1 h h1)(b:Un fs ex H1 H2 h1 h2):Un fs ex H H2 h h2 where
 keep:=fun c ob q n hc hx=>b.keep c ob (a.keep c ob q n hc hx) (a.free c ob q n hx) hc hx
 slot:=fun c ob q n hc hx=>by
  obtain⟨sl,e1⟩:=a.slot c ob q n hc hx
  obtain⟨sl',e2⟩:=b.slot c _ e1 (a.free c ob q n hx) hc hx
  exact⟨sl',e2⟩
 free:=fun c ob q n hx=>by
  obtain⟨o',e1⟩:=a.there c ob q hx
  exact b.free c o' e1 (a.free c ob q n hx) hx
 there:=fun c ob q hx=>by
  obtain⟨o',e1⟩:=a.there c ob q hx
  exact b.there c o' e1 hx
 tups:=fun c xs q=>b.tups c xs (a.tups c xs q)
 frzs:=fun c ob xs q=>b.frzs c ob xs (a.frzs c ob xs q)
 tbls:=fun c ps q=>by
  obtain⟨m1,e1⟩:=a.tbls c ps q
  obtain⟨m2,e2⟩:=b.tbls c _ e1
  exact⟨m1++m2,by rw[e2,Array.append_assoc]⟩
theorem Un.kept (k:∀b u,h.get? b=some u->h'.get? b=some u):Un fs ex H H h h':=
 ⟨fun b ob q _ _ _=>k b ob q,fun b ob q _ _ _=>⟨ob.slots,k b ob q⟩,fun _ _ _ n _=>n,fun b ob q _=>⟨ob,k b ob q⟩,fun _ _ q=>q,fun _ _ _ q=>q,fun _ ps q=>⟨#[],by rw[q];simp⟩⟩
theorem Un.refl:Un fs ex H H h h:=Un.kept fun _ _ q=>q
theorem Un.laid (k:∀b u,h.get? b=some u->h'.get? b=some u)(hp:h.objs.size<=a)(hn:H a=none):Un fs ex H (upd H a o) h h' where
 keep:=fun b u q _ _ _=>k b u q
 slot:=fun b u q _ _ _=>⟨u.slots,k b u q⟩
 free:=fun b u q n _=>by rw[ae (Nat.ne_of_lt (Nat.lt_of_lt_of_le (Heap.lt_size q) hp))];exact n
 there:=fun b u q _=>⟨u,k b u q⟩
 tups:=fun b xs q=>by rw[ae (aD q hn)];exact q
 frzs:=fun b u xs q=>by rw[ae (aD q hn)];exact q
 tbls:=fun b ps q=>⟨#[],by rw[ae (aD q hn),q];simp⟩
theorem Un.write (mu:Mut (H x))(he:e=x∨H e=some (.own x))(k:∀b u,b≠e->h.get? b=some u->h'.get? b=some u)(heo:∃u,h'.get? e=some u):Un fs ex H (upd H x o) h h':=by
 have hx:∀b,H b=none->b≠x:=fun b n z=>by subst z;rw[n]at mu;exact mu
 have hb:∀b,H b=none->b≠e:=fun b n z=>by
  subst z
  rcases he with r|r
  ·exact hx b n r
  ·rw[n]at r;cases r
 have hm:∀b u,H b=some u->¬Mut (some u)->b≠x:=fun b u q nm z=>by subst z;rw[q]at mu;exact nm mu
 refine⟨fun b u q n _ _=>k b u (hb b n) q,fun b u q n _ _=>⟨u.slots,k b u (hb b n) q⟩,fun b u q n _=>by rw[ae (hx b n)];exact n,fun b u q _=>?_,
  fun b xs q=>by rw[ae (hm b _ q fun z=>z)];exact q,fun b u xs q=>by rw[ae (hm b _ q fun z=>z)];exact q,fun b ps q=>⟨#[],by rw[ae (hm b _ q fun z=>z),q];simp⟩⟩
 by_cases hbe:b=e
 ·subst hbe;exact heo
 ·exact⟨u,k b u hbe q⟩
theorem Un.mono (u:Un fs ex H H1 h h1)(hs:∀b∈fs,b∈fs')(hx:∀b∈ex,b∈ex'):Un fs' ex' H H1 h h1:=
 ⟨fun b ob q n hb he=>u.keep b ob q n (fun z=>hb (hs b z)) fun z=>he (hx b z),fun _ _ q n _ he=>u.any q n fun z=>he (hx _ z),fun b ob q n he=>u.free b ob q n fun z=>he (hx b z),fun b ob q he=>u.there b ob q fun z=>he (hx b z),u.tups,u.frzs,u.tbls⟩
end
def trk (h:Heap)(H:Hp):List Addr:=(List.range h.objs.size).filter fun a=>(H a).isSome
def jm (h:Heap)(H:Hp):Heap:=PySem.W.hideAll h (trk h H)
theorem vV (h:Heap)(H:Hp):(jm h H).objs.size=h.objs.size:=PySem.W.hideAll_size _ _
theorem xa {h:Heap}{H:Hp}{b:Addr}{o:Obj}(e:h.get? b=some o)(n:H b=none):(jm h H).get? b=some o:=
 PySem.W.hideAll_get _ e fun hm=>by
  have q:(H b).isSome=true:=(List.mem_filter.mp hm).2
  rw[n]at q;simp at q
theorem xI {h:Heap}{H:Hp}{b:Addr}{o:Obj}(e:(jm h H).get? b=some o):h.get? b=some o/\H b=none:=by
 have e':h.get? b=some o:=PySem.W.of_hideAll (trk h H) e
 refine⟨e',?_⟩
 cases q:H b with
 |none=>rfl
 |some x=>
  have hm:b∈trk h H:=List.mem_filter.mpr ⟨List.mem_range.mpr (Heap.lt_size e'),by simp[q]⟩
  have z:(jm h H).get? b=none:=PySem.W.hideAll_none (trk h H) hm
  rw[z]at e;cases e
def xJ (g h:Heap)(L:Addr):List (Addr×Obj):=(List.range h.objs.size).filterMap fun a=>if a=L∨(g.get? a).isSome=true then none else (h.get? a).map fun o=>(a,o)
def rest (g h:Heap)(L d:Addr):List (Addr×Obj):=(xJ g h L).filter fun p=>decide (p.1≠d)
structure Mod (K:PySem.W.Frag)(mg:Str->Option Value)(base:Heap):Prop where
 kin:K.In base
 glob:base.Ns mainGlobals mg
 blt:∃mb,base.Ns builtinsNs mb/\∀x:Str,x≠"__name__"->mb x=bootBuiltins x
 nolimit:base.NoLimit
structure Cx where
 prog:Program
 w:World
 K:PySem.W.Frag
 mg:Str->Option Value
 base:Heap
 A:Around
 N:List Str
 s_0:Shared
 H_0:Hp
 env:Env
 outer:List Env
 stack:List Env
 ex:List Addr
 fn:Str->Bool
 calm:Bool
 pn:List (Addr×Obj)
 xe:Value->Shared->Prop
def frs (l:List Env):List Addr:=l.filterMap (·.frame)
abbrev Cx.fs (X:Cx):List Addr:=frs X.outer
def Vis (sc:Scope)(x:Str):Prop:=sc.names.lookup x=some .local∨sc.names.lookup x=some .cell∨sc.names.lookup x=some .free
def Loc (sc:Scope)(x:Str):Prop:=sc.names.lookup x=some .local∨sc.names.lookup x=some .cell
def Af (env:Env)(h:Heap)(m:Str->Option Value)(x:Str)(u:Value):Prop:=
 (env.kindOf x=some .local/\m x=some u)∨((env.kindOf x=some .cell∨env.kindOf x=some .free)/\∃c,env.cells.lookup x=some c/\h.IsCell c (some u))
structure Cx.Ok (X:Cx):Prop where
 mod:Mod X.K X.mg X.base
 kind:X.env.scope.kind=.function
 glob:X.env.globals=mainGlobals
 blt:X.env.builtins=builtinsNs
 above:X.s_0.heap.objs.size<=X.env.locals
 inj:∀x y c,X.env.cells.lookup x=some c->X.env.cells.lookup y=some c->x=y
 has:∀x,(X.env.kindOf x=some .cell∨X.env.kindOf x=some .free)->∃c,X.env.cells.lookup x=some c
 cab:∀x c,X.fn x=true->X.env.cells.lookup x=some c->X.s_0.heap.objs.size<=c
 hd:X.calm=true->X.A.handled=none
 frames:X.A.frames=some X.stack
 stk:X.stack=X.outer∨(X.stack=X.env :: X.outer/\X.env.frame=some X.env.locals)
 exf:∀b∈X.ex,b≠X.env.locals/\∀x c,X.env.cells.lookup x=some c->c≠b
 bs:∀b o,X.base.get? b=some o->X.s_0.heap.get? b=some o/\X.H_0 b=none
 bsz:X.base.objs.size<=X.s_0.heap.objs.size
 noex:∀b o,X.base.get? b=some o->b ∉ X.ex
 exfs:∀b∈X.ex,b ∉ X.fs
 funs:X.s_0.heap.FunFrames X.base X.outer
 frf:∀b∈X.fs,X.H_0 b=none
structure Inv (X:Cx)(pins:List (Addr×Obj))(σ:List (Option V))(H:Hp)(s:Shared):Prop where
 ok:X.Ok
 os:s.os=X.s_0.os
 bare:AllBare s.gens
 base:Un X.fs X.ex X.H_0 H X.s_0.heap s.heap
 loc:∃m,s.heap.Ns X.env.locals m/\∀(i:Nat)(x:Str)(v:V),X.N[i]?=some x->σ[i]?=some (some v)->Vis X.env.scope x->∃u,RelV v u/\Af X.env s.heap m x u
 cell:∀x c,X.env.cells.lookup x=some c->∃v,s.heap.IsCell c v
 free:H X.env.locals=none
 freeC:∀x c,X.env.cells.lookup x=some c->H c=none
 pin:∀p∈X.pn++pins,s.heap.get? p.1=some p.2/\H p.1=none/\p.1≠X.env.locals/\p.1 ∉ X.fs/\∀v,p.2.data≠.cell v
 hok:HOk X.prog X.w H s.heap
 len:σ.length=X.N.length
section
variable {X:Cx}{pins:List (Addr×Obj)}{σ:List (Option V)}{H H':Hp}{s:Shared}{h':Heap}
theorem Cx.Ok.nofr (ok:X.Ok){b:Addr}{o:Obj}(e:X.base.get? b=some o):b ∉ X.fs:=fun hb=>by
 have:=(ok.funs.mem hb).1
 rw[e]at this;cases this
theorem Inv.bs (I:Inv X pins σ H s):∀b o,X.base.get? b=some o->s.heap.get? b=some o/\H b=none:=fun b o e=>
 ⟨I.base.keep b o (I.ok.bs b o e).1 (I.ok.bs b o e).2 (I.ok.nofr e) (I.ok.noex b o e),I.base.free b o (I.ok.bs b o e).1 (I.ok.bs b o e).2 (I.ok.noex b o e)⟩
theorem Inv.bk (I:Inv X pins σ H s):∀b o,X.base.get? b=some o->s.heap.get? b=some o:=fun b o e=>(I.bs b o e).1
theorem Inv.mod (I:Inv X pins σ H s):Mod X.K X.mg X.base:=I.ok.mod
theorem Inv.kIn (I:Inv X pins σ H s):X.K.In s.heap:=I.ok.mod.kin.keeps I.bk
theorem Inv.nolimit (I:Inv X pins σ H s):s.heap.NoLimit:=I.ok.mod.nolimit.keeps I.bk
theorem Inv.fr (I:Inv X pins σ H s):∃m,Fr X.base X.env.locals s.heap m:=
 let ⟨m,hn,_⟩:=I.loc
 ⟨m,hn,I.bk,Nat.le_trans I.ok.bsz I.ok.above⟩
theorem Inv.lt (I:Inv X pins σ H s):X.env.locals<s.heap.objs.size:=let ⟨_,hn,_⟩:=I.loc;hn.lt
theorem Inv.sz (I:Inv X pins σ H s):X.s_0.heap.objs.size<=s.heap.objs.size:=Nat.le_trans I.ok.above (Nat.le_of_lt I.lt)
theorem Inv.nofs (I:Inv X pins σ H s){a:Addr}(h:s.heap.objs.size<=a):a ∉ X.fs:=fun hb=>by
 obtain⟨_,o,ho,_⟩:=I.ok.funs.mem hb
 exact absurd (Nat.lt_of_lt_of_le (Heap.lt_size ho) (Nat.le_trans I.sz h)) (Nat.lt_irrefl _)
theorem Inv.cne (I:Inv X pins σ H s):∀x c,X.env.cells.lookup x=some c->c≠X.env.locals:=fun x c e z=>by
 obtain⟨v,o,ho,hd⟩:=I.cell x c e
 obtain⟨m,⟨o',es,ep,ho',hd',_⟩,_⟩:=I.loc
 rw[z,ho']at ho;cases ho;rw[hd']at hd;cases hd
theorem Inv.funs (I:Inv X pins σ H s):s.heap.FunFrames X.base X.outer:=by
 have all:∀(l:List Env),(∀b∈frs l,b∈X.fs)->X.s_0.heap.FunFrames X.base l->s.heap.FunFrames X.base l:=by
  intro l
  induction l with
  |nil=>intro _ _;trivial
  |cons env r ih=>
   intro hs hl
   obtain⟨hk,⟨L,o,hf,hn,ho,hd⟩,hr⟩:=hl
   have hL:L∈X.fs:=hs L (by unfold frs;rw[List.filterMap_cons,hf];exact List.mem_cons_self)
   obtain⟨sl,e⟩:=I.base.slot L o ho (I.ok.frf L hL) hL fun z=>I.ok.exfs L z hL
   exact⟨hk,⟨L,_,hf,hn,e,hd⟩,ih (fun b hb=>hs b (by unfold frs;rw[List.filterMap_cons,hf];exact List.mem_cons_of_mem _ hb)) hr⟩
 exact all X.outer (fun _ hb=>hb) I.ok.funs
theorem Inv.stack (I:Inv X pins σ H s):s.heap.FunFrames X.base X.stack:=by
 rcases I.ok.stk with e|⟨e,hf⟩
 ·rw[e];exact I.funs
 ·rw[e]
  obtain⟨m,hn,_⟩:=I.loc
  refine .cons (by rw[I.ok.kind];decide) hf hn ?_ I.funs
  exact Heap.get?_none_of_le (Nat.le_trans I.ok.bsz I.ok.above)
theorem Inv.stkSub (I:Inv X pins σ H s):∀b∈frs X.stack,b∈X.env.locals :: X.fs:=fun b hb=>by
 rcases I.ok.stk with e|⟨e,hf⟩
 ·rw[e]at hb;exact List.mem_cons_of_mem _ hb
 ·rw[e]at hb
  unfold frs at hb
  rw[List.filterMap_cons,hf]at hb
  exact hb
theorem Inv.stkFree (I:Inv X pins σ H s):∀b∈frs X.stack,H b=none:=fun b hb=>by
 rcases List.mem_cons.mp (I.stkSub b hb) with e|hb
 ·rw[e];exact I.free
 ·obtain⟨_,o,ho,_⟩:=I.ok.funs.mem hb
  exact I.base.free b o ho (I.ok.frf b hb) fun z=>I.ok.exfs b z hb
theorem Inv.step {g':Array GenState}{t':Nat}{d':Drawn}{ch:List Addr}(I:Inv X pins σ H s)
  (hch:∀b∈ch,(b∈X.ex∨X.s_0.heap.objs.size<=b)/\b≠X.env.locals/\(∀x c,X.env.cells.lookup x=some c->c≠b)/\∀p∈X.pn++pins,p.1≠b)
  (keep:∀b o,b≠X.env.locals->b ∉ X.fs->b ∉ ch->s.heap.get? b=some o->H b=none->h'.get? b=some o)
  (slot:∀b o,b≠X.env.locals->b∈X.fs->b ∉ ch->s.heap.get? b=some o->H b=none->∃sl,h'.get? b=some { o with slots:=sl })(free:∀b o,b ∉ ch->s.heap.get? b=some o->H b=none->H' b=none)
  (there:∀b o,b ∉ ch->s.heap.get? b=some o->∃o',h'.get? b=some o')
  (tups:∀b xs,H b=some (.tup xs)->H' b=some (.tup xs))(frzs:∀b o u,H b=some (.frz o u)->H' b=some (.frz o u))(tbls:∀b ps,H b=some (.tbl ps)->∃more,H' b=some (.tbl (ps++more)))
  (ns:∀m,s.heap.Ns X.env.locals m->h'.Ns X.env.locals m)(hok:HOk X.prog X.w H' h')(hg:AllBare g'):
  Inv X pins σ H' { s with heap:=h',gens:=g',drawn:=d',toks:=t' }:=by
 have neL:∀b o,X.s_0.heap.get? b=some o->b≠X.env.locals:=fun b o e=>Nat.ne_of_lt (Nat.lt_of_lt_of_le (Heap.lt_size e) I.ok.above)
 have neC:∀b o,X.s_0.heap.get? b=some o->b ∉ X.ex->b ∉ ch:=fun b o e hx hb=>by
  rcases (hch b hb).1 with z|z
  ·exact hx z
  ·exact absurd (Nat.lt_of_lt_of_le (Heap.lt_size e) z) (Nat.lt_irrefl _)
 have cellK:∀x c,X.env.cells.lookup x=some c->∀v,s.heap.IsCell c v->h'.IsCell c v:=fun x c e v ⟨o,ho,hd⟩=>by
  have nch:c ∉ ch:=fun z=>(hch c z).2.2.1 x c e rfl
  by_cases hc:c∈X.fs
  ·obtain⟨sl,q⟩:=slot c o (I.cne x c e) hc nch ho (I.freeC x c e)
   exact⟨_,q,hd⟩
  ·exact⟨o,keep c o (I.cne x c e) hc nch ho (I.freeC x c e),hd⟩
 refine⟨I.ok,I.os,hg,⟨fun b o e n hb hx=>?_,fun b o e n hb hx=>?_,fun b o e n hx=>?_,fun b o e hx=>?_,fun b xs e=>tups b xs (I.base.tups b xs e),fun b o xs e=>frzs b o xs (I.base.frzs b o xs e),fun b ps e=>?_⟩,?_,fun x c e=>?_,?_,fun x c e=>?_,fun p hp=>?_,hok,I.len⟩
 ·exact keep b o (neL b o e) hb (neC b o e hx) (I.base.keep b o e n hb hx) (I.base.free b o e n hx)
 ·obtain⟨sl,e1⟩:=I.base.slot b o e n hb hx
  obtain⟨sl',e2⟩:=slot b _ (neL b o e) hb (neC b o e hx) e1 (I.base.free b o e n hx)
  exact⟨sl',e2⟩
 ·obtain⟨o',e1⟩:=I.base.there b o e hx
  exact free b o' (neC b o e hx) e1 (I.base.free b o e n hx)
 ·obtain⟨o',e1⟩:=I.base.there b o e hx
  exact there b o' (neC b o e hx) e1
 ·obtain⟨m1,e1⟩:=I.base.tbls b ps e
  obtain⟨m2,e2⟩:=tbls b _ e1
  exact⟨m1++m2,by rw[e2,Array.append_assoc]⟩
 ·obtain⟨m,hn,hl⟩:=I.loc
  refine⟨m,ns m hn,fun i x v e1 e2 e3=>?_⟩
  obtain⟨u,r,l⟩:=hl i x v e1 e2 e3
  refine⟨u,r,?_⟩
  rcases l with l|⟨k,c,e,z⟩
  ·exact .inl l
  ·exact .inr ⟨k,c,e,cellK x c e _ z⟩
 ·obtain⟨v,z⟩:=I.cell x c e
  exact⟨v,cellK x c e v z⟩
 ·obtain⟨m,⟨o,_,_,ho,_⟩,_⟩:=I.loc
  exact free _ o (fun z=>(hch _ z).2.1 rfl) ho I.free
 ·obtain⟨v,o,ho,hd⟩:=I.cell x c e
  exact free c o (fun z=>(hch c z).2.2.1 x c e rfl) ho (I.freeC x c e)
 ·obtain⟨e,n,ne,nf,d⟩:=I.pin p hp
  have nch:p.1 ∉ ch:=fun z=>(hch p.1 z).2.2.2 p hp rfl
  exact⟨keep p.1 p.2 ne nf nch e n,free p.1 p.2 nch e n,ne,nf,d⟩
theorem Inv.un {t':Nat}(I:Inv X pins σ H s)(u:Un X.fs [] H H' s.heap h')(hok:HOk X.prog X.w H' h'):Inv X pins σ H' { s with heap:=h',toks:=t' }:=by
 obtain⟨m,⟨o,es,ep,ho,r⟩,_⟩:=id I.loc
 obtain⟨sl,hL⟩:=u.any ho I.free (by simp)
 exact I.step (g':=s.gens) (d':=s.drawn) (ch:=[]) (fun _ z=>nomatch z) (fun b o _ hb _ e n=>u.keep b o e n hb (by simp)) (fun b o _ hb _ e n=>u.slot b o e n hb (by simp)) (fun b o _ e n=>u.free b o e n (by simp)) (fun b o _ e=>u.there b o e (by simp)) u.tups u.frzs u.tbls (fun m' hm=>by
  obtain⟨o',es',ep',ho',r'⟩:=hm
  rw[ho]at ho';cases ho'
  exact⟨_,es',ep',hL,r'⟩) hok I.bare
theorem Inv.call {g':Array GenState}{t':Nat}{d':Drawn}{ch:List Addr}(I:Inv X pins σ H s)(u:Un (frs X.stack) ch H H' s.heap h')(hok:HOk X.prog X.w H' h')(hg:AllBare g')
  (hch:∀b∈ch,(b∈X.ex∨X.s_0.heap.objs.size<=b)/\b≠X.env.locals/\(∀x c,X.env.cells.lookup x=some c->c≠b)/\∀p∈X.pn++pins,p.1≠b):
  Inv X pins σ H' { s with heap:=h',gens:=g',drawn:=d',toks:=t' }:=by
 obtain⟨m,⟨o,es,ep,ho,r⟩,_⟩:=id I.loc
 obtain⟨sl,hL⟩:=u.any ho I.free fun z=>(hch _ z).2.1 rfl
 exact I.step (ch:=ch) hch (fun b o hL hb hc e n=>u.keep b o e n (fun z=>(List.mem_cons.mp (I.stkSub b z)).elim hL hb) hc) (fun b o _ _ hc e n=>u.any e n hc) (fun b o hc e n=>u.free b o e n hc) (fun b o hc e=>u.there b o e hc) u.tups u.frzs u.tbls (fun m' hm=>by
  obtain⟨o',es',ep',ho',r'⟩:=hm
  rw[ho]at ho';cases ho'
  exact⟨_,es',ep',hL,r'⟩) hok hg
theorem Inv.turned {t':Nat}{it:Addr}(I:Inv X pins σ H s)(k:∀b o,b≠it->s.heap.get? b=some o->h'.get? b=some o)(hn:H it=none)(hL:it≠X.env.locals)
  (h1:it∈X.ex∨X.s_0.heap.objs.size<=it)(h2:∀x c,X.env.cells.lookup x=some c->c≠it)(h3:∀p∈X.pn++pins,p.1≠it):Inv X pins σ H { s with heap:=h',toks:=t' }:=by
 have nit:∀b u,H b=some u->b≠it:=fun b u e z=>by rw[z,hn]at e;cases e
 refine I.step (g':=s.gens) (d':=s.drawn) (ch:=[it]) (fun b hb=>?_) (fun b o _ _ hc e _=>k b o (fun z=>hc (by simp[z])) e) (fun b o _ _ hc e _=>⟨o.slots,k b o (fun z=>hc (by simp[z])) e⟩) (fun _ _ _ _ n=>n)
  (fun b o hc e=>⟨o,k b o (fun z=>hc (by simp[z])) e⟩) (fun _ _ e=>e) (fun _ _ _ e=>e) (fun b ps e=>⟨#[],by rw[e];simp⟩) (fun m hm=>?_) (fun b u e=>?_) I.bare
 ·have e:b=it:=by simpa using hb
  subst e
  exact⟨h1,hL,h2,h3⟩
 ·obtain⟨o,es,ep,ho,r⟩:=hm
  exact⟨o,es,ep,k _ o (Ne.symm hL) ho,r⟩
 ·refine (I.hok b u e).stay (fun c v hc q=>k c v ?_ q) (fun _ q=>q) fun _ _ q=>q
  rcases hc with z|z
  ·rw[z];exact nit b u e
  ·exact nit c _ z
theorem Inv.tok (I:Inv X pins σ H s)(t:Nat):Inv X pins σ H { s with toks:=t }:=I.un (h':=s.heap) (t':=t) Un.refl I.hok
theorem Inv.kept {t':Nat}(I:Inv X pins σ H s)(k:∀b u,s.heap.get? b=some u->h'.get? b=some u):Inv X pins σ H { s with heap:=h',toks:=t' }:=I.un (Un.kept k) (I.hok.kept k)
theorem Inv.laid {a:Addr}{o:HO}{t':Nat}(I:Inv X pins σ H s)(k:∀b u,s.heap.get? b=some u->h'.get? b=some u)(hp:s.heap.objs.size<=a)(new:ObjOk X.prog X.w (upd H a o) h' a o):
  Inv X pins σ (upd H a o) { s with heap:=h',toks:=t' }:=I.un (Un.laid k hp (I.hok.fresh hp)) (I.hok.laid k hp new)
theorem Inv.write {x e:Addr}{o:HO}{t':Nat}(I:Inv X pins σ H s)(mu:Mut (H x))(he:e=x∨H e=some (.own x))(k:∀b u,b≠e->s.heap.get? b=some u->h'.get? b=some u)(heo:∃u,h'.get? e=some u)
  (new:ObjOk X.prog X.w (upd H x o) h' x o):Inv X pins σ (upd H x o) { s with heap:=h',toks:=t' }:=I.un (Un.write mu he k heo) (I.hok.write mu he k heo new)
theorem Inv.weak {σ':List (Option V)}(I:Inv X pins σ H s)(hl:σ'.length=σ.length)(w:∀(i:Nat) v,σ'[i]?=some (some v)->σ[i]?=some (some v)):Inv X pins σ' H s:=
 ⟨I.ok,I.os,I.bare,I.base,let ⟨m,hn,hl'⟩:=I.loc;⟨m,hn,fun i x v e1 e2 e3=>hl' i x v e1 (w i v e2) e3⟩,I.cell,I.free,I.freeC,I.pin,I.hok,hl.trans I.len⟩
theorem Inv.pins_of {pins':List (Addr×Obj)}(I:Inv X pins σ H s)(h:∀p∈pins',s.heap.get? p.1=some p.2/\H p.1=none/\p.1≠X.env.locals/\p.1 ∉ X.fs/\∀v,p.2.data≠.cell v):Inv X pins' σ H s:=
 ⟨I.ok,I.os,I.bare,I.base,I.loc,I.cell,I.free,I.freeC,fun p hp=>(List.mem_append.mp hp).elim (fun z=>I.pin p (List.mem_append_left _ z)) (h p),I.hok,I.len⟩
theorem lD {N:List Str}(hN:N.Nodup){i j:Nat}{x:Str}(a:N[i]?=some x)(b:N[j]?=some x):i=j:=by
 obtain⟨h1,e1⟩:=List.getElem?_eq_some_iff.mp a
 obtain⟨h2,e2⟩:=List.getElem?_eq_some_iff.mp b
 exact (List.getElem_inj hN).mp (e1.trans e2.symm)
theorem nM {M:Model}{A:Around}{E:Value->Shared->Prop}{i:Nat}{x:Str}{v:V}{u:Value}{Q:Unit->Shared->Prop}(I:Inv X pins σ H s)(hN:X.N.Nodup)(hi:X.N[i]?=some x)(hx:Loc X.env.scope x)(r:RelV v u)
  (h:∀s',Inv X pins (σ.set i (some v)) H s'->(∃a,Heap.SameBut a s.heap s'.heap/\(a=X.env.locals∨X.env.cells.lookup x=some a))->Q () s')(hf:X.fn x=true∨X.env.scope.names.lookup x=some .local:=by first|exact .inl rfl|exact .inr rfl|assumption):wpAny M A (storeName X.env x u) Q E s:=by
 obtain⟨m,hn,hl⟩:=id I.loc
 have hcls:(X.env.scope.kind==.class||(X.env.scope.kind==.module&&X.env.locals != X.env.globals))=false:=by rw[I.ok.kind];rfl
 have hiσ:i<σ.length:=by rw[I.len];exact (List.getElem?_eq_some_iff.mp hi).1
 have cne:=I.cne
 have tracked:∀{a:Addr} {h':Heap},(∃o,s.heap.get? a=some o/\H a=none)->Heap.SameBut a s.heap h'->HOk X.prog X.w H h':=fun {a h'} ha hs b ob e=>by
  obtain⟨_,_,hfree⟩:=ha
  refine (I.hok b ob e).stay (fun c w' hc q=>(hs.2 c ?_).trans q) (fun _ q=>q) fun _ _ q=>q
  rintro rfl
  rcases hc with rfl|hc
  ·rw[hfree]at e;cases e
  ·rw[hfree]at hc;cases hc
 rcases hx with hk|hk
 ·refine wpAny_storeName_local hk hn (fun h' hn' hs=>?_) hcls
  obtain⟨oL,_,_,hoL,_⟩:=id hn
  refine h _ ⟨I.ok,I.os,I.bare,⟨fun b o e n hb hx=>?_,fun b o e n hb hx=>?_,I.base.free,fun b o e hx=>?_,I.base.tups,I.base.frzs,I.base.tbls⟩,⟨_,hn',fun j y v' e1 e2 e3=>?_⟩,fun y c e=>?_,I.free,I.freeC,fun p hp=>?_,tracked ⟨oL,hoL,I.free⟩ hs,by simpa using I.len⟩ ⟨_,hs,.inl rfl⟩
  ·exact (hs.2 b (Nat.ne_of_lt (Nat.lt_of_lt_of_le (Heap.lt_size e) I.ok.above))).trans (I.base.keep b o e n hb hx)
  ·obtain⟨sl,e1⟩:=I.base.slot b o e n hb hx
   exact⟨sl,(hs.2 b (Nat.ne_of_lt (Nat.lt_of_lt_of_le (Heap.lt_size e) I.ok.above))).trans e1⟩
  ·obtain⟨o',e1⟩:=I.base.there b o e hx
   exact⟨o',(hs.2 b (Nat.ne_of_lt (Nat.lt_of_lt_of_le (Heap.lt_size e) I.ok.above))).trans e1⟩
  ·by_cases hj:j=i
   ·subst hj
    rw[hi]at e1;cases e1
    rw[List.getElem?_set_self hiσ]at e2
    cases e2
    exact⟨u,r,.inl ⟨hk,by simp⟩⟩
   ·rw[List.getElem?_set_ne (Ne.symm hj)]at e2
    obtain⟨u',r',q⟩:=hl j y v' e1 e2 e3
    refine⟨u',r',?_⟩
    rcases q with ⟨k,e⟩|⟨k,c,e,z⟩
    ·refine .inl ⟨k,?_⟩
     have:y≠x:=fun e=>hj (lD hN e1 (e▸hi))
     simp[this,e]
    ·exact .inr ⟨k,c,e,z.sameBut hs (cne y c e)⟩
  ·obtain⟨w',z⟩:=I.cell y c e
   exact⟨w',z.sameBut hs (cne y c e)⟩
  ·obtain⟨e,n,ne,nf,d⟩:=I.pin p hp
   exact⟨(hs.2 p.1 ne).trans e,n,ne,nf,d⟩
 ·have hfn:X.fn x=true:=by
   rcases hf with z|z
   ·exact z
   ·rw[z]at hk;cases hk
  obtain⟨c,hc⟩:=I.ok.has x (.inl hk)
  obtain⟨w',z⟩:=I.cell x c hc
  refine wpAny_storeName_cell I.ok.kind hk hc z (fun h' hc' hs=>?_)
  obtain⟨oc,hoc,hocd⟩:=id z
  refine h { s with heap:=h' } ⟨I.ok,I.os,I.bare,⟨fun b o e n hb hx=>?_,fun b o e n hb hx=>?_,I.base.free,fun b o e hx=>?_,I.base.tups,I.base.frzs,I.base.tbls⟩,⟨m,hn.sameBut hs (Ne.symm (cne x c hc)),fun j y v' e1 e2 e3=>?_⟩,fun y c' e=>?_,I.free,I.freeC,fun p hp=>?_,tracked ⟨oc,hoc,I.freeC x c hc⟩ hs,by simpa using I.len⟩ ⟨c,hs,.inr hc⟩
  ·exact (hs.2 b (Nat.ne_of_lt (Nat.lt_of_lt_of_le (Heap.lt_size e) (I.ok.cab x c hfn hc)))).trans (I.base.keep b o e n hb hx)
  ·obtain⟨sl,e1⟩:=I.base.slot b o e n hb hx
   exact⟨sl,(hs.2 b (Nat.ne_of_lt (Nat.lt_of_lt_of_le (Heap.lt_size e) (I.ok.cab x c hfn hc)))).trans e1⟩
  ·obtain⟨o',e1⟩:=I.base.there b o e hx
   exact⟨o',(hs.2 b (Nat.ne_of_lt (Nat.lt_of_lt_of_le (Heap.lt_size e) (I.ok.cab x c hfn hc)))).trans e1⟩
  ·by_cases hj:j=i
   ·subst hj
    rw[hi]at e1;cases e1
    rw[List.getElem?_set_self hiσ]at e2
    cases e2
    exact⟨u,r,.inr ⟨.inl hk,c,hc,hc'⟩⟩
   ·rw[List.getElem?_set_ne (Ne.symm hj)]at e2
    obtain⟨u',r',q⟩:=hl j y v' e1 e2 e3
    refine⟨u',r',?_⟩
    rcases q with q|⟨k,c',e,z'⟩
    ·exact .inl q
    ·refine .inr ⟨k,c',e,z'.sameBut hs ?_⟩
     rintro rfl
     exact hj (lD hN e1 (I.ok.inj _ _ _ e hc▸hi))
  ·by_cases hcc:c'=c
   ·subst hcc;exact⟨_,hc'⟩
   ·obtain⟨w2,z2⟩:=I.cell y c' e
    exact⟨w2,z2.sameBut hs hcc⟩
  ·obtain⟨e,n,ne,nf,d⟩:=I.pin p hp
   refine⟨(hs.2 p.1 ?_).trans e,n,ne,nf,d⟩
   intro q
   rw[q,hoc]at e
   have q':oc=p.2:=Option.some.inj e
   exact d w' (by rw[<-q'];exact hocd)
theorem pR {M:Model}{A:Around}{E:Value->Shared->Prop}{i:Nat}{x:Str}{v:V}{u:Value}{Q:Unit->Shared->Prop}(I:Inv X pins σ H s)(hN:X.N.Nodup)(hi:X.N[i]?=some x)(hx:Loc X.env.scope x)(r:RelV v u)
  (h:∀s',Inv X pins (σ.set i (some v)) H s'->Q () s')(hf:X.fn x=true∨X.env.scope.names.lookup x=some .local:=by first|exact .inl rfl|exact .inr rfl|assumption):wpAny M A (storeName X.env x u) Q E s:=
 nM I hN hi hx r (fun s' I' _=>h s' I') hf
theorem Inv.call' {s':Shared}{ch:List Addr}(I:Inv X pins σ H s)(ho:s'.os=s.os)(u:Un (frs X.stack) ch H H' s.heap s'.heap)(hok:HOk X.prog X.w H' s'.heap)(hg:AllBare s'.gens)
  (hch:∀b∈ch,(b∈X.ex∨X.s_0.heap.objs.size<=b)/\b≠X.env.locals/\(∀x c,X.env.cells.lookup x=some c->c≠b)/\∀p∈X.pn++pins,p.1≠b):Inv X pins σ H' s':=by
 obtain⟨h',g',d',t',o'⟩:=s'
 have e:o'=s.os:=ho
 subst e
 exact I.call (g':=g') (t':=t') (d':=d') u hok hg hch
end
abbrev XK:=Value->Option Addr->Hp->Prop
abbrev St:=List (Option V)
abbrev VK:=V->Hp->Prop
abbrev TE:=St->Hp->VK->Prop
abbrev TT:=St->Hp->(Bool->Hp->Prop)->Prop
abbrev TA:=St->Hp->(List V->Hp->Prop)->Prop
structure Ends where
 nx:St->Hp->Prop
 rt:VK
 bk:St->Hp->Prop:=fun _ _=>False
 ct:St->Hp->Prop:=fun _ _=>False
abbrev TS:=Ends->St->Hp->Prop
def EP (X:Cx)(pins:List (Addr×Obj))(σ:St)(Q:VK)(u:Value)(s':Shared):Prop:=∃v H',Inv X pins σ H' s'/\RelV v u/\Q v H'
def TP (X:Cx)(pins:List (Addr×Obj))(σ:St)(Q:Bool->Hp->Prop)(b:Bool)(s':Shared):Prop:=∃H',Inv X pins σ H' s'/\Q b H'
def AP (X:Cx)(pins:List (Addr×Obj))(σ:St)(Q:List V->Hp->Prop)(us:List Value)(s':Shared):Prop:=∃vs H',Inv X pins σ H' s'/\Vals vs us/\Q vs H'
def SP (X:Cx)(pins:List (Addr×Obj))(D:Ends)(f:Flow)(s':Shared):Prop:=
 match f with
 |.next=>∃σ' H',Inv X pins σ' H' s'/\D.nx σ' H'
 |.brk=>∃σ' H',Inv X pins σ' H' s'/\D.bk σ' H'
 |.cont=>∃σ' H',Inv X pins σ' H' s'/\D.ct σ' H'
 |.ret u=>∃v σ' H',Inv X pins σ' H' s'/\RelV v u/\D.rt v H'
def PE (X:Cx)(e:Expr)(t:TE):Prop:=
 ∀(pins:List (Addr×Obj))(s:Shared)(σ:St)(H:Hp)(Q:VK),Inv X pins σ H s->t σ H Q->wpAny (model X.prog X.w) X.A (eval e X.env) (EP X pins σ Q) X.xe s
def PT (X:Cx)(e:Expr)(t:TT):Prop:=
 ∀(pins:List (Addr×Obj))(s:Shared)(σ:St)(H:Hp)(Q:Bool->Hp->Prop),Inv X pins σ H s->t σ H Q->wpAny (model X.prog X.w) X.A (isTrue e X.env (eval e X.env)) (TP X pins σ Q) X.xe s
def PW (X:Cx)(e:Expr)(t:TT):Prop:=
 ∀(whole:Sem Value)(pins:List (Addr×Obj))(s:Shared)(σ:St)(H:Hp)(Q:Bool->Hp->Prop),Inv X pins σ H s->t σ H Q->wpAny (model X.prog X.w) X.A (isTrue e X.env whole) (TP X pins σ Q) X.xe s
theorem PW.pt {X:Cx}{e:Expr}{t:TT}(h:PW X e t):PT X e t:=h _
def PA (X:Cx)(es:List Expr)(t:TA):Prop:=
 ∀(pos:Pos)(pins:List (Addr×Obj))(s:Shared)(σ:St)(H:Hp)(Q:List V->Hp->Prop),Inv X pins σ H s->t σ H Q->wpAny (model X.prog X.w) X.A (spliced (backTo pos (starEach es X.env))) (AP X pins σ Q) X.xe s
def PS (X:Cx)(st:Stmt)(t:TS):Prop:=
 ∀(pins:List (Addr×Obj))(s:Shared)(σ:St)(H:Hp)(D:Ends),Inv X pins σ H s->t D σ H->wpAny (model X.prog X.w) X.A (exec st X.env) (SP X pins D) X.xe s
def PSs (X:Cx)(st:List Stmt)(t:TS):Prop:=
 ∀(pins:List (Addr×Obj))(s:Shared)(σ:St)(H:Hp)(D:Ends),Inv X pins σ H s->t D σ H->wpAny (model X.prog X.w) X.A (execs st X.env) (SP X pins D) X.xe s
theorem thn {α:Type}{t:Sem α}{Q Q':α->Shared->Prop}{M:Model}{A:Around}{E:Value->Shared->Prop}{s:Shared}(h:wpAny M A t Q E s)(hQ:∀a s,Q a s->Q' a s):wpAny M A t Q' E s:=wpAny_mono h hQ fun _ _ x=>x
section
variable {X:Cx}
theorem bin {a b:Expr}{ta tb:TE}(ha:PE X a ta)(hb:PE X b tb){pins:List (Addr×Obj)}{s:Shared}{σ:St}{H:Hp}{R:V->V->Hp->Prop}(I:Inv X pins σ H s)(h:ta σ H fun x H1=>tb σ H1 fun y H2=>R x y H2)
  {α:Type}{Q:α->Shared->Prop}{f:Value->Value->Sem α}
  (hf:∀v u s2 x y H2,Inv X pins σ H2 s2->RelV x v->RelV y u->R x y H2->wpAny (model X.prog X.w) X.A (f v u) Q X.xe s2):
  wpAny (model X.prog X.w) X.A (eval a X.env) (fun v s₁=>wpAny (model X.prog X.w) X.A (eval b X.env) (fun u s₂=>wpAny (model X.prog X.w) X.A (f v u) Q X.xe s₂) X.xe s₁) X.xe s:=by
 refine thn (ha pins s σ H _ I h) fun v s1 ⟨x,H1,I1,r1,q1⟩=>?_
 refine thn (hb pins s1 σ H1 _ I1 q1) fun u s2 ⟨y,H2,I2,r2,q2⟩=>?_
 exact hf v u s2 x y H2 I2 r1 r2 q2
def mY (i:Nat):TE:=fun σ H Q=>∃v,σ[i]?=some (some v)/\Q v H
def tC (v:V):TE:=fun _ H Q=>Q v H
theorem y6 {i:Nat} {x:Str} {pos:Pos} (hN:X.N[i]?=some x) (hv:Vis X.env.scope x) (hd:(x==("__debug__":Str))=false:=by decide) (hcd:(x==("__classdict__":Str))=false:=by decide):PE X (.Name x pos) (mY i):=by
 intro pins s σ H Q I h
 obtain⟨v,e,h⟩:=h
 obtain⟨m,hn,hl⟩:=I.loc
 obtain⟨u,r,l⟩:=hl i x v hN e hv
 have fin:EP X pins σ Q u s:=⟨v,H,I,r,h⟩
 rcases l with ⟨hk,hm⟩|⟨hk,c,hc,hcell⟩
 ·exact wpAny_Name (wpAny_loadName_local I.ok.kind hk hn hm fin) hd
 ·rcases hk with hk|hk
  ·exact wpAny_Name (wpAny_loadName_cell I.ok.kind hk hc hcell fin) hd
  ·exact wpAny_Name (wpAny_loadName_free I.ok.kind hk hc hcell fin hcd) hd
theorem au {i j pos}:PE X (.Constant (.int i) j pos) (tC (.int i)):=fun _ _ _ H _ I h=>wpAny_Constant_int ⟨.int i,H,I.tok _,⟨_,rfl⟩,h⟩
theorem mS {b j pos}:PE X (.Constant (.bool b) j pos) (tC (.bl b)):=fun _ _ _ H _ I h=>Constant_bool ⟨.bl b,H,I,rfl,h⟩
theorem dE {j pos}:PE X (.Constant .none j pos) (tC .non):=fun _ _ _ H _ I h=>Constant_none ⟨.non,H,I,rfl,h⟩
theorem d6 {x j pos}:PE X (.Constant (.str x) j pos) (tC (.str x)):=fun _ _ _ H _ I h=>Calls.Constant_str ⟨.str x,H,I.tok _,⟨_,rfl⟩,h⟩
def Gl (X:Cx)(x:Str):Prop:=X.env.kindOf x=some .globalImplicit
theorem i8 {E:Value->Shared->Prop}{pins:List (Addr×Obj)}{s:Shared}{σ:St}{H:Hp}{x:Str}{u:Value}{pos:Pos}{Q:Value->Shared->Prop}(I:Inv X pins σ H s)(hg:Gl X x)(hm:X.mg x=some u)(h:Q u s)
  (hd:(x==("__debug__":Str))=false:=by decide):wpAny (model X.prog X.w) X.A (eval (.Name x pos) X.env) Q E s:=
 Calls.Name_function_global I.ok.kind hg (Calls.loadGlobal_global (by rw[I.ok.glob];exact I.mod.glob.keeps I.bk) hm h) hd
theorem i7 {E:Value->Shared->Prop}{pins:List (Addr×Obj)}{s:Shared}{σ:St}{H:Hp}{x:Str}{u:Value}{pos:Pos}{Q:Value->Shared->Prop}(I:Inv X pins σ H s)(hg:Gl X x)(hm:X.mg x=none)(hv:bootBuiltins x=some u)(h:Q u s)
  (hn:x≠"__name__":=by decide) (hd:(x==("__debug__":Str))=false:=by decide):wpAny (model X.prog X.w) X.A (eval (.Name x pos) X.env) Q E s:=by
 obtain⟨mb,h1,h2⟩:=I.mod.blt
 exact Calls.Name_function_global I.ok.kind hg (Calls.loadGlobal_builtin (by rw[I.ok.glob];exact I.mod.glob.keeps I.bk) hm (by rw[I.ok.blt];exact h1.keeps I.bk) ((h2 x hn).trans hv) h) hd
theorem xY {x:Str} {v:V} {u:Value} {pos:Pos} (hg:Gl X x) (hm:X.mg x=some u) (r:RelV v u) (hd:(x==("__debug__":Str))=false:=by decide):PE X (.Name x pos) (tC v):=
 fun _ _ _ H _ I h=>i8 I hg hm ⟨v,H,I,r,h⟩ hd
variable {a b:Expr}{ta tb:TE}{pos:Pos}
def PC (X:Cx)(op:CmpOp)(a b:Expr)(t:TE):Prop:=
 ∀(pins:List (Addr×Obj))(s:Shared)(σ:St)(H:Hp)(Q:VK),Inv X pins σ H s->t σ H Q->
  wpAny (model X.prog X.w) X.A (eval a X.env) (fun v s₁=>wpAny (model X.prog X.w) X.A (eval b X.env) (fun u s₂=>wpAny (model X.prog X.w) X.A (compareOp op v u) (EP X pins σ Q) X.xe s₂) X.xe s₁) X.xe s
theorem qL (b:Expr){op:CmpOp}(h:op≠.In)(h2:op≠.NotIn):behindInMarks op b=false:=by
 have e1:(op==CmpOp.In)=false:=by cases op<;>first|rfl|exact absurd rfl h
 have e2:(op==CmpOp.NotIn)=false:=by cases op<;>first|rfl|exact absurd rfl h2
 cases b<;>simp[behindInMarks,e1,e2]
def z6 (ta:TE):TE:=fun σ H Q=>ta σ H fun x H1=>Q (.bl (decide (x=.non))) H1
def zB (ta:TE):TE:=fun σ H Q=>ta σ H fun x H1=>Q (.bl (!decide (x=.non))) H1
theorem RelV.none_iff {x:V}{v:Value}(r:RelV x v):(v==Value.none)=decide (x=.non):=by
 cases x with
 |non=>cases r;rfl
 |bl _=>cases r;rfl
 |int _=>obtain⟨t,rfl⟩:=r;rfl
 |str _=>obtain⟨t,rfl⟩:=r;rfl
 |byt _=>obtain⟨t,rfl⟩:=r;rfl
 |flt _=>obtain⟨t,rfl⟩:=r;rfl
 |ref _=>cases r;rfl
 |ty _=>cases r;rfl
theorem jd {j pos'}(ha:PE X a ta):PC X .Is a (.Constant .none j pos') (z6 ta):=by
 intro pins s σ H Q I h
 refine thn (ha pins s σ H _ I h) fun v s1 ⟨x,H1,I1,r1,q1⟩=>?_
 exact Constant_none (is_none_gen ⟨.bl _,H1,I1,by rw[r1.none_iff];rfl,q1⟩)
theorem yq {j pos'}(ha:PE X a ta):PC X .IsNot a (.Constant .none j pos') (zB ta):=by
 intro pins s σ H Q I h
 refine thn (ha pins s σ H _ I h) fun v s1 ⟨x,H1,I1,r1,q1⟩=>?_
 exact Constant_none (isnot_none_gen ⟨.bl _,H1,I1,by rw[r1.none_iff];rfl,q1⟩)
def tB (t:TE):TT:=fun σ H Q=>t σ H fun x H1=>∃c,x=.bl c/\Q c H1
theorem vh {op:CmpOp}{t:TE}(h:PC X op a b t)(h1:behindInMarks op b=false:=by first|exact qL _ (by decide) (by decide)|rfl):PE X (.Compare a [op] [b] pos) t:=fun pins s σ H Q I hw=>wpAny_Compare1 (h pins s σ H Q I hw) h1
theorem cH {op:CmpOp}{t:TE}(h:PC X op a b t)(h1:behindInMarks op b=false:=by first|exact qL _ (by decide) (by decide)|rfl):PT X (.Compare a [op] [b] pos) (tB t):=by
 intro pins s σ H Q I hw
 refine wpAny_isTrue_Compare1 (thn (h pins s σ H _ I hw) fun v s1 h1=>thn h1 fun u s2 h2=>thn h2 fun c s3 ⟨x,H1,I1,r1,q1⟩=>?_) h1
 obtain⟨d,rfl,q⟩:=q1
 cases r1
 exact wpAny_truthy_bool ⟨H1,I1,q⟩
theorem bE {e:Expr}{t:TE}(h:PE X e t)(he:∀whole,isTrue e X.env whole=(do let v <-whole;standAt e.pos;holding [v] (truthy v)):=by intro _;rfl):PT X e (tB t):=by
 intro pins s σ H Q I hw
 refine isTrue_plain (thn (h pins s σ H _ I hw) fun v s1 ⟨x,H1,I1,r1,q1⟩=>?_) (he _)
 obtain⟨d,rfl,q⟩:=q1
 cases r1
 exact wpAny_truthy_bool ⟨H1,I1,q⟩
variable {tA tB':TT}{rest:List Expr}
def zX (t u:TT):TT:=fun σ H Q=>t σ H fun c H1=>if c=true then u σ H1 Q else Q false H1
def tOr (t u:TT):TT:=fun σ H Q=>t σ H fun c H1=>if c=true then Q true H1 else u σ H1 Q
def zO (t:TT):TT:=fun σ H Q=>t σ H fun c H1=>Q (!c) H1
theorem eM (ha:PT X a tA):PW X (.BoolOp .And [a] pos) tA:=by
 intro wh pins s σ H Q I h
 refine isTrue_and (thn (ha pins s σ H Q I h) fun c s1 e=>?_)
 cases c with
 |true=>exact isTrue_and_nil e
 |false=>exact e
theorem di (ha:PT X a tA):PW X (.BoolOp .Or [a] pos) tA:=by
 intro wh pins s σ H Q I h
 refine isTrue_or (thn (ha pins s σ H Q I h) fun c s1 e=>?_)
 cases c with
 |false=>exact isTrue_or_nil e
 |true=>exact e
theorem eY (ha:PT X a tA)(hb:PW X (.BoolOp .And (b :: rest) pos) tB'):PW X (.BoolOp .And (a :: b :: rest) pos) (zX tA tB'):=by
 intro wh pins s σ H Q I h
 refine isTrue_and (thn (ha pins s σ H _ I h) fun c s1 ⟨H1,I1,q1⟩=>?_)
 cases c with
 |true=>exact hb wh pins s1 σ H1 Q I1 q1
 |false=>exact⟨H1,I1,q1⟩
theorem dM (ha:PT X a tA)(hb:PW X (.BoolOp .Or (b :: rest) pos) tB'):PW X (.BoolOp .Or (a :: b :: rest) pos) (tOr tA tB'):=by
 intro wh pins s σ H Q I h
 refine isTrue_or (thn (ha pins s σ H _ I h) fun c s1 ⟨H1,I1,q1⟩=>?_)
 cases c with
 |true=>exact⟨H1,I1,q1⟩
 |false=>exact hb wh pins s1 σ H1 Q I1 q1
theorem eV (ha:PT X a tA):PT X (.UnaryOp .Not a pos) (zO tA):=by
 intro pins s σ H Q I h
 exact isTrue_not (ha pins s σ H (fun c H1=>Q (!c) H1) I h)
end
def SqL (K:PySem.W.Frag)(H:Hp)(a:Addr)(xs:List V):Prop:=
 Rd H a (.lst xs) ∨
  ∃(o:Obj)(its:Array Value)(n:Nat),K.lookup a=some o/\o.cls=.type "list"/\o.dict=none/\o.data=.seq its n/\its.size<=sizeLine/\Vals xs its.toList
def SqT (K:PySem.W.Frag)(H:Hp)(a:Addr)(xs:List V):Prop:=
 Rd H a (.tup xs) ∨
  ∃(o:Obj)(its:Array Value)(n:Nat),K.lookup a=some o/\o.cls=.type "tuple"/\o.data=.seq its n/\its.size<=sizeLine/\Vals xs its.toList
def zN:Value->Option V
 |.none=>some .non
 |.bool b=>some (.bl b)
 |.int i _=>some (.int i)
 |.str x _=>some (.str x)
 |.bytes b _=>some (.byt b)
 |.float b _=>some (.flt b)
 |.ref a=>some (.ref a)
 |.type n=>some (.ty n)
 |_=>none
theorem RelV.abs {x:V}{u:Value}(r:RelV x u):zN u=some x:=by
 cases x with
 |non=>cases r;rfl
 |bl _=>cases r;rfl
 |int _=>obtain⟨t,rfl⟩:=r;rfl
 |str _=>obtain⟨t,rfl⟩:=r;rfl
 |byt _=>obtain⟨t,rfl⟩:=r;rfl
 |flt _=>obtain⟨t,rfl⟩:=r;rfl
 |ref _=>cases r;rfl
 |ty _=>cases r;rfl
theorem RelV.inj {x y:V}{u:Value}(r:RelV x u)(q:RelV y u):x=y:=Option.some.inj (r.abs.symm.trans q.abs)
theorem Vals.inj:∀{xs ys:List V} {us:List Value},Vals xs us->Vals ys us->xs=ys
 |_,_,_,.nil,.nil=>rfl
 |_,_,_,.cons r t,.cons r' t'=>by rw[r.inj r',Vals.inj t t']
section
variable {X:Cx}{pins:List (Addr×Obj)}{σ:St}{H:Hp}{s:Shared}{a:Addr}{xs ys:List V}
theorem SqL.of {K:PySem.W.Frag}(h:H a=some (.lst xs)):SqL K H a xs:=.inl (.inl h)
theorem SqT.of {K:PySem.W.Frag}(h:H a=some (.tup xs)):SqT K H a xs:=.inl (.inl h)
theorem Inv.list (I:Inv X pins σ H s)(h:SqL X.K H a xs):∃its:List Value,Vals xs its/\PlainL s.heap a its.toArray/\xs.length<=sizeLine:=by
 rcases h with h|⟨o,its,n,hk,hc,hd,hs,hz,r⟩
 ·obtain⟨z,its,n,r,e⟩:=h.ok I.hok
  exact⟨its,r,⟨_,n,e,rfl,rfl,rfl⟩,z⟩
 ·refine⟨its.toList,r,⟨o,n,I.kIn a o hk,hc,hd,by simpa using hs⟩,?_⟩
  have e:=r.length
  simp only[Array.length_toList]at e
  omega
theorem Inv.tuple (I:Inv X pins σ H s)(h:SqT X.K H a xs):∃its:List Value,Vals xs its/\IsTup s.heap a its.toArray/\xs.length<=sizeLine:=by
 rcases h with h|⟨o,its,n,hk,hc,hs,hz,r⟩
 ·obtain⟨z,its,r,p⟩:=h.ok I.hok
  exact⟨its,r,p,z⟩
 ·refine⟨its.toList,r,⟨o,I.kIn a o hk,hc,n,by simpa using hs⟩,?_⟩
  have e:=r.length
  simp only[Array.length_toList]at e
  omega
theorem Inv.list_inj (I:Inv X pins σ H s)(h:SqL X.K H a xs)(h':SqL X.K H a ys):xs=ys:=by
 obtain⟨its,r,⟨o,n,e,_,_,d⟩,_⟩:=I.list h
 obtain⟨its',r',⟨o',n',e',_,_,d'⟩,_⟩:=I.list h'
 rw[e]at e';cases e'
 rw[d]at d'
 injection d' with d1 _
 have:its=its':=by simpa using congrArg Array.toList d1
 subst this
 exact r.inj r'
theorem Inv.tuple_inj (I:Inv X pins σ H s)(h:SqT X.K H a xs)(h':SqT X.K H a ys):xs=ys:=by
 obtain⟨its,r,⟨o,e,_,n,d⟩,_⟩:=I.tuple h
 obtain⟨its',r',⟨o',e',_,n',d'⟩,_⟩:=I.tuple h'
 rw[e]at e';cases e'
 rw[d]at d'
 injection d' with d1 _
 have:its=its':=by simpa using congrArg Array.toList d1
 subst this
 exact r.inj r'
end
abbrev Cx.wish (X:Cx)(E:Value->Shared->Prop):Cx:={ X with xe:=E }
abbrev Cx.nox (X:Cx):Cx:=X.wish fun _ _=>False
theorem Cx.Ok.wish {X:Cx}(ok:X.Ok)(E:Value->Shared->Prop):(X.wish E).Ok:=
 ⟨ok.mod,ok.kind,ok.glob,ok.blt,ok.above,ok.inj,ok.has,ok.cab,ok.hd,ok.frames,ok.stk,ok.exf,ok.bs,ok.bsz,ok.noex,ok.exfs,ok.funs,ok.frf⟩
theorem Cx.Ok.unwish {X:Cx}{E:Value->Shared->Prop}(ok:(X.wish E).Ok):X.Ok:=
 ⟨ok.mod,ok.kind,ok.glob,ok.blt,ok.above,ok.inj,ok.has,ok.cab,ok.hd,ok.frames,ok.stk,ok.exf,ok.bs,ok.bsz,ok.noex,ok.exfs,ok.funs,ok.frf⟩
section
variable {X:Cx}{pins:List (Addr×Obj)}{σ:St}{H:Hp}{s:Shared}{E:Value->Shared->Prop}
theorem Inv.wish (I:Inv X pins σ H s)(E:Value->Shared->Prop):Inv (X.wish E) pins σ H s:=⟨I.ok.wish E,I.os,I.bare,I.base,I.loc,I.cell,I.free,I.freeC,I.pin,I.hok,I.len⟩
theorem Inv.unwish (I:Inv (X.wish E) pins σ H s):Inv X pins σ H s:=⟨I.ok.unwish,I.os,I.bare,I.base,I.loc,I.cell,I.free,I.freeC,I.pin,I.hok,I.len⟩
theorem SP.unwish {D:Ends}{f:Flow}{s':Shared}(h:SP (X.wish E) pins D f s'):SP X pins D f s':=by
 cases f with
 |next=>obtain⟨σ',H',I,q⟩:=h;exact⟨σ',H',I.unwish,q⟩
 |brk=>obtain⟨σ',H',I,q⟩:=h;exact⟨σ',H',I.unwish,q⟩
 |cont=>obtain⟨σ',H',I,q⟩:=h;exact⟨σ',H',I.unwish,q⟩
 |ret u=>obtain⟨v,σ',H',I,r,q⟩:=h;exact⟨v,σ',H',I.unwish,r,q⟩
theorem PE.nox {e:Expr}{t:TE}(h:PE X.nox e t):PE X e t:=fun pins s σ H Q I hw=>
 wpAny_mono (h pins s σ H Q (I.wish _) hw) (fun _ _ ⟨v,H',I',r,q⟩=>⟨v,H',I'.unwish,r,q⟩) fun _ _ z=>False.elim z
theorem PT.nox {e:Expr}{t:TT}(h:PT X.nox e t):PT X e t:=fun pins s σ H Q I hw=>
 wpAny_mono (h pins s σ H Q (I.wish _) hw) (fun _ _ ⟨H',I',q⟩=>⟨H',I'.unwish,q⟩) fun _ _ z=>False.elim z
theorem PSs.nox {st:List Stmt}{t:TS}(h:PSs X.nox st t):PSs X st t:=fun pins s σ H D I hw=>
 wpAny_mono (h pins s σ H D (I.wish _) hw) (fun _ _ q=>q.unwish) fun _ _ z=>False.elim z
end
section
variable {X:Cx}{st:Stmt}{rest:List Stmt}{t u:TS}{e:Expr}{te:TE}{pos:Pos}
def zK:TS:=fun D σ H=>D.nx σ H
def Ab (t u:TS):TS:=fun D σ H=>t { D with nx:=u D } σ H
theorem aF:PSs X [] zK:=fun _ _ σ H _ I h=>wpAny_execs_nil ⟨σ,H,I,h⟩
theorem ag (h1:PS X st t)(h2:PSs X rest u):PSs X (st :: rest) (Ab t u):=by
 intro pins s σ H D I h
 refine wpAny_execs_cons (thn (h1 pins s σ H { D with nx:=u D } I h) fun f s1 q=>?_)
 cases f with
 |next=>
  obtain⟨σ',H',I',q⟩:=q
  exact h2 pins s1 σ' H' D I' q
 |ret v=>exact q
 |brk=>exact q
 |cont=>exact q
theorem aj (h1:PS X st t):PSs X [st] t:=by
 intro pins s σ H D I h
 refine wpAny_execs_cons (thn (h1 pins s σ H D I h) fun f s1 q=>?_)
 cases f with
 |next=>exact wpAny_execs_nil q
 |ret v=>exact q
 |brk=>exact q
 |cont=>exact q
theorem Inv.quiet {pins:List (Addr×Obj)}{σ:St}{H:Hp}{s:Shared}(I:Inv X pins σ H s):interactive X.env=false:=by simp[interactive,I.ok.kind]
def zJ (te:TE):TS:=fun D σ H=>te σ H fun _ H1=>D.nx σ H1
theorem cN (he:PE X e te)(hs:swapsWith e none pos.line X.env=pure false:=by rfl):PS X (.Expr e pos) (zJ te):=by
 intro pins s σ H D I h
 exact wpAny_Expr_any (thn (he pins s σ H _ I h) fun v s1 ⟨x,H1,I1,r1,q1⟩=>⟨σ,H1,I1,q1⟩) I.quiet hs
def z0 (te:TE):TS:=fun D σ H=>te σ H D.rt
theorem al (he:PE X e te):PS X (.Return (some e) pos) (z0 te):=by
 intro pins s σ H D I h
 exact wpAny_Return_some (thn (he pins s σ H _ I h) fun v s1 ⟨x,H1,I1,r1,q1⟩=>⟨x,σ,H1,I1,r1,q1⟩)
def z8 (c:TT)(t u:TS):TS:=fun D σ H=>c σ H fun b H1=>if b=true then t D σ H1 else u D σ H1
theorem aV {c:Expr}{a b:List Stmt}{tc:TT}(hc:PT X c tc)(ha:PSs X a t)(hb:PSs X b u):PS X (.If c a b pos) (z8 tc t u):=by
 intro pins s σ H D I h
 refine wpAny_If (thn (hc pins s σ H _ I h) fun d s1 ⟨H1,I1,q1⟩=>?_)
 cases d with
 |true=>exact ha pins s1 σ H1 D I1 q1
 |false=>exact hb pins s1 σ H1 D I1 q1
end
abbrev TG:=V->St->Hp->(St->Hp->Prop)->Prop
abbrev TGs:=List V->St->Hp->(St->Hp->Prop)->Prop
def PG (X:Cx)(target:Expr)(t:TG):Prop:=
 ∀(pins:List (Addr×Obj))(s:Shared)(σ:St)(H:Hp)(v:V)(u:Value)(Q:St->Hp->Prop),Inv X pins σ H s->RelV v u->t v σ H Q->
  wpAny (model X.prog X.w) X.A (assign target X.env u) (fun _ s'=>∃σ' H',Inv X pins σ' H' s'/\Q σ' H') X.xe s
def PGs (X:Cx)(ts:List Expr)(t:TGs):Prop:=
 ∀(pins:List (Addr×Obj))(s:Shared)(σ:St)(H:Hp)(vs:List V)(us:List Value)(Q:St->Hp->Prop),Inv X pins σ H s->Vals vs us->t vs σ H Q->
  wpAny (model X.prog X.w) X.A (assignInOrder ((assignEach ts X.env).map (·.2)) us) (fun _ s'=>∃σ' H',Inv X pins σ' H' s'/\Q σ' H') X.xe s
abbrev wW:=V->V->V->Hp->(Hp->Prop)->Prop
def yS (X:Cx)(t:wW):Prop:=
 ∀(pins:List (Addr×Obj))(s:Shared)(σ:St)(H:Hp)(o i v:V)(ov iv u:Value)(Q:Hp->Prop),Inv X pins σ H s->RelV o ov->RelV i iv->RelV v u->t o i v H Q->
  wpAny (model X.prog X.w) X.A (setItem ov iv u) (fun _ s'=>∃H',Inv X pins σ H' s'/\Q H') X.xe s
section
variable {X:Cx}{pos:Pos}
def fi (i:Nat):TG:=fun v σ H Q=>Q (σ.set i (some v)) H
theorem aw {i:Nat}{x:Str}(hN:X.N.Nodup)(hi:X.N[i]?=some x)(hx:Loc X.env.scope x)(hf:X.fn x=true∨X.env.scope.names.lookup x=some .local:=by first|exact .inl rfl|exact .inr rfl|assumption):PG X (.Name x pos) (fi i):=by
 intro pins s σ H v u Q I r h
 exact wpAny_assign_Name (pR I hN hi hx r (fun s' I'=>⟨_,H,I',h⟩) hf)
def wg:TGs:=fun vs σ H Q=>vs=[]/\Q σ H
def ml (t:TG)(u:TGs):TGs:=fun vs σ H Q=>∃v r,vs=v :: r/\t v σ H fun σ' H'=>u r σ' H' Q
theorem dO:PGs X [] wg:=by
 intro pins s σ H vs us Q I r h
 obtain⟨e,h⟩:=h
 subst e
 cases r
 exact assignInOrder_nil ⟨σ,H,I,h⟩
theorem bw {e:Expr}{es:List Expr}{t:TG}{u:TGs}(h1:PG X e t)(h2:PGs X es u)
  (hs:(assignEach (e :: es) X.env).map (·.2)=assign e X.env :: (assignEach es X.env).map (·.2):=by rfl):PGs X (e :: es) (ml t u):=by
 intro pins s σ H vs us Q I r h
 obtain⟨v,vr,e1,h⟩:=h
 subst e1
 cases r with
 |cons r rr=>
  rw[hs]
  refine assignInOrder_cons (thn (h1 pins s σ H _ _ _ I r h) fun _ s1 ⟨σ1,H1,I1,q1⟩=>?_)
  exact h2 pins s1 σ1 H1 _ _ Q I1 rr q1
def tO (K:PySem.W.Frag)(n:Nat)(t:TGs):TG:=fun v σ H Q=>∃a xs,v=.ref a/\SqT K H a xs/\xs.length=n/\t xs σ H Q
theorem iY {es:List Expr}{k:Nat}{t:TGs}{n:Nat}(hc:X.calm=true)(h:PGs X es t)
  (hn:(assignEach es X.env).length=n:=by rfl)(hst:(assignEach es X.env).findIdx? (·.1)=none:=by rfl):PG X (.Tuple es k pos) (tO X.K n t):=by
 intro pins s σ H v u Q I r hw
 obtain⟨a,xs,e1,hq,hl,hw⟩:=hw
 subst e1
 cases r
 obtain⟨its,rv,ht,hz⟩:=I.tuple hq
 refine assign_Tuple_tuple (I.ok.hd hc) ht (by simp[hn,<-hl,rv.length]) hst fun h' hx=>?_
 have I1:Inv X pins σ H { s with heap:=h' }:=I.kept (t':=s.toks) fun b o e=>hx b o (Nat.ne_of_lt (Heap.lt_size e)) e
 exact h pins _ σ H xs _ Q I1 (by simpa using rv) hw
def Ac (to ti:TE)(t:wW):TG:=fun v σ H Q=>to σ H fun o H1=>ti σ H1 fun i H2=>t o i v H2 fun H3=>Q σ H3
theorem yE {o i:Expr}{to ti:TE}{t:wW}(ho:PE X o to)(hi:PE X i ti)(hs:yS X t)
  (ha:∀v,assign (.Subscript o i pos) X.env v=(do
   let ov <-holding [v] (eval o X.env)
   let iv <-holding [v,ov] (eval i X.env)
   standAt pos
   holding [v,ov,iv] (setItem ov iv v)
   release [v,ov,iv] []):=by intro _;rfl):PG X (.Subscript o i pos) (Ac to ti t):=by
 intro pins s σ H v u Q I r h
 rw[ha]
 refine wpAny_bind (wpAny_holding (thn (ho pins s σ H _ I h) fun ov s1 ⟨x,H1,I1,r1,q1⟩=>?_))
 refine wpAny_bind (wpAny_holding (thn (hi pins s1 σ H1 _ I1 q1) fun iv s2 ⟨y,H2,I2,r2,q2⟩=>?_))
 refine wpAny_bind (wpAny_standAt (wpAny_bind (wpAny_holding (thn (hs pins s2 σ H2 x y v ov iv u _ I2 r1 r2 r q2) fun _ s3 ⟨H3,I3,q3⟩=>?_))))
 exact wpAny_release ⟨σ,H3,I3,q3⟩
def xi (te:TE)(g:TG):TS:=fun D σ H=>te σ H fun x H1=>g x σ H1 D.nx
theorem yU {tg e:Expr}{te:TE}{g:TG}(he:PE X e te)(hg:PG X tg g)(hs:swapsWithSole [tg] e pos.line X.env=pure false:=by rfl)(hw:swappedStores [tg] e X.env=pure none:=by rfl)
  (h1:(assignEach [tg] X.env).map (·.2)=[assign tg X.env]:=by rfl):PS X (.Assign [tg] e pos) (xi te g):=by
 intro pins s σ H D I h
 refine wpAny_Assign_stores (thn (he pins s σ H _ I h) fun v s1 ⟨x,H1,I1,r1,q1⟩=>?_) hs hw
 rw[h1]
 exact thn (hg pins s1 σ H1 x v _ I1 r1 q1) fun _ s2 q=>q
theorem ap {i:Nat}{x:Str}{e:Expr}{te:TE}{pos':Pos}(hN:X.N.Nodup)(hi:X.N[i]?=some x)(hx:Loc X.env.scope x)(he:PE X e te)(hs:swapsWith e (some (.Name x pos')) pos.line X.env=pure false:=by rfl)(hf:X.fn x=true∨X.env.scope.names.lookup x=some .local:=by first|exact .inl rfl|exact .inr rfl|assumption):
  PS X (.Assign [.Name x pos'] e pos) (xi te (fi i)):=by
 intro pins s σ H D I h
 refine wpAny_Assign_Name (thn (he pins s σ H _ I h) fun v s1 ⟨y,H1,I1,r1,q1⟩=>?_) hs
 exact pR I1 hN hi hx r1 (fun s2 I2=>⟨_,H1,I2,q1⟩) hf
end
section
variable {X:Cx}{pos:Pos}
def uY (c:TT)(tb:TS):TS:=fun D σ H=>∃W:Nat->St->Hp->Prop,(∃m,W m σ H)/\∀m σ H,W m σ H->
 c σ H fun b H1=>if b=true then ∃N:St->Hp->Prop,(∀σ' H',N σ' H'->∃m',m'<m/\W m' σ' H')/\tb { D with nx:=N,ct:=N,bk:=D.nx } σ H1 else D.nx σ H1
theorem fE {c:Expr}{body:List Stmt}{tc:TT}{tb:TS}(hp:PassesOwn (model X.prog X.w) X.A X.env X.xe)(hc:PT X c tc)(hb:PSs X body tb):PS X (.While c body [] pos) (uY tc tb):=by
 intro pins s σ H D I h
 obtain⟨W,⟨m0,w0⟩,bx⟩:=h
 refine wpAny_While (codeAny_whileLoop (fun n s'=>∃σ' H',Inv X pins σ' H' s'/\W n σ' H') ?_ m0 ⟨σ,H,I,w0⟩)
 rintro n s1 ⟨σ1,H1,I1,w1⟩
 refine wpAny_passesOwn hp (thn (hc pins s1 σ1 H1 _ I1 (bx n σ1 H1 w1)) fun b s2 ⟨H2,I2,q2⟩=>?_)
 cases b with
 |true=>
  obtain⟨N,hN,q2⟩:=q2
  rw[if_pos rfl]
  refine wpAny_passesOwn hp (thn (hb pins s2 σ1 H2 _ I2 q2) fun f s3 q3=>?_)
  cases f with
  |next=>
   obtain⟨σ3,H3,I3,n3⟩:=q3
   obtain⟨m',hm,w3⟩:=hN σ3 H3 n3
   exact⟨m',hm,σ3,H3,I3,w3⟩
  |cont=>
   obtain⟨σ3,H3,I3,n3⟩:=q3
   obtain⟨m',hm,w3⟩:=hN σ3 H3 n3
   exact⟨m',hm,σ3,H3,I3,w3⟩
  |brk=>exact q3
  |ret v=>exact q3
 |false=>
  rw[if_neg Bool.false_ne_true]
  exact wpAny_execs_nil ⟨σ1,H2,I2,q2⟩
end
structure It where
 go:Nat->Hp->Prop
 yld:Nat->Hp->V->Hp->Prop
 stop:Nat->Hp->Prop
def cI (X:Cx)(pins:List (Addr×Obj))(H:Hp)(b:Addr):Prop:=
 H b=none/\b≠X.env.locals/\b ∉ X.fs/\(b∈X.ex∨X.s_0.heap.objs.size<=b)/\(∀x c,X.env.cells.lookup x=some c->c≠b)/\∀p∈X.pn++pins,p.1≠b
theorem Inv.fpOk {X:Cx}{pins:List (Addr×Obj)}{σ:St}{H H':Hp}{s:Shared}{b:Addr}(I:Inv X pins σ H s)(hb:s.heap.objs.size<=b)(hn:H' b=none):cI X pins H' b:=by
 refine⟨hn,Nat.ne_of_gt (Nat.lt_of_lt_of_le I.lt hb),I.nofs hb,.inr (Nat.le_trans I.sz hb),fun x c e z=>?_,fun p hp z=>?_⟩
 ·obtain⟨v,q⟩:=I.cell x c e
  exact absurd (Nat.lt_of_lt_of_le q.lt (by rw[z];exact hb)) (Nat.lt_irrefl _)
 ·exact absurd (Nat.lt_of_lt_of_le (Heap.lt_size (I.pin p hp).1) (by rw[z];exact hb)) (Nat.lt_irrefl _)
structure Turn (P:Program)(w:World)(K:PySem.W.Frag)(tg:Expr)(J:It)(fp:List Addr)(it:Addr)(tn:Nat->Heap->Prop):Prop where
 mem:it∈fp
 obj:∀i h,tn i h->∀b∈fp,∃o,h.get? b=some o/\∀v,o.data≠.cell v
 keep:∀i h h',tn i h->(∀b∈fp,∀o,h.get? b=some o->h'.get? b=some o)->tn i h'
 item:∀(X:Cx),X.prog=P->X.w=w->X.K=K->X.calm=true->∀(i:Nat)(pins:List (Addr×Obj))(s:Shared)(σ:St)(H:Hp)(E:Value->Shared->Prop),Inv X pins σ H s->(∀b∈fp,cI X pins H b)->tn i s.heap->J.go i H->
  wpAny (model P w) X.A (pyNext (.ref it)) (fun r s1=>∃u,r=some u/\
   wpAny (model P w) X.A (letOwnedTupleGo tg (.ref it) u) (fun _ s2=>∃x H',Inv X pins σ H' s2/\RelV x u/\J.yld i H x H'/\tn (i+1) s2.heap/\∀b∈fp,H' b=none) E s1) E s
 done:∀(X:Cx),X.prog=P->X.w=w->X.K=K->X.calm=true->∀(i:Nat)(pins:List (Addr×Obj))(s:Shared)(σ:St)(H:Hp)(E:Value->Shared->Prop),Inv X pins σ H s->(∀b∈fp,cI X pins H b)->tn i s.heap->J.stop i H->
  wpAny (model P w) X.A (pyNext (.ref it)) (fun r s1=>r=none/\Inv X pins σ H s1) E s
 self:∀(A:Around)(i:Nat)(s:Shared)(Q:Value->Shared->Prop)(E:Value->Shared->Prop),tn i s.heap->Q (.ref it) s->wpAny (model P w) A (pyIter (.ref it)) Q E s
abbrev TI:=St->Hp->(It->Hp->Prop)->Prop
def PIE (X:Cx)(pins:List (Addr×Obj))(σ:St)(tg:Expr)(R:It->Hp->Prop)(itv:Value)(s2:Shared):Prop:=
 ∃(it:Addr)(fp:List Addr)(tn:Nat->Heap->Prop)(J:It)(H':Hp),itv=.ref it/\Inv X pins σ H' s2/\Turn X.prog X.w X.K tg J fp it tn/\tn 0 s2.heap/\(∀b∈fp,cI X pins H' b)/\R J H'
def PI (X:Cx)(tg bA:Expr)(wi:TI):Prop:=
 ∀(pins:List (Addr×Obj))(s:Shared)(σ:St)(H:Hp)(R:It->Hp->Prop),Inv X pins σ H s->wi σ H R->
  wpAny (model X.prog X.w) X.A (eval bA X.env) (fun v s1=>wpAny (model X.prog X.w) X.A (pyIter v) (PIE X pins σ tg R) X.xe s1) X.xe s
theorem jq {M : Model} {A : Around} {E : Value → Shared → Prop} {s : Shared} {tg : Expr} {it : Addr} {u : Value} {o : Obj} {n : String} {vs : Array Value} {Q : Unit → Shared → Prop} (ho : s.heap.get? it = some o) (hc : o.cls = .type n) (hd : o.data = .fields vs)
    (hn : ["enumerate", "zip", "dict_itemiterator", "dict_reverseitemiterator", "odict_iterator", "itertools.zip_longest", "itertools.pairwise"].contains n = false) (hQ : Q () s) : wpAny M A (letOwnedTupleGo tg (.ref it) u) Q E s := by
  unfold letOwnedTupleGo
  cases tg <;> first
    | exact wpAny_pure hQ
    | (cases u <;> first
        | exact wpAny_pure hQ
        | (refine wpAny_bind (wpAny_load ho ?_)
           rw [hc, hd]
           show wpAny M A (if (["enumerate", "zip", "dict_itemiterator", "dict_reverseitemiterator", "odict_iterator", "itertools.zip_longest", "itertools.pairwise"].contains n && vs[0]? == some (rawInt _)) = true then _ else _) Q E s
           rw [if_neg (by intro h; rw [hn, Bool.false_and] at h; cases h)]
           exact wpAny_pure hQ))
def Itl (K:PySem.W.Frag)(a:Addr):It:=
 ⟨fun i H=>∃xs x,SqL K H a xs/\xs[i]?=some x,fun i H x H'=>H'=H/\∀xs,SqL K H a xs->xs[i]?=some x,fun i H=>∃xs,SqL K H a xs/\xs.length<=i⟩
def Itt (K:PySem.W.Frag)(a:Addr):It:=
 ⟨fun i H=>∃xs x,SqT K H a xs/\xs[i]?=some x,fun i H x H'=>H'=H/\∀xs,SqT K H a xs->xs[i]?=some x,fun i H=>∃xs,SqT K H a xs/\xs.length<=i⟩
def Itr (lo:Int)(n:Nat):It:=⟨fun i _=>i<n,fun i H x H'=>H'=H/\x=.int (lo+i),fun i _=>n<=i⟩
theorem uZ {P:Program}{w:World}{K:PySem.W.Frag}{tg:Expr}(a it:Addr):Turn P w K tg (Itl K a) [it] it (fun i h=>h.IsListIter it a i) where
 mem:=by simp
 obj:=fun i h st b hb=>by
  have e:b=it:=by simpa using hb
  subst e
  obtain⟨o,e,c,d⟩:=st
  exact⟨o,e,fun v z=>by rw[d]at z;cases z⟩
 keep:=fun i h h' st k=>st.at fun o e=>k it (by simp) o e
 item:=by
  intro X hP hw hK hc i pins s σ H E I hf st hg
  subst hP hw hK
  obtain⟨xs,x,hq,hx⟩:=hg
  obtain⟨its,rv,p,hz⟩:=I.list hq
  obtain⟨u,hu,ru⟩:=rv.get hx
  obtain⟨f0,f1,f2,f3,f4,f5⟩:=hf it (by simp)
  refine wpAny_pyNext_list_item st p.isList (x:=u) (by simpa using hu) fun h' st' sb=>?_
  have I1:Inv X pins σ H { s with heap:=h' }:=I.turned (t':=s.toks) (fun b o hb e=>(sb.2 b hb).trans e) f0 f1 f3 f4 f5
  obtain⟨o,e,c,d⟩:=id st'
  exact⟨u,rfl,jq (s:={ s with heap:=h' }) e c d (by decide) ⟨x,H,I1,ru,⟨rfl,fun ys hy=>by rw[I.list_inj hy hq];exact hx⟩,st',fun b hb=>(hf b hb).1⟩⟩
 done:=by
  intro X hP hw hK hc i pins s σ H E I hf st hg
  subst hP hw hK
  obtain⟨xs,hq,hx⟩:=hg
  obtain⟨its,rv,p,hz⟩:=I.list hq
  obtain⟨f0,f1,f2,f3,f4,f5⟩:=hf it (by simp)
  have hl:=rv.length
  exact wpAny_pyNext_list_end (I.ok.hd hc) st p.isList (by simp;omega) fun h' eb=>⟨rfl,I.turned (t':=s.toks) (fun b o hb e=>eb b o hb e) f0 f1 f3 f4 f5⟩
 self:=fun _ _ _ _ _ st h=>wpAny_pyIter_listiter st h
theorem sR {P:Program}{w:World}{K:PySem.W.Frag}{tg:Expr}(a it:Addr):Turn P w K tg (Itt K a) [it] it (fun i h=>h.IsTupleIter it a i) where
 mem:=by simp
 obj:=fun i h st b hb=>by
  have e:b=it:=by simpa using hb
  subst e
  obtain⟨o,e,c,d⟩:=st
  exact⟨o,e,fun v z=>by rw[d]at z;cases z⟩
 keep:=fun i h h' st k=>st.at fun o e=>k it (by simp) o e
 item:=by
  intro X hP hw hK hc i pins s σ H E I hf st hg
  subst hP hw hK
  obtain⟨xs,x,hq,hx⟩:=hg
  obtain⟨its,rv,p,hz⟩:=I.tuple hq
  obtain⟨u,hu,ru⟩:=rv.get hx
  obtain⟨f0,f1,f2,f3,f4,f5⟩:=hf it (by simp)
  refine wpAny_pyNext_tuple_item st (show s.heap.IsTuple a its.toArray from p) (x:=u) (by simpa using hu) fun h' st' sb=>?_
  have I1:Inv X pins σ H { s with heap:=h' }:=I.turned (t':=s.toks) (fun b o hb e=>(sb.2 b hb).trans e) f0 f1 f3 f4 f5
  obtain⟨o,e,c,d⟩:=id st'
  exact⟨u,rfl,jq (s:={ s with heap:=h' }) e c d (by decide) ⟨x,H,I1,ru,⟨rfl,fun ys hy=>by rw[I.tuple_inj hy hq];exact hx⟩,st',fun b hb=>(hf b hb).1⟩⟩
 done:=by
  intro X hP hw hK hc i pins s σ H E I hf st hg
  subst hP hw hK
  obtain⟨xs,hq,hx⟩:=hg
  obtain⟨its,rv,p,hz⟩:=I.tuple hq
  obtain⟨f0,f1,f2,f3,f4,f5⟩:=hf it (by simp)
  have hl:=rv.length
  exact wpAny_pyNext_tuple_end (I.ok.hd hc) st (show s.heap.IsTuple a its.toArray from p) (by simp;omega) fun h' eb=>⟨rfl,I.turned (t':=s.toks) (fun b o hb e=>eb b o hb e) f0 f1 f3 f4 f5⟩
 self:=fun _ _ _ _ _ st h=>wpAny_pyIter_tupleiter st h
theorem tS {P:Program}{w:World}{K:PySem.W.Frag}{tg:Expr}(it:Addr)(lo:Int)(n:Nat):Turn P w K tg (Itr lo n) [it] it (fun i h=>IsRangeIter h it (lo+(i:Nat)*1) ((n:Int)-(i:Nat)) 1) where
 mem:=by simp
 obj:=fun i h st b hb=>by
  have e:b=it:=by simpa using hb
  subst e
  exact⟨_,st,fun v z=>by
   have z':Data.fields _=Data.cell v:=z
   cases z'⟩
 keep:=fun i h h' st k=>k it (by simp) _ st
 item:=by
  intro X hP hw hK hc i pins s σ H E I hf st hg
  subst hP hw hK
  obtain⟨f0,f1,f2,f3,f4,f5⟩:=hf it (by simp)
  have W:=Walks.range (prog:=X.prog) (w:=X.w) (I.ok.hd hc) it lo 1 n
  refine W.item i s _ _ hg st fun v h' tk hv st' kk=>?_
  obtain⟨t,rfl⟩:=hv
  have I1:Inv X pins σ H { s with heap:=h',toks:=tk }:=I.turned (fun b o hb e=>kk b o (by simpa using hb) e) f0 f1 f3 f4 f5
  refine⟨_,rfl,jq (s:={ s with heap:=h',toks:=tk }) (n:="range_iterator") st' rfl rfl (by decide) ⟨.int (lo+i),H,I1,⟨t,?_⟩,⟨rfl,rfl⟩,st',fun b hb=>(hf b hb).1⟩⟩
  rw[Int.mul_one]
 done:=by
  intro X hP hw hK hc i pins s σ H E I hf st hg
  subst hP hw hK
  obtain⟨f0,f1,f2,f3,f4,f5⟩:=hf it (by simp)
  exact wpAny_pyNext_range_end (I.ok.hd hc) st (by have:n<=i:=hg;omega) fun h' eb=>⟨rfl,I.turned (t':=s.toks) (fun b o hb e=>eb b o hb e) f0 f1 f3 f4 f5⟩
 self:=fun _ _ _ _ _ st h=>wpAny_pyIter_rangeiter st h
section
variable {X:Cx}{tg:Expr}
def xz (K:PySem.W.Frag)(tl:TE):TI:=fun σ H R=>tl σ H fun x H1=>∃a,x=.ref a/\(∃xs,SqL K H1 a xs)/\R (Itl K a) H1
def zL (K:PySem.W.Frag)(tl:TE):TI:=fun σ H R=>tl σ H fun x H1=>∃a,x=.ref a/\(∃xs,SqT K H1 a xs)/\R (Itt K a) H1
theorem be {l:Expr}{tl:TE}(hl:PE X l tl):PI X tg l (xz X.K tl):=by
 intro pins s σ H R I h
 refine thn (hl pins s σ H _ I h) fun v s1 ⟨x,H1,I1,r1,q1⟩=>?_
 obtain⟨a,e,⟨xs,hq⟩,q⟩:=q1
 subst e
 cases r1
 obtain⟨its,rv,p,hz⟩:=I1.list hq
 refine wpAny_pyIter_list p.isList ?_
 refine⟨s1.heap.objs.size,[s1.heap.objs.size],_,_,H1,rfl,I1.kept (t':=s1.toks) fun b o e=>Heap.get?_push_of_some _ e,uZ a _,⟨_,Heap.get?_push_size _ rfl,rfl,rfl⟩,fun b hb=>?_,q⟩
 have e:b=s1.heap.objs.size:=by simpa using hb
 subst e
 exact I1.fpOk (Nat.le_refl _) (I1.hok.fresh (Nat.le_refl _))
theorem kj {l:Expr}{tl:TE}(hl:PE X l tl):PI X tg l (zL X.K tl):=by
 intro pins s σ H R I h
 refine thn (hl pins s σ H _ I h) fun v s1 ⟨x,H1,I1,r1,q1⟩=>?_
 obtain⟨a,e,⟨xs,hq⟩,q⟩:=q1
 subst e
 cases r1
 obtain⟨its,rv,p,hz⟩:=I1.tuple hq
 refine wpAny_pyIter_tuple (show s1.heap.IsTuple a its.toArray from p) ?_
 refine⟨s1.heap.objs.size,[s1.heap.objs.size],_,_,H1,rfl,I1.kept (t':=s1.toks) fun b o e=>Heap.get?_push_of_some _ e,sR a _,⟨_,Heap.get?_push_size _ rfl,rfl,rfl⟩,fun b hb=>?_,q⟩
 have e:b=s1.heap.objs.size:=by simpa using hb
 subst e
 exact I1.fpOk (Nat.le_refl _) (I1.hok.fresh (Nat.le_refl _))
theorem qK {pins : List (Addr × Obj)} {σ : St} {H : Hp} {s : Shared} {R : It → Hp → Prop} {E : Value → Shared → Prop} {lo hi : Int} {t u v : Tok} {tk : Nat} (I : Inv X pins σ H s) (h1 : -(2 ^ 62) ≤ lo) (h2 : lo < 2 ^ 62) (h3 : -(2 ^ 62) ≤ hi) (h4 : hi < 2 ^ 62)
    (q : R (Itr lo (hi - lo).toNat) H) : wpAny (model X.prog X.w) X.A (pyIter (.ref s.heap.objs.size)) (PIE X pins σ tg R) E { s with heap := s.heap.push { cls := .type "range", data := .fields #[.int lo t, .int hi u, .int 1 v] }, toks := tk } := by
  refine wpAny_pyIter_range (IsRange.new ..) (small_one h1 h2 h3 h4) ?_
  have I1 : Inv X pins σ H { s with heap := s.heap.push { cls := .type "range", data := .fields #[.int lo t, .int hi u, .int 1 v] }, toks := tk } := I.kept fun b o e => Heap.get?_push_of_some _ e
  refine ⟨(s.heap.push { cls := .type "range", data := .fields #[.int lo t, .int hi u, .int 1 v] }).objs.size, [(s.heap.push { cls := .type "range", data := .fields #[.int lo t, .int hi u, .int 1 v] }).objs.size], _, _, H, rfl,
    I1.kept (t' := tk) fun b o e => Heap.get?_push_of_some _ e, tS _ lo (hi - lo).toNat, ?_, fun b hb => ?_, q⟩
  · have e1 : lo + ((0 : Nat) : Int) * 1 = lo := by simp
    have e2 : (((hi - lo).toNat : Nat) : Int) - ((0 : Nat) : Int) = Builtin.Range.rangeSize lo hi 1 := by rw [rangeSize_one]; split <;> omega
    show IsRangeIter _ _ (lo + ((0 : Nat) : Int) * 1) ((((hi - lo).toNat : Nat) : Int) - ((0 : Nat) : Int)) 1
    rw [e1, e2]
    exact Heap.get?_push_size _ rfl
  · have e : b = (s.heap.push { cls := .type "range", data := .fields #[.int lo t, .int hi u, .int 1 v] }).objs.size := by simpa using hb
    subst e
    exact I1.fpOk (Nat.le_refl _) (I1.hok.fresh (Nat.le_refl _))
def zp (ta:TA):TI:=fun σ H R=>ta σ H fun vs H1=>∃j:Int,vs=[.int j]/\-(2^62)<=j/\j<2^62/\R (Itr 0 j.toNat) H1
def zC (ta:TA):TI:=fun σ H R=>ta σ H fun vs H1=>∃i j:Int,vs=[.int i,.int j]/\(-(2^62)<=i/\i<2^62/\-(2^62)<=j/\j<2^62)/\R (Itr i (j-i).toNat) H1
theorem im {a:Expr} {ta:TA} {p pos:Pos} (hg:Gl X "range") (hm:X.mg "range"=none) (ha:PA X [a] ta) (hs:starEach [a] X.env=[(false,eval a X.env)]:=by rfl):PI X tg (.Call (.Name "range" p) [a] [] pos) (zp ta):=by
 intro pins s σ H R I h
 refine Call_ (i7 I hg hm boot_range (PyProof.Rows.callWith_type1 (thn (ha pos pins s σ H _ I h) fun us s1 ⟨vs,H1,I1,r1,q1⟩=>?_) hs rfl))
 obtain⟨j,e,q1,q2,q⟩:=q1
 subst e
 cases r1 with
 |cons r rr=>
  cases rr
  obtain⟨t,rfl⟩:=r
  exact call_range_1 (qK I1 (by omega) (by omega) q1 q2 (by simpa using q))
theorem u6 {a b:Expr} {ta:TA} {p pos:Pos} (hg:Gl X "range") (hm:X.mg "range"=none) (ha:PA X [a,b] ta) (hs:starEach [a,b] X.env=[(false,eval a X.env),(false,eval b X.env)]:=by rfl) (hs2:starEach [b] X.env=[(false,eval b X.env)]:=by rfl) :
  PI X tg (.Call (.Name "range" p) [a,b] [] pos) (zC ta):=by
 intro pins s σ H R I h
 refine Call_ (i7 I hg hm boot_range (PyProof.Rows.callWith_type1 (thn (ha pos pins s σ H _ I h) fun us s1 ⟨vs,H1,I1,r1,q1⟩=>?_) (by rw[hs,hs2]) (by rw[hs2];rfl)))
 obtain⟨i,j,e,⟨q1,q2,q3,q4⟩,q⟩:=q1
 subst e
 cases r1 with
 |cons r rr=>
  cases rr with
  |cons r' rr=>
   cases rr
   obtain⟨t,rfl⟩:=r
   obtain⟨t',rfl⟩:=r'
   exact call_range_2 (qK I1 q1 q2 q3 q4 q)
def zg (wi:TI)(g:TG)(tb:TS):TS:=fun D σ H=>wi σ H fun J H1=>∃W:Nat->Nat->St->Hp->Prop,(∃m,W 0 m σ H1)/\∀i m σ H,W i m σ H->
 (J.stop i H/\D.nx σ H)∨(J.go i H/\∃N:St->Hp->Prop,(∀σ' H',N σ' H'->∃m',m'<m/\W (i+1) m' σ' H')/\∀x H',J.yld i H x H'->g x σ H' fun σ2 H2=>tb { D with nx:=N,ct:=N,bk:=D.nx } σ2 H2)
def ka (fp:List Addr)(h:Heap):List (Addr×Obj):=fp.filterMap fun b=>(h.get? b).map fun o=>(b,o)
theorem jD {fp:List Addr}{h:Heap}{b:Addr}{o:Obj}(hb:b∈fp)(e:h.get? b=some o):(b,o)∈ka fp h:=List.mem_filterMap.mpr ⟨b,hb,by rw[e];rfl⟩
theorem vA {fp:List Addr}{h:Heap}{p:Addr×Obj}(hp:p∈ka fp h):p.1∈fp/\h.get? p.1=some p.2:=by
 obtain⟨b,hb,e⟩:=List.mem_filterMap.mp hp
 cases q:h.get? b with
 |none=>rw[q]at e;cases e
 |some o=>
  rw[q]at e
  have e':(b,o)=p:=Option.some.inj e
  subst e'
  exact⟨hb,q⟩
theorem Inv.pinned {pins:List (Addr×Obj)}{σ:St}{H:Hp}{s:Shared}{fp:List Addr}(I:Inv X pins σ H s)(hf:∀b∈fp,cI X pins H b)(ho:∀b∈fp,∃o,s.heap.get? b=some o/\∀v,o.data≠.cell v):Inv X (pins++ka fp s.heap) σ H s:=
 I.pins_of fun p hp=>(List.mem_append.mp hp).elim (fun z=>I.pin p (List.mem_append_right _ z)) fun z=>by
  obtain⟨hb,e⟩:=vA z
  obtain⟨f0,f1,f2,_⟩:=hf p.1 hb
  obtain⟨o,e',d⟩:=ho p.1 hb
  rw[e]at e';cases e'
  exact⟨e,f0,f1,f2,d⟩
theorem Inv.unpinned {pins pl:List (Addr×Obj)}{σ:St}{H:Hp}{s:Shared}(I:Inv X (pins++pl) σ H s):Inv X pins σ H s:=I.pins_of fun p hp=>I.pin p (List.mem_append_right _ (List.mem_append_left _ hp))
theorem bO {bA:Expr}{body:List Stmt}{wi:TI}{g:TG}{tb:TS}{pos:Pos}(hp:PassesOwn (model X.prog X.w) X.A X.env X.xe)(hc:X.calm=true)(hi:PI X tg bA wi)(hg:PG X tg g)(hb:PSs X body tb)
  (hs:∀x,foldedSetIterable bA X.env x=pure x:=by intro _;rfl):PS X (.For tg bA body [] pos) (zg wi g tb):=by
 intro pins s σ H D I h
 refine wpAny_For (thn (hi pins s σ H _ I h) fun v s1 h1=>thn h1 fun itv s2 h2=>?_) hs
 obtain⟨it,fp,tn,J,H2,e,I2,T,st2,f2,W,⟨m0,w0⟩,bx⟩:=h2
 subst e
 have stat:∀{H':Hp},(∀b∈fp,H' b=none)->∀b∈fp,cI X pins H' b:=fun hn b hb=>⟨hn b hb,(f2 b hb).2⟩
 refine codeAny_forLoop_any (fun n s'=>∃i σ' H',Inv X pins σ' H' s'/\tn i s'.heap/\(∀b∈fp,H' b=none)/\W i n σ' H') ?_ m0 ⟨0,σ,H2,I2,st2,fun b hb=>(f2 b hb).1,w0⟩
 rintro n s3 ⟨i,σ3,H3,I3,st3,fr3,w3⟩
 rcases bx i n σ3 H3 w3 with ⟨stop,qn⟩|⟨go,N,hN,step⟩
 ·refine wpAny_passesOwn hp (thn (T.done X rfl rfl rfl hc i pins s3 σ3 H3 X.xe I3 (stat fr3) st3 stop) fun r s4 ⟨hr,I4⟩=>?_)
  subst hr
  exact wpAny_execs_nil ⟨σ3,H3,I4,qn⟩
 ·refine wpAny_passesOwn hp (thn (T.item X rfl rfl rfl hc i pins s3 σ3 H3 X.xe I3 (stat fr3) st3 go) fun r s4 ⟨u,hr,h4⟩=>?_)
  subst hr
  refine wpAny_passesOwn hp (thn h4 fun _ s5 ⟨x,H5,I5,r5,y5,st5,fr5⟩=>?_)
  have I5':=I5.pinned (stat fr5) (T.obj _ _ st5)
  refine wpAny_passesOwn hp (thn (hg _ s5 σ3 H5 x u _ I5' r5 (step x H5 y5)) fun _ s6 ⟨σ6,H6,I6,q6⟩=>?_)
  refine wpAny_passesOwn hp (thn (hb _ s6 σ6 H6 _ I6 q6) fun f s7 q7=>?_)
  have again:∀{σ7:St} {H7:Hp},Inv X (pins++ka fp s5.heap) σ7 H7 s7->N σ7 H7->∃m,m<n/\∃i σ' H',Inv X pins σ' H' s7/\tn i s7.heap/\(∀b∈fp,H' b=none)/\W i m σ' H':=fun {σ7 H7} I7 n7=>by
   obtain⟨m',hm,w7⟩:=hN σ7 H7 n7
   refine⟨m',hm,i+1,σ7,H7,I7.unpinned,T.keep _ _ _ st5 fun b hb o e=>(I7.pin (b,o) (List.mem_append_right _ (List.mem_append_right _ (jD hb e)))).1,fun b hb=>?_,w7⟩
   obtain⟨o,e,d⟩:=T.obj _ _ st5 b hb
   exact (I7.pin (b,o) (List.mem_append_right _ (List.mem_append_right _ (jD hb e)))).2.1
  cases f with
  |next=>obtain⟨σ7,H7,I7,n7⟩:=q7;exact again I7 n7
  |cont=>obtain⟨σ7,H7,I7,n7⟩:=q7;exact again I7 n7
  |brk=>obtain⟨σ7,H7,I7,q7⟩:=q7;exact⟨σ7,H7,I7.unpinned,q7⟩
  |ret v=>obtain⟨x7,σ7,H7,I7,r7,q7⟩:=q7;exact⟨x7,σ7,H7,I7.unpinned,r7,q7⟩
end
abbrev R2:=V->V->Hp->VK->Prop
def OpR (X:Cx)(f:Value->Value->Sem Value)(r:R2):Prop:=
 ∀(pins:List (Addr×Obj))(s:Shared)(σ:St)(H:Hp)(x y:V)(v u:Value)(Q:VK),Inv X pins σ H s->RelV x v->RelV y u->r x y H Q->
  wpAny (model X.prog X.w) X.A (f v u) (EP X pins σ Q) X.xe s
def UnR (X:Cx)(f:Value->Sem Value)(r:V->Hp->VK->Prop):Prop:=
 ∀(pins:List (Addr×Obj))(s:Shared)(σ:St)(H:Hp)(x:V)(v:Value)(Q:VK),Inv X pins σ H s->RelV x v->r x H Q->
  wpAny (model X.prog X.w) X.A (f v) (EP X pins σ Q) X.xe s
def c9 (X:Cx)(f:Value)(r:List V->Hp->VK->Prop):Prop:=
 ∀(pins:List (Addr×Obj))(s:Shared)(σ:St)(H:Hp)(xs:List V)(us:List Value)(Q:VK),Inv X pins σ H s->Vals xs us->r xs H Q->
  wpAny (model X.prog X.w) X.A (call f us) (EP X pins σ Q) X.xe s
def tOp (r:R2)(ta tb:TE):TE:=fun σ H Q=>ta σ H fun x H1=>tb σ H1 fun y H2=>r x y H2 Q
def tUn (r:V->Hp->VK->Prop)(ta:TE):TE:=fun σ H Q=>ta σ H fun x H1=>r x H1 Q
def rI (C:Int->Int->Prop)(g:Int->Int->V):R2:=fun x y H Q=>∃i j,x=.int i/\y=.int j/\C i j/\Q (g i j) H
def rI0 (g:Int->Int->V):R2:=fun x y H Q=>∃i j,x=.int i/\y=.int j/\Q (g i j) H
def rU (g:Int->V):V->Hp->VK->Prop:=fun x H Q=>∃i,x=.int i/\Q (g i) H
section
variable {X:Cx}{a b c:Expr}{ta tb tc:TE}{pos:Pos}
theorem xr (ha:PE X a ta)(hb:PE X b tb){pins:List (Addr×Obj)}{s:Shared}{σ:St}{H:Hp}{R:V->V->Hp->Prop}(I:Inv X pins σ H s)
  (h:ta σ H fun x H1=>tb σ H1 fun y H2=>R x y H2){Q:Value->Shared->Prop}{f:Value->Value->Sem Value}
  (hf:∀v u s2 x y H2,Inv X pins σ H2 s2->RelV x v->RelV y u->R x y H2->wpAny (model X.prog X.w) X.A (f v u) Q X.xe s2):
  wpAny (model X.prog X.w) X.A (eval a X.env) (fun v s₁=>wpAny (model X.prog X.w) X.A (eval b X.env) (fun u s₂=>wpAny (model X.prog X.w) X.A (f v u) Q X.xe s₂) X.xe s₁) X.xe s:=by
 refine thn (ha pins s σ H _ I h) fun v s1 ⟨x,H1,I1,r1,q1⟩=>?_
 refine thn (hb pins s1 σ H1 _ I1 q1) fun u s2 ⟨y,H2,I2,r2,q2⟩=>?_
 exact hf v u s2 x y H2 I2 r1 r2 q2
theorem aO {op:Operator}{r:R2}(ho:OpR X (binaryOp op) r)(ha:PE X a ta)(hb:PE X b tb):PE X (.BinOp a op b pos) (tOp r ta tb):=by
 intro pins s σ H Q I h
 exact wpAny_BinOp (xr ha hb I h fun v u s2 x y H2 I2 rx ry q=>ho pins s2 σ H2 x y v u Q I2 rx ry q)
theorem gD {op:UnaryOp}{r:V->Hp->VK->Prop}(ho:UnR X (unaryOp op) r)(ha:PE X a ta):PE X (.UnaryOp op a pos) (tUn r ta):=by
 intro pins s σ H Q I h
 exact UnaryOp_ (thn (ha pins s σ H _ I h) fun v s1 ⟨x,H1,I1,r1,q1⟩=>ho pins s1 σ H1 x v Q I1 r1 q1)
theorem opI {f:Value->Value->Sem Value}{C:Int->Int->Prop}{g:Int->Int->Int}
  (rule:∀(i j:Int)(t u:Tok)(s:Shared)(Q:Value->Shared->Prop)(E:Value->Shared->Prop),C i j->Q (.int (g i j) s.toks) { s with toks:=s.toks+1 }->wpAny (model X.prog X.w) X.A (f (.int i t) (.int j u)) Q E s):
  OpR X f (rI C fun i j=>.int (g i j)):=by
 intro pins s σ H x y v u Q I rx ry h
 obtain⟨i,j,rfl,rfl,hc,q⟩:=h
 obtain⟨t,rfl⟩:=rx
 obtain⟨t',rfl⟩:=ry
 exact rule i j t t' s _ _ hc ⟨.int (g i j),H,I.tok _,⟨_,rfl⟩,q⟩
theorem ux {f:Value->Value->Sem Value}{g:Int->Int->Int}
  (rule:∀(i j:Int)(t u:Tok)(s:Shared)(Q:Value->Shared->Prop)(E:Value->Shared->Prop),Q (.int (g i j) s.toks) { s with toks:=s.toks+1 }->wpAny (model X.prog X.w) X.A (f (.int i t) (.int j u)) Q E s):
  OpR X f (rI0 fun i j=>.int (g i j)):=by
 intro pins s σ H x y v u Q I rx ry h
 obtain⟨i,j,rfl,rfl,q⟩:=h
 obtain⟨t,rfl⟩:=rx
 obtain⟨t',rfl⟩:=ry
 exact rule i j t t' s _ _ ⟨.int (g i j),H,I.tok _,⟨_,rfl⟩,q⟩
theorem xj {f:Value->Value->Sem Value}{g:Int->Int->Bool}
  (rule:∀(i j:Int)(t u:Tok)(s:Shared)(Q:Value->Shared->Prop)(E:Value->Shared->Prop),Q (.bool (g i j)) s->wpAny (model X.prog X.w) X.A (f (.int i t) (.int j u)) Q E s):
  OpR X f (rI0 fun i j=>.bl (g i j)):=by
 intro pins s σ H x y v u Q I rx ry h
 obtain⟨i,j,rfl,rfl,q⟩:=h
 obtain⟨t,rfl⟩:=rx
 obtain⟨t',rfl⟩:=ry
 exact rule i j t t' s _ _ ⟨.bl (g i j),H,I,rfl,q⟩
def Ak (i j:Int):Prop:=0<=j/\j<=1000000/\i.natAbs<2^64
def CMul (i j:Int):Prop:=(-(2^64)<i/\i<2^64)∨(-(2^64)<j/\j<2^64)
theorem CMul.ok {i j:Int}(h:CMul i j):IntMulOk i j:=by
 rcases h with ⟨h1,h2⟩|⟨h1,h2⟩
 ·exact .of_left (intBits_le_64 h1 h2)
 ·exact .of_right (intBits_le_64 h1 h2)
theorem uo (k:Nat):(0:Int)<=2^k:=by
 rw[two_pow_cast]
 exact Int.natCast_nonneg _
theorem iR:OpR X (binaryOp .Add) (rI0 fun i j=>.int (i+j)):=ux fun _ _ _ _ _ _ _ q=>add_int q
theorem qX:OpR X (binaryOp .Sub) (rI0 fun i j=>.int (i-j)):=ux fun _ _ _ _ _ _ _ q=>sub_int q
theorem l7:OpR X (binaryOp .Mult) (rI CMul fun i j=>.int (i*j)):=opI fun _ _ _ _ _ _ _ hc q=>mul_int q hc.ok
theorem f7:OpR X (binaryOp .LShift) (rI Ak fun i j=>.int (i*2^j.toNat)):=opI fun _ _ _ _ _ _ _ hc q=>lshift_int_small hc.1 hc.2.1 hc.2.2 q
theorem ql:OpR X (binaryOp .RShift) (rI (fun _ j=>0<=j) fun i j=>.int (i / 2^j.toNat)):=opI fun i j _ _ _ _ _ hc q=>
 rshift_int hc (by rw[Int.fdiv_eq_ediv_of_nonneg i (uo _)];exact q)
theorem ge:OpR X (binaryOp .BitAnd) (rI0 fun i j=>.int (Builtin.bitAnd i j)):=ux fun _ _ _ _ _ _ _ q=>and_int q
theorem kX:OpR X (binaryOp .BitOr) (rI0 fun i j=>.int (Builtin.bitOr i j)):=ux fun _ _ _ _ _ _ _ q=>or_int q
theorem unI {f:Value->Sem Value}{g:Int->Int}
  (rule:∀(i:Int)(t:Tok)(s:Shared)(Q:Value->Shared->Prop)(E:Value->Shared->Prop),Q (.int (g i) s.toks) { s with toks:=s.toks+1 }->wpAny (model X.prog X.w) X.A (f (.int i t)) Q E s):
  UnR X f (rU fun i=>.int (g i)):=by
 intro pins s σ H x v Q I rx h
 obtain⟨i,rfl,q⟩:=h
 obtain⟨t,rfl⟩:=rx
 exact rule i t s _ _ ⟨.int (g i),H,I.tok _,⟨_,rfl⟩,q⟩
theorem eW:UnR X (unaryOp .USub) (rU fun i=>.int (-i)):=unI fun _ _ _ _ _ q=>neg_int q
end
def zn:V->V->Bool
 |.non,.non=>true|.non,.int _=>true|.int _,.non=>true|.non,.bl _=>true|.bl _,.non=>true|.non,.str _=>true|.str _,.non=>true
 |.int _,.int _=>true|.bl _,.bl _=>true|.str _,.str _=>true|.byt _,.byt _=>true
 |.int _,.str _=>true|.str _,.int _=>true|.bl _,.str _=>true|.str _,.bl _=>true
 |_,_=>false
def rEq:R2:=fun x y H Q=>zn x y=true/\Q (.bl (decide (x=y))) H
def rNe:R2:=fun x y H Q=>zn x y=true/\Q (.bl (!decide (x=y))) H
theorem r9 {i j:Int}:decide (V.int i=V.int j)=(i==j):=by
 rw[Bool.eq_iff_iff]
 simp
theorem vd {i j:Bool}:decide (V.bl i=V.bl j)=(i==j):=by
 rw[Bool.eq_iff_iff]
 simp
theorem sG {i j:Str}:decide (V.str i=V.str j)=(i==j):=by
 rw[Bool.eq_iff_iff]
 simp
theorem sy {i j:Array UInt8}:decide (V.byt i=V.byt j)=(i.toList==j.toList):=by
 rw[Bool.eq_iff_iff]
 cases i
 cases j
 simp
section
variable {X:Cx}{a b c:Expr}{ta tb tc:TE}{pos:Pos}
theorem a6 {pins:List (Addr×Obj)}{σ:St}{H:Hp}{s:Shared}{Q:VK}{k k':Bool}(I:Inv X pins σ H s)(q:Q (.bl k) H)(e:k=k'):EP X pins σ Q (.bool k') s:=by
 subst e
 exact⟨.bl k,H,I,rfl,q⟩
theorem cM:OpR X (compareOp .Eq) rEq:=by
 intro pins s σ H x y v u Q I rx ry h
 obtain⟨hs,q⟩:=h
 cases x with
 |non=>
  cases rx
  cases y with
  |non=>cases ry;exact PySem.EqNone.eq_none_none (a6 I q (by simp))
  |bl j=>cases ry;exact PySem.EqNone.eq_none_bool (a6 I q (by simp))
  |int j=>obtain⟨t',rfl⟩:=ry;exact PySem.EqNone.eq_none_int (a6 I q (by simp))
  |str j=>obtain⟨t',rfl⟩:=ry;exact PySem.EqNone.eq_none_str (a6 I q (by simp))
  |_=>exact absurd (show false=true from hs) Bool.false_ne_true
 |bl i=>
  cases rx
  cases y with
  |non=>cases ry;exact PySem.EqNone.eq_bool_none (a6 I q (by simp))
  |bl j=>cases ry;exact eq_bool (a6 I q vd)
  |str j=>obtain⟨t',rfl⟩:=ry;exact PySem.EqMixed.eq_bool_str (a6 I q (by simp))
  |_=>exact absurd (show false=true from hs) Bool.false_ne_true
 |int i=>
  obtain⟨t,rfl⟩:=rx
  cases y with
  |non=>cases ry;exact PySem.EqNone.eq_int_none (a6 I q (by simp))
  |int j=>obtain⟨t',rfl⟩:=ry;exact eq_int (a6 I q r9)
  |str j=>obtain⟨t',rfl⟩:=ry;exact PySem.EqMixed.eq_int_str (a6 I q (by simp))
  |_=>exact absurd (show false=true from hs) Bool.false_ne_true
 |str i=>
  obtain⟨t,rfl⟩:=rx
  cases y with
  |non=>cases ry;exact PySem.EqNone.eq_str_none (a6 I q (by simp))
  |bl j=>cases ry;exact PySem.EqMixed.eq_str_bool (a6 I q (by simp))
  |int j=>obtain⟨t',rfl⟩:=ry;exact PySem.EqMixed.eq_str_int (a6 I q (by simp))
  |str j=>obtain⟨t',rfl⟩:=ry;exact eq_str (a6 I q sG)
  |_=>exact absurd (show false=true from hs) Bool.false_ne_true
 |byt i=>
  obtain⟨t,rfl⟩:=rx
  cases y with
  |byt j=>obtain⟨t',rfl⟩:=ry;exact PySem.W.eq_bytes (a6 I q sy)
  |_=>exact absurd (show false=true from hs) Bool.false_ne_true
 |_=>cases y<;>exact absurd (show false=true from hs) Bool.false_ne_true
theorem eh:OpR X (compareOp .NotEq) rNe:=by
 intro pins s σ H x y v u Q I rx ry h
 obtain⟨hs,q⟩:=h
 cases x with
 |non=>
  cases rx
  cases y with
  |non=>cases ry;exact PySem.EqNone.ne_none_none (a6 I q (by simp))
  |bl j=>cases ry;exact PySem.EqNone.ne_none_bool (a6 I q (by simp))
  |int j=>obtain⟨t',rfl⟩:=ry;exact PySem.EqNone.ne_none_int (a6 I q (by simp))
  |str j=>obtain⟨t',rfl⟩:=ry;exact PySem.EqNone.ne_none_str (a6 I q (by simp))
  |_=>exact absurd (show false=true from hs) Bool.false_ne_true
 |bl i=>
  cases rx
  cases y with
  |non=>cases ry;exact PySem.EqNone.ne_bool_none (a6 I q (by simp))
  |bl j=>cases ry;exact ne_bool (a6 I q (congrArg not vd))
  |str j=>obtain⟨t',rfl⟩:=ry;exact PySem.EqMixed.ne_bool_str (a6 I q (by simp))
  |_=>exact absurd (show false=true from hs) Bool.false_ne_true
 |int i=>
  obtain⟨t,rfl⟩:=rx
  cases y with
  |non=>cases ry;exact PySem.EqNone.ne_int_none (a6 I q (by simp))
  |int j=>obtain⟨t',rfl⟩:=ry;exact ne_int (a6 I q (congrArg not r9))
  |str j=>obtain⟨t',rfl⟩:=ry;exact PySem.EqMixed.ne_int_str (a6 I q (by simp))
  |_=>exact absurd (show false=true from hs) Bool.false_ne_true
 |str i=>
  obtain⟨t,rfl⟩:=rx
  cases y with
  |non=>cases ry;exact PySem.EqNone.ne_str_none (a6 I q (by simp))
  |bl j=>cases ry;exact PySem.EqMixed.ne_str_bool (a6 I q (by simp))
  |int j=>obtain⟨t',rfl⟩:=ry;exact PySem.EqMixed.ne_str_int (a6 I q (by simp))
  |str j=>obtain⟨t',rfl⟩:=ry;exact ne_str (a6 I q (congrArg not sG))
  |_=>exact absurd (show false=true from hs) Bool.false_ne_true
 |byt i=>
  obtain⟨t,rfl⟩:=rx
  cases y with
  |byt j=>obtain⟨t',rfl⟩:=ry;exact PySem.W.ne_bytes (a6 I q (congrArg not sy))
  |_=>exact absurd (show false=true from hs) Bool.false_ne_true
 |_=>cases y<;>exact absurd (show false=true from hs) Bool.false_ne_true
theorem k3:OpR X (compareOp .Lt) (rI0 fun i j=>.bl (decide (i<j))):=xj fun _ _ _ _ _ _ _ q=>lt_int q
theorem jB:OpR X (compareOp .Gt) (rI0 fun i j=>.bl (decide (j<i))):=xj fun _ _ _ _ _ _ _ q=>gt_int q
theorem xG:OpR X (compareOp .GtE) (rI0 fun i j=>.bl (decide (j<=i))):=xj fun _ _ _ _ _ _ _ q=>ge_int q
theorem aK (b:Expr){op:CmpOp}(h:op≠.In:=by decide)(h2:op≠.NotIn:=by decide):behindInMarks op b=false:=by
 have e1:(op==CmpOp.In)=false:=by cases op<;>first|rfl|exact absurd rfl h
 have e2:(op==CmpOp.NotIn)=false:=by cases op<;>first|rfl|exact absurd rfl h2
 cases b<;>simp[behindInMarks,e1,e2]
theorem fN {op:CmpOp}{r:R2}(ho:OpR X (compareOp op) r)(ha:PE X a ta)(hb:PE X b tb)(hm:behindInMarks op b=false):PE X (.Compare a [op] [b] pos) (tOp r ta tb):=by
 intro pins s σ H Q I h
 exact wpAny_Compare1 (xr ha hb I h fun v u s2 x y H2 I2 rx ry q=>ho pins s2 σ H2 x y v u Q I2 rx ry q) hm
def zF (t:TE):TT:=fun σ H Q=>t σ H fun x H'=>∃k,x=.bl k/\Q k H'
theorem aJ {op:CmpOp}{r:R2}(ho:OpR X (compareOp op) r)(ha:PE X a ta)(hb:PE X b tb)(hm:behindInMarks op b=false):PT X (.Compare a [op] [b] pos) (zF (tOp r ta tb)):=by
 intro pins s σ H Q I h
 refine wpAny_isTrue_Compare1 (thn (ha pins s σ H _ I h) fun v s1 ⟨x,H1,I1,r1,q1⟩=>thn (hb pins s1 σ H1 _ I1 q1) fun u s2 ⟨y,H2,I2,r2,q2⟩=>
  thn (ho pins s2 σ H2 x y v u _ I2 r1 r2 q2) fun c s3 ⟨z,H3,I3,r3,k,e,q3⟩=>?_) hm
 subst e
 cases r3
 exact wpAny_truthy_bool ⟨H3,I3,q3⟩
theorem kg:(sizeLine:Nat)<2^63:=by rw[sizeLine_eq];decide
theorem mR:OpR X (binaryOp .Add) (fun x y H Q=>∃i j,x=.str i/\y=.str j/\i.length+j.length<=sizeLine/\Q (.str (i++j)) H):=by
 intro pins s σ H x y v u Q I rx ry h
 obtain⟨i,j,rfl,rfl,hz,q⟩:=h
 obtain⟨t,rfl⟩:=rx
 obtain⟨t',rfl⟩:=ry
 exact add_str (fun t' tk=>⟨.str (i++j),H,I.tok _,⟨_,rfl⟩,q⟩) hz
theorem mx {x:V}{us:List Value}(r:Vals [x] us):∃u,us=[u]/\RelV x u:=by
 cases r with
 |cons r1 r2=>cases r2;exact⟨_,rfl,r1⟩
theorem xt:c9 X (.builtin "ord") (fun xs H Q=>∃x,xs=[.str x]/\x.length=1/\Q (.int (x.cps.getD 0 0:Nat)) H):=by
 intro pins s σ H xs us Q I r h
 obtain⟨x,rfl,hz,q⟩:=h
 obtain⟨u,rfl,t,rfl⟩:=mx r
 exact ord_of_one hz ⟨.int _,H,I.tok _,⟨_,rfl⟩,q⟩
end
structure ObjM (h:Heap)(x dx C:Addr)(mA:Str->Option Value):Prop where
 obj:h.get? x=some (PySem.W.instObj C dx)
 ns:h.Ns1 dx mA
 ne:dx≠x
theorem uF {h:Heap}{dx:Addr}{mA:Str->Option Value}(n:h.Ns1 dx mA):∃od,h.get? dx=some od/\∀name,PySem.W.lookIn name od=some (mA name):=by
 obtain⟨o,es,ep,ho,hd,hk,_,hm⟩:=n
 refine⟨o,ho,fun name=>?_⟩
 have e:=hm name
 unfold nsFind findBy at e
 rw[<-Array.find?_toList]at e
 unfold PySem.W.lookIn
 rw[hd]
 dsimp only
 split
 ·rename_i y q
  rw[q]at e
  exact congrArg some e
 ·rename_i q
  rw[q]at e
  have a:es.toList.any (·.refKey)=false:=by
   rw[List.any_eq_false]
   intro y hy
   obtain⟨z,t,hkey⟩:=hk y (Array.mem_toList_iff.mp hy)
   simp[DictEntry.refKey,hkey]
  have a':¬es.toList.any (·.refKey)=true:=by rw[a];exact Bool.false_ne_true
  rw[if_neg a']
  exact congrArg some e
theorem ObjM.look {h:Heap}{x dx C:Addr}{mA:Str->Option Value}(I:ObjM h x dx C mA):∃od,PySem.W.InstAt h x (PySem.W.instObj C dx) C (some od)/\∀name,PySem.W.lookIn name od=some (mA name):=
 let ⟨od,ho,hl⟩:=uF I.ns
 ⟨od,⟨I.obj,rfl,rfl,ho⟩,hl⟩
section
variable {prog:Program}{w:World}{A:Around}{E:Value->Shared->Prop}{s:Shared}{K:PySem.W.Frag}{x dx C f:Addr}{mA:Str->Option Value}{name:Str}{v:Value}
theorem yd {expr:Bool}{Q:Value->Shared->Prop}(X:K.In s.heap)(I:ObjM s.heap x dx C mA)(hg:PySem.W.plainGet K C name=true)(hh:PySem.W.hasDictIn K C=true)
  (ha:PySem.W.findIn K (.ref C) name=some none)(hv:mA name=some v)(hv':PySem.W.handedIn v=true)(h:Q v { s with toks:=s.toks+1 }):
  wpAny (model prog w) A (getAttr (.ref x) name expr) Q E s:=by
 obtain⟨od,J,hl⟩:=I.look
 exact PySem.W.get_value X J (PySem.W.plainGet_of hg).1 (PySem.W.findObj_own hh ha rfl (by rw[hl,hv])) hv' h
theorem yy {ns:List Str}{Q:Unit->Shared->Prop}(X:K.In s.heap)(I:ObjM s.heap x dx C mA)
  (hs:PySem.W.findIn K (.ref C) "__setattr__"=some (some (.builtin "object.__setattr__"))) (hp:PySem.W.plainOver K C=true) (ht:PySem.W.takerIn K C name=some none) (hh:PySem.W.hasDictIn K C=true)
  (hw:PySem.Within mA ns)(hsz:ns.length<=sizeLine)
  (h:∀h',ObjM h' x dx C (fun y=>if y=name then some v else mA y)->Heap.SameBut dx s.heap h'->Q () { s with heap:=h',toks:=s.toks+2 }):
  wpAny (model prog w) A (setAttr (.ref x) name v) Q E s:=by
 obtain⟨od,J,hl⟩:=I.look
 refine PySem.W.set_plain X J hs (PySem.W.osa_open (s:={ s with toks:=s.toks+1 }) (r:=none) X J hp ht fun b=>?_)
 obtain⟨cd,hc,hd'⟩:=PySem.W.any_some hh
 have hx:s.heap.get? x=some ⟨.ref C,some dx,.plain,#[]⟩:=I.obj
 refine wpAny_bind (wpAny_pure (wpAny_bind (wpAny_bind (wpAny_loadPart hx (wpAny_bind (PySem.W.Looks.here (s:={ s with toks:=s.toks+1 }) (PySem.W.looks_clsIn X hc) ?_))))))
 rw[hd']
 refine wpAny_pure (a:=some dx) (wpAny_bind (wpAny_pure (wpAny_bind ?_)))
 refine wpAny_nsSet1 (s:={ s with toks:=s.toks+1 }) I.ns fun h' hn2 hs2=>?_
 obtain⟨oD,esD,epD,hoD,hdD,hcD⟩:=hn2.count (PySem.Within.cons name v hw)
 refine wpAny_bind (wpAny_lookBehind hoD (by rw[hdD];exact pastItsLine_dict (Nat.le_trans hcD (by rw[List.length_cons];omega))) ?_)
 exact wpAny_pure (h _ ⟨(hs2.2 _ (Ne.symm I.ne)).trans I.obj,hn2,I.ne⟩ hs2)
theorem w6 {R:Result->Shared->Prop}{vs:List Value}{kw:List (Str×Value)}(X:K.In s.heap)(hm:PySem.W.makesIn K C=true)
  (hi:PySem.W.findIn K (.ref C) "__init__"=some (some (.ref f))) (hf:PySem.W.typeIn K (.ref f)=some (.type "function"))
  (h:codeAny (model prog w) (A.under (.builtin "type.__call__" ⟨.ref C :: vs,kw⟩)) (.call (.ref f) ⟨.ref (s.heap.objs.size+1) :: vs,kw⟩) (PySem.W.InitBack (s.heap.objs.size+1) R)
   { s with heap:=(s.heap.push PySem.W.emptyDict).push (PySem.W.instObj C s.heap.objs.size) }) :
  codeAny (model prog w) A (.call (.ref C) ⟨vs,kw⟩) R s:=by
 obtain⟨hh,g,d,t,os⟩:=s
 exact PySem.W.make_core (PySem.W.makes_of X hm) (PySem.W.looks_findIn X hi) (fun self=>PySem.W.bind_fn X self hf) (.inl rfl) h
end
def cG (f:Str)(v:V):List (Str×V)->List (Str×V)
 |[]=>[(f,v)]
 |(g,x) :: r=>if g=f then (g,v) :: r else (g,x) :: cG f v r
theorem lh (f g:Str)(v:V):∀fs:List (Str×V),(cG f v fs).lookup g=if g=f then some v else fs.lookup g
 |[]=>by
  show List.lookup g [(f,v)]=_
  by_cases h:g=f
  ·have hb:(g==f)=true:=beq_iff_eq.mpr h
   simp only[List.lookup,hb,if_pos h]
  ·have hb:(g==f)=false:=beq_eq_false_iff_ne.mpr h
   simp only[List.lookup,hb,if_neg h]
 |(k,x) :: r=>by
  have ih:=lh f g v r
  rw[show cG f v ((k,x) :: r)=(if k=f then (k,v) :: r else (k,x) :: cG f v r) from rfl]
  by_cases hk:k=f
  ·rw[if_pos hk]
   by_cases h:g=k
   ·have hb:(g==k)=true:=beq_iff_eq.mpr h
    simp only[List.lookup,hb,if_pos (h.trans hk)]
   ·have hb:(g==k)=false:=beq_eq_false_iff_ne.mpr h
    simp only[List.lookup,hb,if_neg (fun e:g=f=>h (e.trans hk.symm))]
  ·rw[if_neg hk]
   by_cases h:g=k
   ·have hb:(g==k)=true:=beq_iff_eq.mpr h
    simp only[List.lookup,hb,if_neg (fun e:g=f=>hk (h.symm.trans e))]
   ·have hb:(g==k)=false:=beq_eq_false_iff_ne.mpr h
    simp only[List.lookup,hb]
    exact ih
theorem jX (f:Str)(v:V):∀fs:List (Str×V),f∈(cG f v fs).map (·.1)/\∀g,g∈fs.map (·.1)->g∈(cG f v fs).map (·.1)
 |[]=>⟨by simp[cG],fun g h=>by simp at h⟩
 |(k,x) :: r=>by
  obtain⟨i1,i2⟩:=jX f v r
  rw[show cG f v ((k,x) :: r)=(if k=f then (k,v) :: r else (k,x) :: cG f v r) from rfl]
  by_cases hk:k=f
  ·rw[if_pos hk]
   subst hk
   exact⟨by simp,fun g h=>by simpa using h⟩
  ·rw[if_neg hk]
   refine⟨?_,fun g h=>?_⟩
   ·rw[List.map_cons]
    exact List.mem_cons_of_mem _ i1
   ·rw[List.map_cons]at h ⊢
    rcases List.mem_cons.mp h with e|e
    ·exact List.mem_cons.mpr (.inl e)
    ·exact List.mem_cons_of_mem _ (i2 g e)
theorem ll (f:Str)(v:V):∀fs:List (Str×V),(cG f v fs).length<=fs.length+1
 |[]=>by simp[cG]
 |(k,x) :: r=>by
  have ih:=ll f v r
  rw[show cG f v ((k,x) :: r)=(if k=f then (k,v) :: r else (k,x) :: cG f v r) from rfl]
  by_cases hk:k=f
  ·rw[if_pos hk,List.length_cons,List.length_cons];omega
  ·rw[if_neg hk,List.length_cons,List.length_cons];omega
theorem RelO.some_of {v:V}{o:Option Value}(r:RelO (some v) o):∃u,o=some u/\RelV v u:=by
 cases o with
 |none=>exact (show False from r).elim
 |some u=>exact⟨u,rfl,r⟩
theorem vo {v:V}{u:Value}(r:RelV v u):PySem.W.handedIn u=true:=by
 cases v with
 |non=>cases (show u=Value.none from r);rfl
 |bl b=>cases (show u=Value.bool b from r);rfl
 |int i=>obtain⟨t,e⟩:=(show ∃t,u=Value.int i t from r);cases e;rfl
 |str x=>obtain⟨t,e⟩:=(show ∃t,u=Value.str x t from r);cases e;rfl
 |byt b=>obtain⟨t,e⟩:=(show ∃t,u=Value.bytes b t from r);cases e;rfl
 |flt b=>obtain⟨t,e⟩:=(show ∃t,u=Value.float b t from r);cases e;rfl
 |ref a=>cases (show u=Value.ref a from r);rfl
 |ty n=>cases (show u=Value.type n from r);rfl
section
variable {P:Program}{w:World}{H H':Hp}{h h':Heap}{a C dx:Addr}{fs fs':List (Str×V)}
theorem sr (hok:HOk P w H h)(e:H a=some (.ins C dx fs)):∃mA,ObjM h a dx C mA/\(∀f,RelO (fs.lookup f) (mA f))/\PySem.Within mA (fs.map (·.1))/\fs.length<=1000/\H dx=some (.own a):=by
 obtain⟨d,z,ne,ob,mA,n,r,q⟩:=(show ObjOk P w H h a (.ins C dx fs) from hok a _ e)
 exact⟨mA,⟨ob,n,ne⟩,r,q,z,d⟩
end
structure Cls (K:PySem.W.Frag)(C:Addr):Prop where
 pg:PySem.W.plainGet K C Str.empty=true
 hd:PySem.W.hasDictIn K C=true
 po:PySem.W.plainOver K C=true
 sa:PySem.W.findIn K (.ref C) "__setattr__"=some (some (.builtin "object.__setattr__"))
theorem Cls.get {K:PySem.W.Frag}{C:Addr}(c:Cls K C)(f:Str):PySem.W.plainGet K C f=true:=c.pg
def NoAttr (K:PySem.W.Frag)(C:Addr)(f:Str):Prop:=PySem.W.findIn K (.ref C) f=some none
theorem NoAttr.taker {K:PySem.W.Frag}{C:Addr}{f:Str}(n:NoAttr K C f):PySem.W.takerIn K C f=some none:=by
 unfold PySem.W.takerIn
 rw[show PySem.W.findIn K (.ref C) f=some none from n]
 rfl
structure Con (K:PySem.W.Frag)(C:Addr)(f:Str)(v:V)(u:Value):Prop where
 at_:PySem.W.findIn K (.ref C) f=some (some u)
 rel:RelV v u
 get:PySem.W.specialIn K u "__get__"=some none
 cp:PySem.W.copiedNames.contains f=false
structure Meth (K:PySem.W.Frag)(C:Addr)(m:Str)(f:Addr):Prop where
 at_:PySem.W.findIn K (.ref C) m=some (some (.ref f))
 fn:PySem.W.isFn K (.ref f)=true
 kp:PySem.W.keepIn K (.ref f)=true
section
variable {X:Cx}{pins:List (Addr×Obj)}{σ:St}{H:Hp}{s:Shared}{a C dx:Addr}{fs:List (Str×V)}{f:Str}{v:V}{A:Around}{E:Value->Shared->Prop}
theorem tJ {b:Bool}{Q:Value->Shared->Prop}(I:Inv X pins σ H s)(e:H a=some (.ins C dx fs))(c:Cls X.K C)(n:NoAttr X.K C f)(l:fs.lookup f=some v)
  (h:∀u s',Inv X pins σ H s'->RelV v u->Q u s'):wpAny (model X.prog X.w) A (getAttr (.ref a) f b) Q E s:=by
 obtain⟨mA,O,r,_,_,_⟩:=sr I.hok e
 obtain⟨u,hu,ru⟩:=RelO.some_of (v:=v) (o:=mA f) (by rw[<-l];exact r f)
 exact yd I.kIn O (c.get f) c.hd n hu (vo ru) (h u _ (I.tok _) ru)
theorem tI {y:V}{u:Value}{Q:Unit->Shared->Prop}(I:Inv X pins σ H s)(e:H a=some (.ins C dx fs))(c:Cls X.K C)(n:NoAttr X.K C f)(hl:fs.length<1000)(ry:RelV y u)
  (h:∀s',Inv X pins σ (upd H a (.ins C dx (cG f y fs))) s'->Q () s'):wpAny (model X.prog X.w) A (setAttr (.ref a) f u) Q E s:=by
 obtain⟨mA,O,r,wi,_,ho⟩:=sr I.hok e
 have hz:(fs.map (·.1)).length<=sizeLine:=by rw[List.length_map,sizeLine_eq];omega
 refine yy I.kIn O c.sa c.po n.taker c.hd wi hz fun h' O' sb=>h _ ?_
 have hd:∃o,h'.get? dx=some o:=let ⟨o,_,_,e',_⟩:=O'.ns;⟨o,e'⟩
 refine I.write (x:=a) (e:=dx) (by rw[e];exact True.intro) (.inr ho) (fun b q hb z=>(sb.2 b hb).trans z) hd ?_
 refine⟨by rw[ae O.ne];exact ho,?_,O.ne,O'.obj,_,O'.ns,fun g=>?_,fun g hg=>?_⟩
 ·have:=ll f y fs;omega
 ·show RelO ((cG f y fs).lookup g) (if g=f then some u else mA g)
  rw[lh]
  by_cases q:g=f
  ·rw[if_pos q,if_pos q];exact ry
  ·rw[if_neg q,if_neg q];exact r g
 ·by_cases q:g=f
  ·rw[q];exact (jX f y fs).1
  ·refine (jX f y fs).2 g (wi g fun z=>hg ?_)
   show (if g=f then some u else mA g)=none
   rw[if_neg q];exact z
theorem Inv.made (I:Inv X pins σ H s):Inv X pins σ (upd (upd H s.heap.objs.size (.own (s.heap.objs.size+1))) (s.heap.objs.size+1) (.ins C s.heap.objs.size []))
  { s with heap:=(s.heap.push PySem.W.emptyDict).push (PySem.W.instObj C s.heap.objs.size) }:=by
 have e1:(s.heap.push PySem.W.emptyDict).get? s.heap.objs.size=some PySem.W.emptyDict:=Heap.get?_push_size s.heap rfl
 have e2:((s.heap.push PySem.W.emptyDict).push (PySem.W.instObj C s.heap.objs.size)).get? (s.heap.objs.size+1)=some (PySem.W.instObj C s.heap.objs.size):=by
  have:=Heap.get?_push_size (s.heap.push PySem.W.emptyDict) (o:=PySem.W.instObj C s.heap.objs.size) rfl
  rwa [Heap.size_push]at this
 have e3:(s.heap.push PySem.W.emptyDict).Ns s.heap.objs.size (fun _=>none):=⟨PySem.W.emptyDict,#[],_,e1,rfl,(fun e he=>absurd he (by simp)),fun _=>rfl⟩
 have I1:=I.laid (a:=s.heap.objs.size) (o:=.own (s.heap.objs.size+1)) (h':=s.heap.push PySem.W.emptyDict) (t':=s.toks) (fun b u q=>Heap.get?_push_of_some _ q) (Nat.le_refl _) ⟨_,e1⟩
 refine I1.laid (a:=s.heap.objs.size+1) (o:=.ins C s.heap.objs.size []) (t':=s.toks) (fun b u q=>Heap.get?_push_of_some _ q) (Nat.le_of_eq (Heap.size_push _ _)) ?_
 have ne:s.heap.objs.size≠s.heap.objs.size+1:=Nat.ne_of_lt (Nat.lt_succ_self _)
 refine⟨by rw[ae ne,af],Nat.zero_le _,ne,e2,fun _=>none,(Heap.Ns1.of_empty e3).at fun o q=>Heap.get?_push_of_some _ q,fun _=>True.intro,fun y hy=>absurd rfl hy⟩
theorem yb {prog:Program}{w:World}{env:Env}{e:Expr}{f:Str}{pos:Pos}{s:Shared}{Q:Value->Shared->Prop}(hb:attributeBase e f env (eval e env)=eval e env)
  (h:wpAny (model prog w) A (eval e env) (fun o s₁=>wpAny (model prog w) A (getAttr o f true) Q E s₁) E s):wpAny (model prog w) A (eval (.Attribute e f pos) env) Q E s:=
 Attribute_any_ h (by rw[arm_eval_Attribute,hb])
end
def wf (K:PySem.W.Frag)(ta:TE)(f:Str):TE:=fun σ H Q=>ta σ H fun x H1=>∃a C dx fs v,x=.ref a/\H1 a=some (.ins C dx fs)/\Cls K C/\NoAttr K C f/\fs.lookup f=some v/\Q v H1
def Aj (K:PySem.W.Frag)(ta tv:TE)(f:Str):TS:=fun D σ H=>tv σ H fun y H1=>ta σ H1 fun x H2=>∃a C dx fs,x=.ref a/\H2 a=some (.ins C dx fs)/\Cls K C/\NoAttr K C f/\fs.length<1000/\
 D.nx σ (upd H2 a (.ins C dx (cG f y fs)))
section
variable {X:Cx}{o e value:Expr}{f:Str}{pos pos' tpos:Pos}{ta tv:TE}
theorem yX (he:PE X e ta)(hb:attributeBase e f X.env (eval e X.env)=eval e X.env):PE X (.Attribute e f pos) (wf X.K ta f):=by
 intro pins s σ H Q I h
 refine yb hb (thn (he pins s σ H _ I h) fun u s1 ⟨x,H1,I1,rx,a,C,dx,fs,v,ex,ea,c,n,l,q⟩=>?_)
 subst ex
 obtain rfl:u=Value.ref a:=rx
 exact tJ I1 ea c n l fun u' s2 I2 ru=>⟨v,H1,I2,ru,q⟩
theorem bY (ha:PE X o ta)(hv:PE X value tv)(hs:swapsWith value (some (.Attribute o f pos')) pos.line X.env=pure false):PS X (.Assign [.Attribute o f pos'] value pos) (Aj X.K ta tv f):=by
 intro pins s σ H D I h
 refine plainObj_wpAny_Assign_Attribute (thn (hv pins s σ H _ I h) fun u s1 ⟨y,H1,I1,ry,q⟩=>thn (ha pins s1 σ H1 _ I1 q) fun ov s2 ⟨x,H2,I2,rx,a,C,dx,fs,ex,ea,c,n,l,q2⟩=>?_) hs
 subst ex
 obtain rfl:ov=Value.ref a:=rx
 exact tI I2 ea c n l ry fun s3 I3=>⟨σ,_,I3,q2⟩
end
section
variable {X:Cx}{pins:List (Addr×Obj)}{σ:St}{H:Hp}{s:Shared}{A:Around}{E:Value->Shared->Prop}{Q:Value->Shared->Prop}{c:Value}{b:Bool}
inductive TyOf (K:PySem.W.Frag)(H:Hp):V->Value->Prop where
 |non:TyOf K H .non (.type "NoneType")
 |bl (x:Bool):TyOf K H (.bl x) (.type "bool")
 |int (i:Int):TyOf K H (.int i) (.type "int")
 |str (x:Str):TyOf K H (.str x) (.type "str")
 |flt (x:UInt64):TyOf K H (.flt x) (.type "float")
 |lst {a:Addr} {xs:List V} (e:H a=some (.lst xs)):TyOf K H (.ref a) (.type "list")
 |frz {a:Addr} {o:Obj} {xs:List V} (e:H a=some (.frz o (.lst xs))):TyOf K H (.ref a) (.type "list")
 |tup {a:Addr} {xs:List V} (e:H a=some (.tup xs)):TyOf K H (.ref a) (.type "tuple")
 |dK {a:Addr} {kvs:List (Key×V)} (e:H a=some (.dK kvs)):TyOf K H (.ref a) (.type "dict")
 |dT {a:Addr} {kvs:List (List Key×V)} (e:H a=some (.dT kvs)):TyOf K H (.ref a) (.type "dict")
 |ins {a C dx:Addr} {fs:List (Str×V)} (e:H a=some (.ins C dx fs)) (cl:Cls K C) (ha:PySem.W.findIn K (.ref C) "__class__"=some (some (.builtin "object.__class__")))
   (hn:PySem.W.specialIn K (.builtin "object.__class__") "__get__"=some (some (.builtin "getset_descriptor.__get__"))) (htk:PySem.W.takesIn K (.builtin "object.__class__")=some true)
   (hm:PySem.W.mroIn K C (.type "object")=some true):TyOf K H (.ref a) (.ref C)
end
structure Room (k:Nat)(A:Around):Prop where
 hd:A.handled=none
 dp:A.depth+3*k+5<recursionLimit
 un:A.units+16*k+200<cLine
theorem Room.mono {j k:Nat}{A:Around}(r:Room k A)(h:j<=k):Room j A:=⟨r.hd,by have:=r.dp;omega,by have:=r.un;omega⟩
theorem Room.deeper {k:Nat}{A:Around}(r:Room (k+1) A)(env:Env):Room k (A.deeper env):=
 ⟨r.hd,by have:=r.dp;show A.depth+1+3*k+5<_;omega,by have:=r.un;show A.units+3+16*k+200<_;omega⟩
theorem Room.in1 {k:Nat}{A:Around}(r:Room (k+1) A):Room k A.in1:=
 ⟨r.hd,by have:=r.dp;show A.depth+3*k+5<_;omega,by have:=r.un;show A.units+1+16*k+200<_;omega⟩
theorem tV {A:Around}{C:Addr}{us:List Value}{kw:List (Str×Value)}:(A.under (.builtin "type.__call__" ⟨.ref C :: us,kw⟩)).depth=A.depth+1:=by
 first|rfl|simp[Around.under,Code.weight,Code.isCreation,Code.isGuard,Code.isCaller,Code.frames,Code.isFrame,guardIds]
theorem ul {A:Around}{C:Addr}{us:List Value}{kw:List (Str×Value)}:(A.under (.builtin "type.__call__" ⟨.ref C :: us,kw⟩)).units=A.units+1:=by
 first|rfl|simp[Around.under,Code.cUnits,Code.frames,Code.isFrame]
theorem Room.make {k:Nat}{A:Around}(r:Room (k+1) A)(C:Addr)(us:List Value)(kw:List (Str×Value)):Room k (A.under (.builtin "type.__call__" ⟨.ref C :: us,kw⟩)):=
 ⟨r.hd,by have:=r.dp;rw[tV];omega,by have:=r.un;rw[ul];omega⟩
theorem Room.depth {k:Nat}{A:Around}(r:Room k A):A.depth<recursionLimit:=by have:=r.dp;omega
theorem Room.units {k:Nat}{A:Around}(r:Room k A):A.units+64<cLine:=by have:=r.un;omega
def ni:TA:=fun _ H Q=>Q [] H
def zx (ta:TE)(tr:TA):TA:=fun σ H Q=>ta σ H fun x H1=>tr σ H1 fun xs H2=>Q (x :: xs) H2
section
variable {X:Cx}{e:Expr}{es:List Expr}{te:TE}{t:TA}{pos:Pos}
theorem ah:PA X [] ni:=fun _ _ _ _ H Q I h=>Calls.spliced_nil ⟨[],H,I,.nil,h⟩
theorem ab (ha:PE X e te)(hr:PA X es t)(hs:starEach (e :: es) X.env=(false,eval e X.env) :: starEach es X.env:=by rfl):PA X (e :: es) (zx te t):=by
 intro pos pins s σ H Q I h
 rw[hs]
 show wpAny _ _ (spliced ((false,eval e X.env) :: backTo pos (starEach es X.env))) _ _ s
 refine Calls.spliced_cons (thn (ha pins s σ H _ I h) fun u s1 ⟨x,H1,I1,r1,q1⟩=>?_)
 exact thn (hr pos pins s1 σ H1 _ I1 q1) fun us s2 ⟨xs,H2,I2,r2,q2⟩=>⟨x :: xs,H2,I2,.cons r1 r2,q2⟩
def zV (t:TA):TE:=fun σ H Q=>t σ H fun xs H1=>xs.length<=sizeLine/\∀p,H1 p=none->Q (.ref p) (upd H1 p (.tup xs))
def Ah (t:TA):TE:=fun σ H Q=>t σ H fun xs H1=>xs.length<=sizeLine/\∀p,H1 p=none->Q (.ref p) (upd H1 p (.lst xs))
theorem iV {x1}(h:PA X es t):PE X (.Tuple es x1 pos) (zV t):=by
 intro pins s σ H Q I hq
 refine wpAny_Tuple_spliced (thn (h pos pins s σ H _ I hq) fun us s1 ⟨xs,H1,I1,r,z,q⟩=>⟨by rw[<-r.length];exact z,?_⟩)
 have hf:H1 s1.heap.objs.size=none:=I1.hok.fresh (Nat.le_refl _)
 refine⟨.ref s1.heap.objs.size,upd H1 s1.heap.objs.size (.tup xs),I1.laid (t':=s1.toks) (fun b u e=>Heap.get?_push_of_some _ e) (Nat.le_refl _) ?_,rfl,q _ hf⟩
 exact⟨z,us,r,⟨_,Heap.get?_push_size _ rfl,rfl,_,rfl⟩⟩
theorem cx (h:PA X es t):PE X (.List es pos) (Ah t):=by
 intro pins s σ H Q I hq
 refine wpAny_List_spliced (thn (h pos pins s σ H _ I hq) fun us s1 ⟨xs,H1,I1,r,z,q⟩=>⟨by rw[<-r.length];exact z,?_⟩)
 have hf:H1 s1.heap.objs.size=none:=I1.hok.fresh (Nat.le_refl _)
 refine⟨.ref s1.heap.objs.size,upd H1 s1.heap.objs.size (.lst xs),I1.laid (t':=s1.toks) (fun b u e=>Heap.get?_push_of_some _ e) (Nat.le_refl _) ?_,rfl,q _ hf⟩
 exact⟨z,us,0,r,Heap.get?_push_size _ rfl⟩
end
abbrev Sp:=List V->Hp->VK->XK->Prop
abbrev CXT:=List Env->Hp->Shared->XK->Value->Shared->Prop
structure Env0 (P:Program)(w:World)(K:PySem.W.Frag)(mg:Str->Option Value)(base:Heap)(A:Around)(outer:List Env)(s:Shared)(H:Hp):Prop where
 frames:A.frames=some outer
 mod:Mod K mg base
 bs:∀b o,base.get? b=some o->s.heap.get? b=some o/\H b=none
 bsz:base.objs.size<=s.heap.objs.size
 funs:s.heap.FunFrames base outer
 frf:∀b∈frs outer,H b=none
 hok:HOk P w H s.heap
 bare:AllBare s.gens
def CE (outer:List Env)(P:Program)(w:World)(H:Hp)(s:Shared)(Q:VK)(u:Value)(s':Shared):Prop:=
 ∃v H',s'.os=s.os/\AllBare s'.gens/\Un (frs outer) [] H H' s.heap s'.heap/\HOk P w H' s'.heap/\RelV v u/\Q v H'
def CR (CX:CXT)(outer:List Env)(P:Program)(w:World)(H:Hp)(s:Shared)(Q:VK)(E:XK)(r:Result)(s':Shared):Prop:=
 match r with
 |.ok (.ret u)=>CE outer P w H s Q u s'
 |.ok _=>False
 |.error e=>CX outer H s E e s'
structure FnOk (P:Program)(w:World)(K:PySem.W.Frag)(mg:Str->Option Value)(base:Heap)(CX:CXT)(k:Nat)(f:Addr)(fd:FuncData)(ps:List Str)(sp:Sp):Prop where
 len:∀vs H Q E,sp vs H Q E->vs.length=ps.length
 run:∀(A:Around)(outer:List Env)(s:Shared)(H:Hp)(args:Args)(us:List Value)(vs:List V)(Q:VK)(E:XK),Room k A->Env0 P w K mg base A outer s H->BindsTo s fd args (ps.zip us)->Vals vs us->sp vs H Q E->
  codeAny (model P w) A (.call (.ref f) args) (CR CX outer P w H s Q E) s
theorem FnOk.mono {P:Program}{w:World}{K:PySem.W.Frag}{mg:Str->Option Value}{base:Heap}{CX:CXT}{j k:Nat}{f:Addr}{fd:FuncData}{ps:List Str}{sp:Sp}(F:FnOk P w K mg base CX j f fd ps sp)(h:j<=k):
  FnOk P w K mg base CX k f fd ps sp:=⟨F.len,fun A outer s H args us vs Q E hr=>F.run A outer s H args us vs Q E (hr.mono h)⟩
theorem FnOk.imp {P:Program}{w:World}{K:PySem.W.Frag}{mg:Str->Option Value}{base:Heap}{CX:CXT}{k:Nat}{f:Addr}{fd:FuncData}{ps:List Str}{sp sp':Sp}(F:FnOk P w K mg base CX k f fd ps sp)
  (h:∀vs H Q E,sp' vs H Q E->sp vs H Q E):FnOk P w K mg base CX k f fd ps sp':=
 ⟨fun vs H Q E q=>F.len vs H Q E (h _ _ _ _ q),fun A outer s H args us vs Q E hr he hb hv hs=>F.run A outer s H args us vs Q E hr he hb hv (h _ _ _ _ hs)⟩
theorem Env0.make {P:Program}{w:World}{K:PySem.W.Frag}{mg:Str->Option Value}{base:Heap}{A:Around}{outer:List Env}{s:Shared}{H:Hp}(e:Env0 P w K mg base A outer s H)(C:Addr)(us:List Value)(kw:List (Str×Value)):
  Env0 P w K mg base (A.under (.builtin "type.__call__" ⟨.ref C :: us,kw⟩)) outer s H:=⟨by first|exact e.frames|(simpa[Around.under,Code.envs,Code.isFrame,pushEnvs] using e.frames),e.mod,e.bs,e.bsz,e.funs,e.frf,e.hok,e.bare⟩
theorem Env0.in1 {P:Program}{w:World}{K:PySem.W.Frag}{mg:Str->Option Value}{base:Heap}{A:Around}{outer:List Env}{s:Shared}{H:Hp}(e:Env0 P w K mg base A outer s H):
  Env0 P w K mg base A.in1 outer s H:=⟨e.frames,e.mod,e.bs,e.bsz,e.funs,e.frf,e.hok,e.bare⟩
section
variable {X:Cx}{pins:List (Addr×Obj)}{σ:St}{H:Hp}{s s':Shared}
theorem Inv.env0 (I:Inv X pins σ H s):Env0 X.prog X.w X.K X.mg X.base X.A X.stack s H:=
 ⟨I.ok.frames,I.ok.mod,I.bs,Nat.le_trans I.ok.bsz I.sz,I.stack,I.stkFree,I.hok,I.bare⟩
theorem Inv.after {Q:VK}{u:Value}(I:Inv X pins σ H s)(h:CE X.stack X.prog X.w H s Q u s'):EP X pins σ Q u s':=by
 obtain⟨v,H',os,bare,un,hok,r,q⟩:=h
 obtain⟨hh,g,d,t,os'⟩:=s'
 obtain rfl:os'=s.os:=os
 exact⟨v,H',I.call (h':=hh) (g':=g) (d':=d) (t':=t) (ch:=[]) un hok bare (fun b z=>absurd z (by simp)),r,q⟩
end
def px (sp:Sp)(dvs:List V)(E:XK)(t:TA):TE:=fun σ H Q=>t σ H fun vs H1=>sp (vs++dvs) H1 Q E
def xC (C:Addr)(sp:Sp)(dvs:List V)(E:XK)(t:TA):TE:=fun σ H Q=>t σ H fun vs H1=>∀x dx,H1 x=none->H1 dx=none->dx≠x->
 sp (.ref x :: (vs++dvs)) (upd (upd H1 dx (.own x)) x (.ins C dx [])) (fun v H2=>v=.non/\Q (.ref x) H2) E
def Binds (K:PySem.W.Frag)(fd:FuncData)(ps:List Str)(ds:List Value):Prop:=
 ∀(s:Shared)(us:List Value),K.In s.heap->(us++ds).length=ps.length->BindsTo s fd ⟨us,[]⟩ (ps.zip (us++ds))
theorem Binds.all {K:PySem.W.Frag}{fd:FuncData}{ps:List Str}(h:∀us:List Value,us.length=ps.length->bindArgs fd ⟨us,[]⟩=pure (ps.zip us)):Binds K fd ps []:=fun s us _ hl=>by
 rw[List.append_nil]at hl ⊢
 exact .of_eq (h us hl)
def iS (CX:CXT)(X:Cx)(E:XK):Prop:=∀(pins:List (Addr×Obj))(σ:St)(H:Hp)(s:Shared)(e:Value)(s':Shared),Inv X pins σ H s->CX X.stack H s E e s'->X.xe e s'
section
variable {X:Cx}{CX:CXT}{k:Nat}{f C:Addr}{fd:FuncData}{ps:List Str}{sp:Sp}{dvs:List V}{ds:List Value}{E:XK}{x m:Str}{p pos apos:Pos}{e o:Expr}{es:List Expr}{ta:TE}{t:TA}
theorem vR {pins:List (Addr×Obj)}{σ:St}{H:Hp}{s:Shared}{Q:VK}{us:List Value}{vs:List V}(F:FnOk X.prog X.w X.K X.mg X.base CX k f fd ps sp)(hr:Room k X.A)(hb:Binds X.K fd ps ds)(hd:Vals dvs ds)(hx:iS CX X E)
  (I:Inv X pins σ H s)(r:Vals vs us)(h:sp (vs++dvs) H Q E):wpAny (model X.prog X.w) X.A (call (.ref f) us) (EP X pins σ Q) X.xe s:=by
 have r2:Vals (vs++dvs) (us++ds):=r.append hd
 have hl:(us++ds).length=ps.length:=by rw[<-r2.length];exact F.len _ _ _ _ h
 refine wpAny_call (codeAny_mono (F.run X.A X.stack s H ⟨us,[]⟩ (us++ds) (vs++dvs) Q E hr I.env0 (hb s us I.kIn hl) r2 h) fun r s' hq=>?_)
 cases r with
 |error e=>exact hx pins σ H s e s' I hq
 |ok fl=>
  cases fl with
  |ret u=>exact I.after hq
  |next=>exact False.elim hq
  |brk=>exact False.elim hq
  |cont=>exact False.elim hq
theorem xV (F:FnOk X.prog X.w X.K X.mg X.base CX k f fd ps sp)(hr:Room k X.A)(hg:Gl X x)(hm:X.mg x=some (.ref f))(hk:PySem.W.keepIn X.K (.ref f)=true)(hb:Binds X.K fd ps ds)(hd:Vals dvs ds)(hx:iS CX X E)
  (ha:PA X (e :: es) t) (hdb:(x==("__debug__":Str))=false:=by decide) (he:starEach (e :: es) X.env=(false,eval e X.env) :: starEach es X.env:=by rfl) (hpl:(backTo pos (starEach es X.env)).any (·.1)=false:=by rfl) :
  PE X (.Call (.Name x p) (e :: es) [] pos) (px sp dvs E t):=by
 intro pins s σ H Q I h
 refine wpAny_Call_Name_kw (i8 I hg hm ?_ hdb)
 refine PySem.W.callWith_K (h₀:=X.base) I.ok.mod.kin hk (thn (ha pos pins s σ H _ I h) fun us s1 ⟨vs,H1,I1,r,q⟩=>⟨I1.kIn,?_⟩) he hpl
 exact vR F hr hb hd hx I1 r q
theorem wx (F:FnOk X.prog X.w X.K X.mg X.base CX k f fd ps sp)(hr:Room k X.A)(hg:Gl X x)(hm:X.mg x=some (.ref f))(hk:PySem.W.keepIn X.K (.ref f)=true)(hb:Binds X.K fd ps ds)(hd:Vals dvs ds)(hx:iS CX X E)
  (hdb:(x==("__debug__":Str))=false:=by decide):PE X (.Call (.Name x p) [] [] pos) (px sp dvs E ni):=by
 intro pins s σ H Q I h
 refine wpAny_Call_Name_kw (i8 I hg hm ?_ hdb)
 exact PySem.W.callWith_K0 I.kIn hk (vR (us:=[]) F hr hb hd hx I .nil h)
structure Mk (K:PySem.W.Frag)(C f:Addr):Prop where
 makes:PySem.W.makesIn K C=true
 init:PySem.W.findIn K (.ref C) "__init__"=some (some (.ref f))
 fn:PySem.W.isFn K (.ref f)=true
 kp:PySem.W.keepIn K (.ref C)=true
theorem qQ {pins:List (Addr×Obj)}{σ:St}{H:Hp}{s:Shared}{Q:VK}{us:List Value}{vs:List V}(M:Mk X.K C f)(F:FnOk X.prog X.w X.K X.mg X.base CX k f fd ps sp)(hr:Room (k+1) X.A)(hb:Binds X.K fd ps ds)(hd:Vals dvs ds)
  (hx:iS CX X E)(I:Inv X pins σ H s)(r:Vals vs us)
  (h:∀x dx,H x=none->H dx=none->dx≠x->sp (.ref x :: (vs++dvs)) (upd (upd H dx (.own x)) x (.ins C dx [])) (fun v H2=>v=.non/\Q (.ref x) H2) E):
  wpAny (model X.prog X.w) X.A (call (.ref C) us) (EP X pins σ Q) X.xe s:=by
 have hq:=h (s.heap.objs.size+1) s.heap.objs.size (I.hok.fresh (Nat.le_succ _)) (I.hok.fresh (Nat.le_refl _)) (Nat.ne_of_lt (Nat.lt_succ_self _))
 have I2:=Inv.made (C:=C) I
 have r2:Vals (V.ref (s.heap.objs.size+1) :: (vs++dvs)) (Value.ref (s.heap.objs.size+1) :: (us++ds)):=.cons rfl (r.append hd)
 have hl:(Value.ref (s.heap.objs.size+1) :: us++ds).length=ps.length:=by
  have e:=r2.length
  rw[F.len _ _ _ _ hq]at e
  exact e.symm
 refine wpAny_call (w6 (f:=f) I.kIn M.makes M.init (beq_iff_eq.mp M.fn) (codeAny_mono (F.run _ X.stack _ _ ⟨Value.ref (s.heap.objs.size+1) :: us,[]⟩ (Value.ref (s.heap.objs.size+1) :: (us++ds)) _ _ E (hr.make C us [])
  (I2.env0.make C us []) (hb _ (Value.ref (s.heap.objs.size+1) :: us) I2.kIn hl) r2 hq) fun r s' hq'=>?_))
 cases r with
 |error e=>exact hx pins σ _ _ e s' I2 hq'
 |ok fl=>
  cases fl with
  |ret u=>
   obtain⟨v,H',I3,rv,ev,q3⟩:=I2.after hq'
   subst ev
   exact⟨rv,⟨V.ref (s.heap.objs.size+1),H',I3,rfl,q3⟩⟩
  |next=>exact False.elim hq'
  |brk=>exact False.elim hq'
  |cont=>exact False.elim hq'
theorem wY (M:Mk X.K C f)(F:FnOk X.prog X.w X.K X.mg X.base CX k f fd ps sp)(hr:Room (k+1) X.A)(hg:Gl X x)(hm:X.mg x=some (.ref C))(hb:Binds X.K fd ps ds)(hd:Vals dvs ds)(hx:iS CX X E)
  (hdb:(x==("__debug__":Str))=false:=by decide):PE X (.Call (.Name x p) [] [] pos) (xC C sp dvs E ni):=by
 intro pins s σ H Q I h
 refine wpAny_Call_Name_kw (i8 I hg hm ?_ hdb)
 exact PySem.W.callWith_K0 I.kIn M.kp (qQ (us:=[]) M F hr hb hd hx I .nil h)
end
section
variable {X:Cx}{CX:CXT}{k:Nat}{f C:Addr}{fd:FuncData}{ps ks:List Str}{sp:Sp}{E:XK}{x m:Str}{p pos apos kpos:Pos}{e o:Expr}{es:List Expr}{kws:List Keyword}{te ta:TE}{t tk:TA}{nm:Option Str}
structure KBinds (K:PySem.W.Frag)(fd:FuncData)(ps ks:List Str)(g:List Value->List Value->List Value)(gV:List V->List V->List V):Prop where
 to:∀(s:Shared)(us ws:List Value),K.In s.heap->(g us ws).length=ps.length->BindsTo s fd ⟨us,ks.zip ws⟩ (ps.zip (g us ws))
 rel:∀{vs:List V} {us:List Value} {zs:List V} {ws:List Value},Vals vs us->Vals zs ws->Vals (gV vs zs) (g us ws)
variable {g:List Value->List Value->List Value}{gV:List V->List V->List V}
end
structure FnScope (N P:List Str)(sc:Scope):Prop where
 kind:sc.kind=.function
 co:sc.isCoroutine=false
 gen:sc.isGenerator=false
 nd:N.Nodup
 pre:N.take P.length=P
 par:∀x∈P,sc.names.lookup x=some .local∨sc.names.lookup x=some .cell
 nofree:∀y∈sc.names,y.2≠.free
theorem nU {kindOf:Str->Option NameKind}{x:Str}:∀{binds:List (Str×Value)} {m:Str->Option Value},(∀v,(x,v) ∉ binds)->bindL kindOf binds m x=m x
 |[],_,_=>rfl
 |(n,v) :: r,m,h=>by
  unfold bindL
  rw[nU fun w hw=>h w (List.mem_cons_of_mem _ hw)]
  split
  ·have:x≠n:=by rintro rfl;exact h v List.mem_cons_self
   simp[this]
  ·rfl
theorem nR {kindOf:Str->Option NameKind}{x:Str}:∀{binds:List (Str×Value)} {m:Str->Option Value},(∀v,(x,v) ∉ binds)->bindC kindOf binds m x=m x
 |[],_,_=>rfl
 |(n,v) :: r,m,h=>by
  unfold bindC
  rw[nR fun w hw=>h w (List.mem_cons_of_mem _ hw)]
  split
  ·rfl
  ·have:x≠n:=by rintro rfl;exact h v List.mem_cons_self
   simp[this]
theorem oK {kindOf:Str->Option NameKind}{x:Str}{v:Value}:∀{P:List Str} {vs:List Value} {i:Nat} {m:Str->Option Value},P.Nodup->P[i]?=some x->vs[i]?=some v->kindOf x=some .local->
  bindL kindOf (P.zip vs) m x=some v
 |[],_,_,_,_,h,_,_=>by simp at h
 |_ :: _,[],_,_,_,_,h,_=>by simp at h
 |p :: P,w :: vs,0,m,nd,h1,h2,hk=>by
  simp at h1 h2;subst h1;subst h2
  show bindL kindOf ((p,w) :: P.zip vs) m p=_
  unfold bindL
  rw[nU fun v hv=>(List.nodup_cons.mp nd).1 (List.of_mem_zip hv).1,if_pos hk]
  simp
 |p :: P,w :: vs,i+1,m,nd,h1,h2,hk=>by
  show bindL kindOf ((p,w) :: P.zip vs) m x=_
  unfold bindL
  exact oK (i:=i) (List.nodup_cons.mp nd).2 (by simpa using h1) (by simpa using h2) hk
theorem oh {kindOf:Str->Option NameKind}{x:Str}{v:Value}:∀{P:List Str} {vs:List Value} {i:Nat} {m:Str->Option Value},P.Nodup->P[i]?=some x->vs[i]?=some v->kindOf x≠some .local->
  bindC kindOf (P.zip vs) m x=some v
 |[],_,_,_,_,h,_,_=>by simp at h
 |_ :: _,[],_,_,_,_,h,_=>by simp at h
 |p :: P,w :: vs,0,m,nd,h1,h2,hk=>by
  simp at h1 h2;subst h1;subst h2
  show bindC kindOf ((p,w) :: P.zip vs) m p=_
  unfold bindC
  rw[nR fun v hv=>(List.nodup_cons.mp nd).1 (List.of_mem_zip hv).1,if_neg hk]
  simp
 |p :: P,w :: vs,i+1,m,nd,h1,h2,hk=>by
  show bindC kindOf ((p,w) :: P.zip vs) m x=_
  unfold bindC
  exact oh (i:=i) (List.nodup_cons.mp nd).2 (by simpa using h1) (by simpa using h2) hk
def start (N:List Str)(vs:List V):St:=vs.map some++List.replicate (N.length-vs.length) none
def jf (CX:CXT)(P:Program)(w:World)(K:PySem.W.Frag)(mg:Str->Option Value)(base:Heap)(N:List Str)(qual:Str)(scope:Scope)(f:Addr)(cd:Value)(A:Around)(outer:List Env)(s:Shared)(H:Hp)(E:XK):Cx where
 prog:=P
 w:=w
 K:=K
 mg:=mg
 base:=base
 A:=A.deeper (envOfC qual scope s.heap.objs.size f cd)
 N:=N
 s_0:=s
 H_0:=H
 env:=envOfC qual scope s.heap.objs.size f cd
 outer:=outer
 stack:=envOfC qual scope s.heap.objs.size f cd :: outer
 ex:=[]
 calm:=true
 fn:=fun _=>true
 pn:=[]
 xe:=fun e s'=>wpAny (model P w) (A.deeper (envOfC qual scope s.heap.objs.size f cd)) (leaving (envOfC qual scope s.heap.objs.size f cd) e) (fun _ s''=>CX outer H s E e s'') (fun e' s''=>CX outer H s E e' s'') s'
theorem qp {sc:Scope}{n:Nat}{x:Str}(h:sc.names.lookup x=some .cell):∃c,(cellsFrom n sc.names []).lookup x=some c:=by
 have q:=PySem.W.cellsFrom_some sc.names n [] (.inl h)
 exact Option.isSome_iff_exists.mp q
theorem vX {CX:CXT}{P:Program}{w:World}{K:PySem.W.Frag}{mg:Str->Option Value}{base:Heap}{N ps:List Str}{qual:Str}{scope:Scope}{f:Addr}{cd:Value}{A:Around}{outer:List Env}{s s1:Shared}{H:Hp}{E:XK}{us:List Value}{vs:List V}
  (S:FnScope N ps scope)(hd:A.handled=none)(e0:Env0 P w K mg base A outer s H)(hl:vs.length=ps.length)(r:Vals vs us)
  (x:InCallC s s.heap.objs.size (bindL (envOfC qual scope s.heap.objs.size f cd).kindOf (ps.zip us) fun _=>none) (cellsFrom (s.heap.objs.size+1) scope.names []) (bindC (envOfC qual scope s.heap.objs.size f cd).kindOf (ps.zip us) fun _=>none) s1):
  Inv (jf CX P w K mg base N qual scope f cd A outer s H E) [] (start N vs) H s1:=by
 have hpl:ps.length<=N.length:=by have:=congrArg List.length S.pre;rw[List.length_take]at this;omega
 obtain⟨h1,tk,rfl,hk⟩:=x.done
 have noA:∀b:Addr,b ∉ (jf CX P w K mg base N qual scope f cd A outer s H E).ex:=fun b z=>absurd (show b∈([]:List Addr) from z) (by simp)
 refine⟨⟨e0.mod,S.kind,rfl,rfl,Nat.le_refl _,fun y z c h1 h2=>?_,fun y hy=>?_,fun y c _ h=>?_,fun _=>hd,Around.frames_deeper e0.frames,.inr ⟨rfl,rfl⟩,fun b z=>absurd z (noA b),e0.bs,e0.bsz,fun b _ _=>noA b,fun b z=>absurd z (noA b),e0.funs,e0.frf⟩,
  rfl,e0.bare,Un.kept hk,⟨_,x.toInCall.ns,fun i y v h1 h2 h3=>?_⟩,fun y c h=>⟨_,x.cell y c h⟩,e0.hok.fresh (Nat.le_refl _),fun y c h=>?_,fun p hp=>absurd (show p∈([]:List (Addr×Obj)) from hp) (by simp),e0.hok.kept hk,?_⟩
 ·exact name_of_addr x.apart (PySem.mem_of_lookup h1) (PySem.mem_of_lookup h2)
 ·have hy:scope.names.lookup y=some .cell∨scope.names.lookup y=some .free:=hy
  rcases hy with hy|hy
  ·exact qp hy
  ·exact absurd rfl (S.nofree _ (PySem.mem_of_lookup hy))
 ·exact Nat.le_of_lt (x.above y c (PySem.mem_of_lookup h))
 ·have hi:i<vs.length:=by
   unfold start at h2
   by_cases hi:i<vs.length
   ·exact hi
   ·rw[List.getElem?_append_right (by simpa using hi)]at h2
    rw[List.getElem?_replicate]at h2
    split at h2<;>cases h2
  have ha:vs[i]?=some v:=by
   unfold start at h2
   rw[List.getElem?_append_left (by simpa using hi),List.getElem?_map]at h2
   cases e:vs[i]? with
   |none=>rw[e]at h2;cases h2
   |some a=>rw[e]at h2;cases h2;rfl
  obtain⟨u,hu,rv⟩:=r.get ha
  have hp:ps[i]?=some y:=by
   rw[<-S.pre,List.getElem?_take_of_lt (by omega)];exact h1
  have ndP:ps.Nodup:=by rw[<-S.pre];exact S.nd.sublist (List.take_sublist _ _)
  refine⟨u,rv,?_⟩
  rcases S.par y (List.mem_of_getElem? hp) with k|k
  ·exact .inl ⟨k,oK ndP hp hu k⟩
  ·obtain⟨c,e⟩:=qp (n:=s.heap.objs.size+1) k
   refine .inr ⟨.inl k,c,e,?_⟩
   have q:=x.cell y c e
   rw[oh ndP hp hu (by show scope.names.lookup y≠_;rw[k];decide)]at q
   exact q
 ·exact e0.hok.fresh (Nat.le_of_lt (x.above y c (PySem.mem_of_lookup h)))
 ·unfold start
  show _=N.length
  rw[List.length_append,List.length_map,List.length_replicate]
  omega
theorem xF {CX:CXT}{P:Program}{w:World}{K:PySem.W.Frag}{mg:Str->Option Value}{base:Heap}{k:Nat}{f:Addr}{name qual:Str}{params:Arguments}{body:List Stmt}{scope:Scope}{dV kV doc pm cdv ct oc:Value}{an od:Option Addr}
  {osl:Array (Option Value)}{N ps:List Str}{sp:Sp}(lk:K.lookup f=some ⟨oc,od,.func (PySem.W.fnOf name qual params body scope dV kV doc pm an cdv ct),osl⟩)(hcd:PySem.W.codeIn K cdv qual=true)(S:FnScope N ps scope)
  (len:∀vs H Q E,sp vs H Q E->vs.length=ps.length)
  (hbody:∀(A:Around)(outer:List Env)(s:Shared)(H:Hp)(vs:List V)(Q:VK)(E:XK),Room k (A.deeper (envOfC qual scope s.heap.objs.size f cdv))->sp vs H Q E->
   ∃t,PSs (jf CX P w K mg base N qual scope f cdv A outer s H E) body t/\t { nx:=fun _ H'=>Q .non H',rt:=Q } (start N vs) H) :
  FnOk P w K mg base CX (k+1) f (PySem.W.fnOf name qual params body scope dV kV doc pm an cdv ct) ps sp:=by
 refine⟨len,fun A outer s H args us vs Q E hr e0 hb r hsp=>?_⟩
 have hl:=len _ _ _ _ hsp
 have KX:K.In s.heap:=e0.mod.kin.keeps fun b o e=>(e0.bs b o e).1
 have lim:s.heap.NoLimit:=e0.mod.nolimit.keeps fun b o e=>(e0.bs b o e).1
 have hkind:∀y∈ps.zip us,scope.names.lookup y.1=some .local∨(scope.names.lookup y.1=some .cell/\((cellsFrom (s.heap.objs.size+1) scope.names []).lookup y.1).isSome=true):=fun ⟨n,v⟩ hy=>by
  rcases S.par n (List.of_mem_zip hy).1 with q|q
  ·exact .inl q
  ·exact .inr ⟨q,PySem.W.cellsFrom_some _ _ _ (.inl q)⟩
 refine codeAny_call_function hr.depth (KX _ _ lk) rfl S.co S.gen rfl (PySem.W.codeRec_of KX hcd) (hb _ _ _ _ ?_)
 refine wpAny_newFunctionEnv_cells S.kind hkind fun env he s1 x=>?_
 subst he
 refine⟨lim.keeps x.toInCall.keep,codeAny_func ?_⟩
 obtain⟨t,ht,hq⟩:=hbody A outer s H vs Q E (hr.deeper _) hsp
 have I:Inv (jf CX P w K mg base N qual scope f cdv A outer s H E) [] (start N vs) H s1:=vX S hr.hd e0 hl r x
 refine wpAny_mono (ht [] s1 (start N vs) H _ I hq) (fun fl s' hs=>?_) fun e s' hs=>hs
 have fin:∀{σ':St} {H':Hp} {v:V} {u:Value},Inv (jf CX P w K mg base N qual scope f cdv A outer s H E) [] σ' H' s'->RelV v u->Q v H'->CE outer P w H s Q u s':=
  fun {σ' H' v u} J rv q=>⟨v,H',J.os,J.bare,J.base,J.hok,rv,q⟩
 cases fl with
 |ret u=>
  obtain⟨v,σ',H',J,rv,q⟩:=hs
  exact fin J rv q
 |next=>
  obtain⟨σ',H',J,q⟩:=hs
  exact fin (v:=V.non) (u:=Value.none) J rfl q
 |brk=>
  obtain⟨_,_,_,q⟩:=hs
  exact False.elim q
 |cont=>
  obtain⟨_,_,_,q⟩:=hs
  exact False.elim q
section
variable {X:Cx}{x:Str}{p pos:Pos}{e:Expr}{es:List Expr}{t:TA}{id T:String}{r:List V->Hp->VK->Prop}
def tCB (r:List V->Hp->VK->Prop)(t:TA):TE:=fun σ H Q=>t σ H fun vs H1=>r vs H1 Q
theorem aI (hc:c9 X (.builtin id) r) (hg:Gl X x) (hm:X.mg x=none) (hv:bootBuiltins x=some (.builtin id)) (ha:PA X (e :: es) t) (hn:x≠"__name__":=by decide) (hdb:(x==("__debug__":Str))=false:=by decide)
  (he:starEach (e :: es) X.env=(false,eval e X.env) :: starEach es X.env:=by rfl) (hpl:(backTo pos (starEach es X.env)).any (·.1)=false:=by rfl):PE X (.Call (.Name x p) (e :: es) [] pos) (tCB r t):=by
 intro pins s σ H Q I h
 refine wpAny_Call_Name_kw (i7 I hg hm hv ?_ hn hdb)
 exact PyProof.Rows.callWith_builtin1 (thn (ha pos pins s σ H _ I h) fun us s1 ⟨vs,H1,I1,r1,q1⟩=>hc pins s1 σ H1 vs us Q I1 r1 q1) he hpl
theorem dI (hc:c9 X (.type T) r) (hg:Gl X x) (hm:X.mg x=none) (hv:bootBuiltins x=some (.type T)) (ha:PA X (e :: es) t) (hn:x≠"__name__":=by decide) (hdb:(x==("__debug__":Str))=false:=by decide)
  (he:starEach (e :: es) X.env=(false,eval e X.env) :: starEach es X.env:=by rfl) (hpl:(backTo pos (starEach es X.env)).any (·.1)=false:=by rfl):PE X (.Call (.Name x p) (e :: es) [] pos) (tCB r t):=by
 intro pins s σ H Q I h
 refine wpAny_Call_Name_kw (i7 I hg hm hv ?_ hn hdb)
 exact PyProof.Rows.callWith_type1 (thn (ha pos pins s σ H _ I h) fun us s1 ⟨vs,H1,I1,r1,q1⟩=>hc pins s1 σ H1 vs us Q I1 r1 q1) he hpl
end
end L2
namespace HT
open PySem PyProof.Rows
def lexLt:List Int->List Int->Bool
 |[],[]=>false
 |[],_ :: _=>true
 |_ :: _,[]=>false
 |x :: xs,y :: ys=>if x=y then lexLt xs ys else decide (x<y)
section
open PySem.SeqAt
open PySem.AutoSeq1 (wpAny_loadPart')
open PySem.MeetsSeq PySem.MeetsSeq2 PySem.MeetsSeq3
end
section
variable {prog:Program}{w:World}{A:Around}{E:Value->Shared->Prop}{s:Shared}
def sIx (n d:Nat):Option Int->Nat
 |none=>d
 |some v=>if v<0 then (v+(n:Int)).toNat else min v.toNat n
theorem sIx_none (n d:Nat):sIx n d none=d:=rfl
theorem sIx_nat (n d k:Nat):sIx n d (some (k:Int))=min k n:=by
 show (if (k:Int)<0 then ((k:Int)+(n:Int)).toNat else min (k:Int).toNat n)=min k n
 rw[if_neg (by omega),Int.toNat_natCast]
theorem sIx_le (n d:Nat)(hd:d<=n)(o:Option Int):sIx n d o<=n:=by
 cases o with
 |none=>exact hd
 |some v=>
  show (if v<0 then (v+(n:Int)).toNat else min v.toNat n)<=n
  by_cases hv:v<0
  ·rw[if_pos hv];omega
  ·rw[if_neg hv];exact Nat.min_le_right _ _
end
end HT
namespace L2
open PySem PySem.Spec PyProof.Rows
abbrev TO:=St->Hp->(Option Int->Hp->Prop)->Prop
def PO (X:Cx)(e:Option Expr)(t:TO):Prop:=
 ∀(pins:List (Addr×Obj))(s:Shared)(σ:St)(H:Hp)(Q:Option Int->Hp->Prop),Inv X pins σ H s->t σ H Q->
  wpAny (model X.prog X.w) X.A (evalPart e X.env) (fun u s'=>∃o H',Inv X pins σ H' s'/\IsPart u o/\Q o H') X.xe s
def xT:TO:=fun _ H Q=>Q none H
def zA (t:TE):TO:=fun σ H Q=>t σ H fun x H1=>∃i,x=.int i/\Q (some i) H1
section
variable {X:Cx}{e:Expr}{te:TE}{lo hi:Option Expr}{tl th:TO}{pos p2:Pos}
theorem i5:PO X none xT:=by
 intro pins s σ H Q I h
 rw[evalPart_none]
 exact wpAny_pure ⟨none,H,I,.none,h⟩
theorem dN (h:PE X e te):PO X (some e) (zA te):=by
 intro pins s σ H Q I hw
 rw[evalPart_some]
 refine thn (h pins s σ H _ I hw) fun u s1 ⟨x,H1,I1,r1,q1⟩=>?_
 obtain⟨i,rfl,q⟩:=q1
 obtain⟨t,rfl⟩:=r1
 exact⟨some i,H1,I1,.int i t,q⟩
def SlR (X:Cx)(r:V->Option Int->Option Int->Hp->VK->Prop):Prop:=
 ∀(pins:List (Addr×Obj))(s:Shared)(σ:St)(H:Hp)(x:V)(v vl vu:Value)(lo hi:Option Int)(sl:Addr)(Q:VK),Inv X pins σ H s->RelV x v->s.heap.IsSliceOf sl vl vu .none->IsPart vl lo->IsPart vu hi->r x lo hi H Q->
  ∃T id,typeLookup (.type T) "__getitem__"=pure (some (.builtin id))/\s.TypeIs v T/\wpAny (model X.prog X.w) X.A (getItem v (.ref sl)) (EP X pins σ Q) X.xe s
def tSl (r:V->Option Int->Option Int->Hp->VK->Prop)(te:TE)(tl th:TO):TE:=fun σ H Q=>te σ H fun x H1=>tl σ H1 fun l H2=>th σ H2 fun u H3=>r x l u H3 Q
theorem eE {r:V->Option Int->Option Int->Hp->VK->Prop}(hr:SlR X r)(he:PE X e te)(hl:PO X lo tl)(hu:PO X hi th):PE X (.Subscript e (.Slice lo hi none p2) pos) (tSl r te tl th):=by
 intro pins s σ H Q I h
 refine Subscript_ (thn (he pins s σ H _ I h) fun v s1 ⟨x,H1,I1,r1,q1⟩=>?_)
 refine wpAny_Slice (thn (hl pins s1 σ H1 _ I1 q1) fun vl s2 ⟨l,H2,I2,pl,q2⟩=>thn (hu pins s2 σ H2 _ I2 q2) fun vu s3 ⟨u,H3,I3,pu,q3⟩=>?_)
 rw[evalPart_none]
 refine wpAny_pure ?_
 have I4:Inv X pins σ H3 { s3 with heap:=s3.heap.push { cls:=.type "slice",data:=.fields #[vl,vu,.none] } }:=I3.kept (t':=s3.toks) fun b ob q=>Heap.get?_push_of_some _ q
 obtain⟨T,id,hT,ht,hg⟩:=hr pins { s3 with heap:=s3.heap.push { cls:=.type "slice",data:=.fields #[vl,vu,.none] } } σ H3 x v vl vu l u s3.heap.objs.size Q I4 r1 (Heap.IsSliceOf.new ..) pl pu q3
 show wpAny (model X.prog X.w) X.A (subscriptTail e (.Slice lo hi none p2) v (.ref s3.heap.objs.size)) (EP X pins σ Q) X.xe { s3 with heap:=s3.heap.push { cls:=.type "slice",data:=.fields #[vl,vu,.none] } }
 exact tail_any (ops:=[.ref s3.heap.objs.size,v]) ht hT hg (by with_unfolding_all rfl)
def kB (xs:List V)(lo hi:Option Int):List V:=(xs.drop (HT.sIx xs.length 0 lo)).take (HT.sIx xs.length xs.length hi-HT.sIx xs.length 0 lo)
theorem rN (xs:List V)(lo hi:Option Int):(kB xs lo hi).length<=xs.length:=by
 unfold kB
 rw[List.length_take,List.length_drop]
 omega
end
def ixN (n:Nat)(i:Int):Option Nat:=if 0<=i then (if i<n then some i.toNat else none) else if -(n:Int)<=i then some (i+n).toNat else none
def atI {α:Type}(xs:List α)(i:Int):Option α:=(ixN xs.length i).bind fun j=>xs[j]?
theorem sB {n:Nat}{i:Int}{j:Nat}(h:ixN n i=some j):seqIndex? i n=some j/\j<n/\-(n:Int)<=i/\i<n:=by
 unfold ixN at h
 by_cases h0:0<=i
 ·rw[if_pos h0]at h
  by_cases h1:i<n
  ·rw[if_pos h1]at h
   have e:i.toNat=j:=Option.some.inj h
   exact⟨by rw[seqIndex_of h0 h1,e],by omega,by omega,h1⟩
  ·rw[if_neg h1]at h;cases h
 ·rw[if_neg h0]at h
  by_cases h1:-(n:Int)<=i
  ·rw[if_pos h1]at h
   have e:(i+n).toNat=j:=Option.some.inj h
   exact⟨by rw[seqIndex_neg (by omega) h1,e],by omega,h1,by omega⟩
  ·rw[if_neg h1]at h;cases h
theorem so {α:Type}{xs:List α}{i:Int}{v:α}(h:atI xs i=some v):∃j,seqIndex? i xs.length=some j/\xs[j]?=some v/\j<xs.length/\-(xs.length:Int)<=i/\i<xs.length:=by
 unfold atI at h
 cases e:ixN xs.length i with
 |none=>rw[e]at h;cases h
 |some j=>
  rw[e]at h
  obtain⟨h1,h2,h3,h4⟩:=sB e
  exact⟨j,h1,h,h2,h3,h4⟩
theorem bu {α:Type}{xs:List α}{j:Nat}{v:α}(h:xs[j]?=some v):atI xs (j:Int)=some v:=by
 have hj:j<xs.length:=(List.getElem?_eq_some_iff.mp h).1
 have e:ixN xs.length (j:Int)=some j:=by
  unfold ixN
  rw[if_pos (by omega),if_pos (by omega)];simp
 unfold atI;rw[e];exact h
def yD (b:Expr):Prop:=∀o i,subscripted b false o i=operate [o,i] (getItem o i)
def IxR (X:Cx)(r:R2):Prop:=
 ∀(value slice:Expr)(pins:List (Addr×Obj))(s:Shared)(σ:St)(H:Hp)(x y:V)(v u:Value)(Q:VK),Inv X pins σ H s->RelV x v->RelV y u->r x y H Q->
  subscripted slice false v u=operate [v,u] (getItem v u)->wpAny (model X.prog X.w) X.A (subscriptTail value slice v u) (EP X pins σ Q) X.xe s
def MtR (X:Cx)(id:String)(r:V->List V->Hp->VK->Prop):Prop:=
 ∀(pins:List (Addr×Obj))(s:Shared)(σ:St)(H:Hp)(x:V)(xs:List V)(v:Value)(us:List Value)(Q:VK),Inv X pins σ H s->RelV x v->Vals xs us->r x xs H Q->
  wpAny (model X.prog X.w) X.A (call (.builtin id) (v :: us)) (EP X pins σ Q) X.xe s
section
variable {X:Cx}{a b:Expr}{ta tb:TE}{pos:Pos}
theorem bH {r:R2}(hr:IxR X r)(ha:PE X a ta)(hb:PE X b tb)(hs:yD b):PE X (.Subscript a b pos) (tOp r ta tb):=by
 intro pins s σ H Q I h
 exact Subscript_ (xr ha hb I h fun v u s2 x y H2 I2 rx ry q=>hr a b pins s2 σ H2 x y v u Q I2 rx ry q (hs _ _))
def za (K:PySem.W.Frag):R2:=fun x y H Q=>∃p xs i v,x=.ref p/\y=.int i/\SqL K H p xs/\atI xs i=some v/\Q v H
def Ag:R2:=fun x y H Q=>∃z i c,x=.str z/\y=.int i/\z.length<=sizeLine/\atI z.cps.toList i=some c/\Q (.str ⟨#[c]⟩) H
theorem bf:IxR X (za X.K):=by
 intro value slice pins s σ H x y v u Q I rx ry h hs
 obtain⟨p,xs,i,z,rfl,rfl,hq,he,q⟩:=h
 cases rx
 obtain⟨t,rfl⟩:=ry
 obtain⟨its,r,pl,hz⟩:=I.list hq
 obtain⟨j,h1,h2,h3,h4,h5⟩:=so he
 obtain⟨w,ew,rw'⟩:=r.get h2
 have hl:=r.length
 have hn:=kg
 have fin:EP X pins σ Q w s:=⟨z,H,I,rw',q⟩
 by_cases h0:0<=i
 ·have hj:i.toNat=j:=by
   rw[seqIndex_of h0 h5]at h1
   exact Option.some.inj h1
  exact item_listR pl.isList h0 (by omega) (by rw[hj];simpa using ew) fin hs
 ·have hj:(i+(its.toArray.size:Int)).toNat=j:=by
   rw[seqIndex_neg (by omega) h4]at h1
   rw[List.size_toArray,<-hl]
   exact Option.some.inj h1
  exact subscriptTail_builtinR (x:=w) pl.isList.typeIs slot_list_getitem.lookup
   (wpAny_getItem_list_neg (Q:=fun r s'=>r=w/\EP X pins σ Q r s') pl.isList (by omega) (by rw[List.size_toArray]<;>omega) (by omega) (by rw[hj];simpa using ew) ⟨rfl,fin⟩) hs
theorem zi:IxR X Ag:=by
 intro value slice pins s σ H x y v u Q I rx ry h hs
 obtain⟨z,i,c,rfl,rfl,hz,he,q⟩:=h
 obtain⟨t,rfl⟩:=rx
 obtain⟨t',rfl⟩:=ry
 obtain⟨j,h1,h2,h3,h4,h5⟩:=so he
 have hl:z.cps.toList.length=z.length:=by simp[Str.length]
 rw[hl]at h1 h4 h5
 have hn:=kg
 exact tail_any (typeIs_str s z t) slot_str_getitem.lookup (getItem_str (c:=c) (by
  have e1:decide (i < -(2^63:Int))=false:=decide_eq_false (by omega)
  have e2:decide (i≥2^63)=false:=decide_eq_false (by omega)
  rw[e1,e2,Bool.or_false]) (by rw[h1];simpa using h2) ⟨.str ⟨#[c]⟩,H,I.tok _,⟨_,rfl⟩,q⟩) hs
theorem tw (its:List Value)(n j:Nat)(u:Value):Obj.mapSeq (·.setIfInBounds j u) { cls:=.type "list",data:=.seq its.toArray n }={ cls:=.type "list",data:=.seq (its.set j u).toArray n }:=by
 simp[Obj.mapSeq]
theorem Inv.lst {pins:List (Addr×Obj)}{σ:St}{H:Hp}{s:Shared}{p:Addr}{xs:List V}(I:Inv X pins σ H s)(h:H p=some (.lst xs)):
  ∃(its:List Value)(n:Nat),Vals xs its/\s.heap.get? p=some { cls:=.type "list",data:=.seq its.toArray n }/\xs.length<=sizeLine:=by
 obtain⟨z,its,n,r,e⟩:=I.hok p _ h
 exact⟨its,n,r,e,z⟩
theorem Inv.lstUpd {pins:List (Addr×Obj)}{σ:St}{H:Hp}{s:Shared}{p:Addr}{xs ys:List V}{its its':List Value}{n n':Nat}{f:Obj->Obj}(I:Inv X pins σ H s)(h:H p=some (.lst xs))
  (ho:s.heap.get? p=some { cls:=.type "list",data:=.seq its.toArray n }) (hf:f { cls:=.type "list",data:=.seq its.toArray n }={ cls:=.type "list",data:=.seq its'.toArray n' }) (r:Vals ys its') (hz:ys.length<=sizeLine) (t:Nat) :
  Inv X pins σ (upd H p (.lst ys)) { s with heap:=s.heap.update p f,toks:=t }:=by
 have e:(s.heap.update p f).get? p=some { cls:=.type "list",data:=.seq its'.toArray n' }:=by
  rw[Heap.get?_update_self f ho (by rw[hf]<;>rfl),hf]
 refine I.write (x:=p) (e:=p) (by rw[h];trivial) (.inl rfl) (fun b u hb q=>(Heap.get?_update_other _ _ (Ne.symm hb)).trans q) ⟨_,e⟩ ?_
 exact⟨hz,its',n',r,e⟩
def zu:V->V->V->Hp->(Hp->Prop)->Prop:=fun o i v H Q=>∃p xs k j,o=.ref p/\i=.int k/\H p=some (.lst xs)/\ixN xs.length k=some j/\Q (upd H p (.lst (xs.set j v)))
theorem wq:yS X zu:=by
 intro pins s σ H o i v ov iv u Q I ro ri rv h
 obtain⟨p,xs,k,j,rfl,rfl,hp,hj,q⟩:=h
 cases ro
 obtain⟨t,rfl⟩:=ri
 obtain⟨its,n,r,ho,hz⟩:=I.lst hp
 obtain⟨h1,h2,h3,h4⟩:=sB hj
 have hl:=r.length
 have hn:=kg
 have I':Inv X pins σ (upd H p (.lst (xs.set j v))) { s with heap:=s.heap.update p (Obj.mapSeq (·.setIfInBounds j u)) }:=
  I.lstUpd hp ho (tw its n j u) (r.set rv j) (by rw[List.length_set];exact hz) s.toks
 by_cases h0:0<=k
 ·have hk:k.toNat=j:=by
   rw[seqIndex_of h0 h4]at h1
   exact Option.some.inj h1
  exact PySem.W.ki_setAt ho h0 (by omega) (by rw[List.size_toArray,<-hl];exact h4) (by rw[hk];exact⟨_,I',q⟩)
 ·have hk:(k+(its.toArray.size:Int)).toNat=j:=by
   rw[seqIndex_neg (by omega) h3]at h1
   rw[List.size_toArray,<-hl]
   exact Option.some.inj h1
  exact PySem.W.ki_setBack ho (by omega) (by rw[List.size_toArray,<-hl];exact h3) (by omega) (by rw[hk];exact⟨_,I',q⟩)
theorem pN (lo hi:Option Int)(n:Nat):(sliceBounds lo hi none n).1=((HT.sIx n 0 lo:Nat):Int)/\(sliceBounds lo hi none n).2.1=((HT.sIx n n hi:Nat):Int)/\(sliceBounds lo hi none n).2.2=1:=by
 refine⟨?_,?_,rfl⟩
 ·cases lo with
  |none=>simp[sliceBounds,HT.sIx]
  |some i=>
   simp only[sliceBounds,HT.sIx,Option.getD_none,show (1:Int)>0 by decide,if_true]
   by_cases h:i<0
   ·simp only[h,if_true]<;>omega
   ·simp only[h,if_false]<;>omega
 ·cases hi with
  |none=>simp[sliceBounds,HT.sIx]
  |some i=>
   simp only[sliceBounds,HT.sIx,Option.getD_none,show (1:Int)>0 by decide,if_true]
   by_cases h:i<0
   ·simp only[h,if_true]<;>omega
   ·simp only[h,if_false]<;>omega
theorem oY (its:List Value)(lo hi:Option Int):slicePick its.toArray lo hi none=((its.drop (HT.sIx its.length 0 lo)).take (HT.sIx its.length its.length hi-HT.sIx its.length 0 lo)).toArray:=by
 obtain⟨h1,h2,h3⟩:=pN lo hi its.toArray.size
 unfold slicePick
 rw[h1,h2,h3]
 simp only[sliceRange_one,pick_run,List.size_toArray]<;>rfl
def z7 (K:PySem.W.Frag):V->Option Int->Option Int->Hp->VK->Prop:=fun x lo hi H Q=>∃a xs,x=.ref a/\SqL K H a xs/\∀p,H p=none->Q (.ref p) (upd H p (.lst (kB xs lo hi)))
theorem sA:SlR X (z7 X.K):=by
 intro pins s σ H x v vl vu lo hi sl Q I rx hs pl pu h
 obtain⟨a,xs,rfl,hx,q⟩:=h
 cases rx
 obtain⟨its,r,ht,hz⟩:=I.list hx
 have hlen:=r.length
 refine⟨"list",_,slot_list_getitem.lookup,ht.isList.typeIs,?_⟩
 refine wpAny_getItem_list_slice ht.isList hs pl pu .none (by simp) ?_ (by rw[List.size_toArray]<;>omega)
 rw[oY,<-hlen]
 refine⟨.ref s.heap.objs.size,_,I.laid (t':=s.toks) (o:=.lst (kB xs lo hi)) (fun b ob q=>Heap.get?_push_of_some _ q) (Nat.le_refl _) ?_,rfl,q _ (I.hok.fresh (Nat.le_refl _))⟩
 exact⟨Nat.le_trans (rN xs lo hi) hz,_,0,(r.drop (HT.sIx xs.length 0 lo)).take (HT.sIx xs.length xs.length hi-HT.sIx xs.length 0 lo),Heap.get?_push_size _ rfl⟩
def fX:V->Bool
 |.non=>true
 |.bl _=>true
 |.int _=>true
 |.str _=>true
 |_=>false
def eqV:V->V->Bool
 |.non,.non=>true
 |.bl a,.bl b=>a==b
 |.bl a,.int b=>(if a then 1 else 0)==b
 |.int a,.bl b=>a==(if b then 1 else 0)
 |.int a,.int b=>a==b
 |.str a,.str b=>a==b
 |_,_=>false
theorem zm {A:Around}{s:Shared}{y x:V}{u v:Value}(ry:RelV y u)(rx:RelV x v)(fy:fX y=true)(fx:fX x=true):SeqAt.EqAt A s u v (eqV y x):=by
 cases y with
 |non=>
  cases ry
  cases x with
  |non=>cases rx;exact SeqAt.EqAt.same _
  |bl b=>cases rx;exact SeqAt.EqAt.none_bool b
  |int b=>obtain⟨t,rfl⟩:=rx;exact SeqAt.EqAt.none_int b t
  |str b=>obtain⟨t,rfl⟩:=rx;exact SeqAt.EqAt.none_str b t
  |_=>exact absurd (show false=true from fx) Bool.false_ne_true
 |bl a=>
  cases ry
  cases x with
  |non=>cases rx;exact SeqAt.EqAt.bool_none a
  |bl b=>cases rx;exact SeqAt.EqAt.bool_bool a b
  |int b=>obtain⟨t,rfl⟩:=rx;exact SeqAt.EqAt.bool_int a b t
  |str b=>obtain⟨t,rfl⟩:=rx;exact SeqAt.EqAt.bool_str a b t
  |_=>exact absurd (show false=true from fx) Bool.false_ne_true
 |int a=>
  obtain⟨t',rfl⟩:=ry
  cases x with
  |non=>cases rx;exact SeqAt.EqAt.int_none a t'
  |bl b=>cases rx;exact SeqAt.EqAt.int_bool a t' b
  |int b=>obtain⟨t,rfl⟩:=rx;exact SeqAt.EqAt.int_int a t' b t
  |str b=>obtain⟨t,rfl⟩:=rx;exact SeqAt.EqAt.int_str a t' b t
  |_=>exact absurd (show false=true from fx) Bool.false_ne_true
 |str a=>
  obtain⟨t',rfl⟩:=ry
  cases x with
  |non=>cases rx;exact SeqAt.EqAt.str_none a t'
  |bl b=>cases rx;exact SeqAt.EqAt.str_bool a t' b
  |int b=>obtain⟨t,rfl⟩:=rx;exact SeqAt.EqAt.str_int a t' b t
  |str b=>obtain⟨t,rfl⟩:=rx;exact SeqAt.EqAt.str_str a t' b t
  |_=>exact absurd (show false=true from fx) Bool.false_ne_true
 |_=>exact absurd (show false=true from fy) Bool.false_ne_true
def eqU (x:V)(u:Value):Bool:=match u with
 |.none=>eqV .non x
 |.bool b=>eqV (.bl b) x
 |.int i _=>eqV (.int i) x
 |.str z _=>eqV (.str z) x
 |_=>false
theorem qB {x y:V}{u:Value}(r:RelV y u)(f:fX y=true):eqU x u=eqV y x:=by
 cases y with
 |non=>cases r;rfl
 |bl b=>cases r;rfl
 |int i=>obtain⟨t,rfl⟩:=r;rfl
 |str z=>obtain⟨t,rfl⟩:=r;rfl
 |_=>exact absurd (show false=true from f) Bool.false_ne_true
theorem qu {A:Around}{s:Shared}{x:V}{v:Value}(rx:RelV x v)(fx:fX x=true):∀{xs:List V} {us:List Value},Vals xs us->xs.all fX=true->∀u∈us,SeqAt.EqAt A s u v (eqU x u)
 |_,_,.nil,_=>fun u hu=>by cases hu
 |y :: xs,u :: us,.cons r t,f=>fun u' hu=>by
  rw[List.all_cons,Bool.and_eq_true]at f
  rcases List.mem_cons.mp hu with rfl|hu
  ·rw[qB r f.1];exact zm r rx f.1 fx
  ·exact qu rx fx t f.2 u' hu
theorem aP:c9 X (.builtin "len") (fun xs H Q=>∃p ys,xs=[.ref p]/\(SqL X.K H p ys∨SqT X.K H p ys)/\Q (.int ys.length) H):=by
 intro pins s σ H xs us Q I r h
 obtain⟨p,ys,rfl,hq,q⟩:=h
 obtain⟨u,rfl,rx⟩:=mx r
 cases rx
 have hn:=kg
 rcases hq with hq|hq
 ·obtain⟨its,r',pl,hz⟩:=I.list hq
  have hlen:=r'.length
  exact Calls.call_len_list pl.isList (by simp only[List.size_toArray]<;>omega) ⟨.int ys.length,H,I.tok _,⟨s.toks+1,by rw[List.size_toArray,hlen]⟩,q⟩
 ·obtain⟨its,r',pl,hz⟩:=I.tuple hq
  have hlen:=r'.length
  exact len_tuple pl (by simp only[List.size_toArray]<;>omega) ⟨.int ys.length,H,I.tok _,⟨s.toks+1,by rw[List.size_toArray,hlen]⟩,q⟩
theorem jR:c9 X (.builtin "len") (fun xs H Q=>∃z,xs=[.str z]/\z.length<=sizeLine/\Q (.int z.length) H):=by
 intro pins s σ H xs us Q I r h
 obtain⟨z,rfl,hz,q⟩:=h
 obtain⟨u,rfl,t,rfl⟩:=mx r
 have hn:=kg
 exact len_str (by omega) ⟨.int z.length,H,I.tok _,⟨_,rfl⟩,q⟩
theorem jI:c9 X (.type "tuple") (fun xs H Q=>∃p ys,xs=[.ref p]/\((SqL X.K H p ys/\∀l,H l=none->Q (.ref l) (upd H l (.tup ys)))∨(SqT X.K H p ys/\Q (.ref p) H))):=by
 intro pins s σ H xs us Q I r h
 obtain⟨p,ys,rfl,h⟩:=h
 obtain⟨u,rfl,rx⟩:=mx r
 cases rx
 rcases h with ⟨hq,q⟩|⟨hq,q⟩
 ·obtain⟨its,r',pl,hz⟩:=I.list hq
  have hlen:=r'.length
  refine call_tuple_list pl.isList (fun h' kp=>?_) (by simp only[List.size_toArray]<;>omega)
  have I1:Inv X pins σ H { s with heap:=h' }:=I.kept (t':=s.toks) kp
  have I2:Inv X pins σ (upd H h'.objs.size (.tup ys)) { s with heap:=h'.push { cls:=.type "tuple",data:=.seq its.toArray } }:=
   I1.laid (t':=s.toks) (fun b o e=>Heap.get?_push_of_some _ e) (Nat.le_refl _) (show ObjOk X.prog X.w _ _ _ (.tup ys) from⟨hz,its,r',IsTup.new _ _⟩)
  exact⟨.ref h'.objs.size,_,I2,rfl,q _ (I1.hok.fresh (Nat.le_refl _))⟩
 ·obtain⟨its,r',pl,hz⟩:=I.tuple hq
  exact call_tuple_same pl ⟨.ref p,H,I,rfl,q⟩
def tyV (K:PySem.W.Frag)(T:String)(x:V)(H:Hp):Prop:=match x with
 |.str _=>T="str"
 |.int _=>T="int"
 |.ref p=>(T="list"/\∃xs,SqL K H p xs)∨(T="tuple"/\∃o,K.lookup p=some o/\o.cls=.type "tuple"/\o.dict=none) ∨
   (T="dict"/\((∃kvs,H p=some (.dK kvs))∨∃kvs,H p=some (.dT kvs)))∨(T="set"/\∃S n,H p=some (.set S n))
 |_=>False
theorem u8 {pins:List (Addr×Obj)}{σ:St}{H:Hp}{s:Shared}{T:String}{x:V}{v:Value}(I:Inv X pins σ H s)(r:RelV x v)(ty:tyV X.K T x H):
  s.TypeIs v T/\∀a,v=.ref a->∃ob,s.heap.get? a=some ob/\ob.dict=none:=by
 cases x with
 |str z=>
  obtain⟨t,rfl⟩:=r
  cases (show T="str" from ty)
  exact⟨typeIs_str s z t,fun _ e=>nomatch e⟩
 |int i=>
  obtain⟨t,rfl⟩:=r
  cases (show T="int" from ty)
  exact⟨typeIs_int s i t,fun _ e=>nomatch e⟩
 |ref p=>
  cases r
  rcases ty with ⟨rfl,xs,hq⟩|⟨rfl,o,hk,hc,hd⟩|⟨rfl,hk⟩|⟨rfl,S,n,hk⟩
  ·obtain⟨its,_,pl,_⟩:=I.list hq
   refine⟨pl.isList.typeIs,fun a e=>?_⟩
   cases e
   obtain⟨o,n,e,c,hd,_⟩:=pl
   exact⟨o,e,hd⟩
  ·refine⟨⟨o,I.kIn p o hk,hc⟩,fun a e=>?_⟩
   cases e
   exact⟨o,I.kIn _ o hk,hd⟩
  ·have z:∃o,s.heap.get? p=some o/\o.ExactDict:=by
    rcases hk with ⟨kvs,hk⟩|⟨kvs,hk⟩
    ·obtain⟨_,_,_,_,o,_,_,e,ex,_⟩:=I.hok p _ hk
     exact⟨o,e,ex⟩
    ·obtain⟨_,_,_,_,o,_,_,e,ex,_⟩:=I.hok p _ hk
     exact⟨o,e,ex⟩
   obtain⟨o,e,ex⟩:=z
   refine⟨⟨o,e,ex.1⟩,fun a e2=>?_⟩
   cases e2
   exact⟨o,e,ex.2.1⟩
  ·obtain⟨o,_,_,_,e,ex,_⟩:=I.hok p _ hk
   refine⟨⟨o,e,ex.1⟩,fun a e2=>?_⟩
   cases e2
   exact⟨o,e,ex.2.1⟩
 |_=>exact False.elim ty
def zM (K:PySem.W.Frag)(T:String)(r:V->List V->Hp->VK->Prop)(to:TE):TE:=fun σ H Q=>to σ H fun x H1=>tyV K T x H1/\r x [] H1 Q
def tBM (K:PySem.W.Frag)(T:String)(r:V->List V->Hp->VK->Prop)(to:TE)(t:TA):TE:=fun σ H Q=>to σ H fun x H1=>tyV K T x H1/\t σ H1 fun xs H2=>r x xs H2 Q
variable {o e:Expr}{es:List Expr}{to:TE}{t:TA}{name:Str}{apos cpos:Pos}{T id:String}{r:V->List V->Hp->VK->Prop}
theorem y4 (pa:PlainAttrs T) (slot:Slot T name id) (hty:typeOf (.builtin id)=pure (.type "method_descriptor")) (hm:MtR X id r) (ho:PE X o to)
  (hbase:attributeBase o name X.env (eval o X.env)=eval o X.env:=by rfl)(hline:(apos.endLine==cpos.line)=true:=by rfl):PE X (.Call (.Attribute o name apos) [] [] cpos) (zM X.K T r to):=by
 intro pins s σ H Q I h
 refine wpAny_Call_method0_late hbase hline (thn (ho pins s σ H _ I h) fun v s1 ⟨x,H1,I1,r1,ty,q1⟩=>?_)
 obtain⟨h1,h2⟩:=u8 I1 r1 ty
 exact⟨T,id,pa,slot,hty,h1,h2,Calls.callWith_builtin rfl (PySem.evalArgs_none (hm pins s1 σ H1 x [] v [] Q I1 r1 .nil q1))⟩
theorem eU (pa:PlainAttrs T) (slot:Slot T name id) (hty:typeOf (.builtin id)=pure (.type "method_descriptor")) (hm:MtR X id r) (ho:PE X o to) (ha:PA X (e :: es) t)
  (hbase:attributeBase o name X.env (eval o X.env)=eval o X.env:=by rfl)
  (hfew:((backTo cpos (starEach (e :: es) X.env)).all (fun x=>!x.1)&&(backToKw cpos (keywordEach [] X.env)).all (fun x=>x.1.isSome)
   && decide ((e :: es).length+([]:List Keyword).length+(if ([]:List Keyword).isEmpty then 0 else 1)<30))=true:=by rfl)
  (hline:(apos.endLine==cpos.line)=true:=by rfl) (hs:starEach (e :: es) X.env=(false,eval e X.env) :: starEach es X.env:=by rfl) (hplain:(backTo cpos (starEach es X.env)).any (·.1)=false:=by rfl) :
  PE X (.Call (.Attribute o name apos) (e :: es) [] cpos) (tBM X.K T r to t):=by
 intro pins s σ H Q I h
 refine wpAny_Call_method_late hbase hfew hline rfl (thn (ho pins s σ H _ I h) fun v s1 ⟨x,H1,I1,r1,ty,q1⟩=>?_)
 obtain⟨h1,h2⟩:=u8 I1 r1 ty
 refine⟨T,id,pa,slot,hty,h1,h2,?_⟩
 have hA:=ha cpos pins s1 σ H1 _ I1 q1
 rw[hs]at hA ⊢
 refine Calls.callWith_builtin (by show (false||(backTo cpos (starEach es X.env)).any (·.1))=false;rw[hplain]<;>rfl) (Calls.evalArgs_plain ?_)
 exact thn hA fun us s2 ⟨vs,H2,I2,r2,q2⟩=>hm pins s2 σ H2 x vs v us Q I2 r1 r2 q2
end
def MtM (X:Cx)(id:String)(r:V->List V->Hp->VK->Prop):Prop:=
 ∀(pins:List (Addr×Obj))(s:Shared)(σ:St)(H:Hp)(x:V)(xs:List V)(v:Value)(us:List Value)(Q:VK),Inv X pins σ H s->RelV x v->Vals xs us->r x xs H Q->
  wpAny (model X.prog X.w) X.A (call (.builtin id) (v :: us)) (EP X pins σ Q) X.xe s
theorem Vals.one:∀{x:V} {us:List Value},Vals [x] us->∃u,us=[u]/\RelV x u
 |_,_,.cons r .nil=>⟨_,rfl,r⟩
theorem Vals.zero:∀{us:List Value},Vals [] us->us=[]
 |_,.nil=>rfl
theorem Vals.dropLast {xs:List V}{us:List Value}(h:Vals xs us):Vals xs.dropLast us.dropLast:=by
 induction h with
 |nil=>exact .nil
 |cons r t ih=>
  cases t with
  |nil=>exact .nil
  |cons q t'=>exact .cons r ih
theorem Vals.eraseIdx:∀{xs:List V} {us:List Value} (i:Nat),Vals xs us->Vals (xs.eraseIdx i) (us.eraseIdx i)
 |_,_,_,.nil=>.nil
 |_,_,0,.cons _ t=>t
 |_,_,i+1,.cons r t=>.cons r (Vals.eraseIdx i t)
theorem Vals.reverse {xs:List V}{us:List Value}(h:Vals xs us):Vals xs.reverse us.reverse:=by
 induction h with
 |nil=>exact .nil
 |cons r t ih=>rw[List.reverse_cons,List.reverse_cons];exact Vals.append ih (.cons r .nil)
theorem Vals.rep {xs:List V}{us:List Value}(h:Vals xs us):∀k:Nat,Vals (List.replicate k xs).flatten (List.replicate k us).flatten
 |0=>.nil
 |k+1=>by
  rw[List.replicate_succ,List.replicate_succ,List.flatten_cons,List.flatten_cons]
  exact Vals.append h (Vals.rep h k)
theorem sX {α:Type}(l:List α):l.eraseIdx (l.length-1)=l.dropLast:=by
 induction l with
 |nil=>rfl
 |cons a r ih=>
  cases r with
  |nil=>rfl
  |cons b r=>
   have e:(a :: b :: r).length-1=((b :: r).length-1)+1:=by
    have h1:(a :: b :: r).length=r.length+2:=rfl
    have h2:(b :: r).length=r.length+1:=rfl
    omega
   rw[e,List.eraseIdx_cons_succ,ih]
   all_goals rfl
theorem oJ (its:List Value):∀(k:Nat)(acc:List Value),
  List.foldl (fun x1 x2=>x1++x2) acc.toArray (List.replicate k its.toArray)=(acc++(List.replicate k its).flatten).toArray
 |0,acc=>by simp
 |k+1,acc=>by
  have e:acc.toArray++its.toArray=(acc++its).toArray:=by simp
  have e2:(acc++its)++(List.replicate k its).flatten=acc++(List.replicate (k+1) its).flatten:=by
   rw[List.replicate_succ,List.flatten_cons,List.append_assoc]
  rw[<-e2,<-oJ its k (acc++its),<-e,List.replicate_succ,List.foldl_cons]
section
variable {X:Cx}{pins:List (Addr×Obj)}{σ:St}{H:Hp}{s:Shared}{l b:Addr}{xs ys zs:List V}
theorem Inv.lset {its its':List Value}{n:Nat}{f:Array Value->Array Value}{t':Nat}(I:Inv X pins σ H s)(hH:H l=some (.lst xs))
  (e:s.heap.get? l=some { cls:=.type "list",data:=.seq its.toArray n }) (hf:f its.toArray=its'.toArray) (hv:Vals ys its') (hz:ys.length<=sizeLine) :
  Inv X pins σ (upd H l (.lst ys)) { s with heap:=s.heap.update l (Obj.mapSeq f),toks:=t' }:=by
 have q:=PySem.IsL.update e f
 rw[hf]at q
 refine I.write (x:=l) (e:=l) (by rw[hH];exact trivial) (.inl rfl) (fun b' u hb hu=>(Heap.get?_update_other s.heap (Obj.mapSeq f) (Ne.symm hb)).trans hu) ⟨_,q⟩ ?_
 exact⟨hz,its',_,hv,q⟩
theorem Inv.lnew {its:List Value}{t':Nat}(I:Inv X pins σ H s)(hv:Vals ys its)(hz:ys.length<=sizeLine):
  Inv X pins σ (upd H s.heap.objs.size (.lst ys)) { s with heap:=s.heap.push { cls:=.type "list",data:=.seq its.toArray },toks:=t' }:=
 I.laid (fun _ _ q=>Heap.get?_push_of_some _ q) (Nat.le_refl _) ⟨hz,its,0,hv,Heap.get?_push_size _ rfl⟩
theorem Inv.fresh (I:Inv X pins σ H s):H s.heap.objs.size=none:=I.hok.fresh (Nat.le_refl _)
theorem Inv.lstM (I:Inv X pins σ H s)(hH:H l=some (.lst xs)):xs.length<=sizeLine/\∃(its:List Value)(n:Nat),Vals xs its/\xs.length=its.length/\s.heap.get? l=some { cls:=.type "list",data:=.seq its.toArray n }:=by
 obtain⟨z,its,n,r,e⟩:=I.hok l _ hH
 exact⟨z,its,n,r,r.length,e⟩
theorem lK {n:Nat}(h:n<=sizeLine):Builtin.List.listTooLong n=false:=by
 unfold Builtin.List.listTooLong
 exact decide_eq_false (by omega)
end
section
variable {X:Cx}
def xS:V->List V->Hp->VK->Prop:=fun x vs H Q=>∃l xs y,x=.ref l/\vs=[y]/\H l=some (.lst xs)/\xs.length<sizeLine/\Q .non (upd H l (.lst (xs++[y])))
theorem cR:MtM X "list.append" xS:=by
 intro pins s σ H x vs v us Q I rx rv h
 obtain⟨l,xs,y,rfl,rfl,hH,hz,q⟩:=h
 cases rx
 obtain⟨u,rfl,ru⟩:=rv.one
 obtain⟨z,its,n,r,hl,e⟩:=I.lstM hH
 refine call_meets F.slot_list_append ⟨_,e,rfl⟩ F.entry_list_append (F.args_list_append_2 _ _) (PySem.list_append l its.toArray n u (by rw[List.size_toArray];omega)) ⟨e,?_⟩
 refine⟨.non,_,I.lset (its':=its++[u]) hH e (by simp) (r.append (.cons ru .nil)) ?_,rfl,q⟩
 rw[List.length_append,List.length_singleton]
 omega
def yB:V->List V->Hp->VK->Prop:=fun x vs H Q=>∃l b xs zs,x=.ref l/\vs=[.ref b]/\H l=some (.lst xs)/\H b=some (.lst zs)/\xs.length+zs.length<=sizeLine/\Q .non (upd H l (.lst (xs++zs)))
theorem mt_extend:MtM X "list.extend" yB:=by
 intro pins s σ H x vs v us Q I rx rv h
 obtain⟨l,b,xs,zs,rfl,rfl,hH,hB,hz,q⟩:=h
 cases rx
 obtain⟨u,rfl,ru⟩:=rv.one
 cases ru
 obtain⟨z,its,n,r,hl,e⟩:=I.lstM hH
 obtain⟨z2,its2,n2,r2,hl2,e2⟩:=I.lstM hB
 have hsz:its.toArray.size+its2.toArray.size<=sizeLine:=by rw[List.size_toArray,List.size_toArray];omega
 have hlong:¬(!its.toArray.isEmpty&&Builtin.List.listTooLong (its.toArray.size+its2.toArray.size))=true:=by
  rw[lK hsz,Bool.and_false]
  exact Bool.false_ne_true
 refine call_meets F.slot_list_extend ⟨_,e,rfl⟩ F.entry_list_extend (F.args_list_extend_2 _ _)
  (AutoSeq1.list_extend_list_list_0 l its.toArray n b its2.toArray n2 hlong (by rw[List.size_toArray];omega) (by omega)) ⟨e,e2,?_⟩
 refine⟨.non,_,I.lset (its':=its++its2) hH e (by simp) (r.append r2) ?_,rfl,q⟩
 rw[List.length_append]
 omega
def zS:V->List V->Hp->VK->Prop:=fun x vs H Q=>∃l xs y,x=.ref l/\vs=[]/\H l=some (.lst xs)/\xs[xs.length-1]?=some y/\Q y (upd H l (.lst xs.dropLast))
theorem yH:MtM X "list.pop" zS:=by
 intro pins s σ H x vs v us Q I rx rv h
 obtain⟨l,xs,y,rfl,rfl,hH,hy,q⟩:=h
 cases rx
 have hus:=rv.zero
 subst hus
 obtain⟨z,its,n,r,hl,e⟩:=I.lstM hH
 obtain⟨u,hu,ru⟩:=r.get hy
 have hy':its.toArray[its.toArray.size-1]?=some u:=by
  show its.toArray[its.length-1]?=some u
  rw[<-Array.getElem?_toList,<-hl]
  exact hu
 refine call_meets F.slot_list_pop ⟨_,e,rfl⟩ F.entry_list_pop (F.args_list_pop_1 _) (MeetsSeq.list_pop_last l its.toArray n u hy' (by rw[List.size_toArray];omega)) ⟨e,?_⟩
 refine⟨y,_,I.lset (its':=its.dropLast) hH e ?_ r.dropLast ?_,ru,q⟩
 ·show its.toArray.eraseIdxIfInBounds (its.toArray.size-1)=its.dropLast.toArray
  rw[List.size_toArray,List.eraseIdxIfInBounds_toArray,sX]
 ·rw[List.length_dropLast]
  omega
def zU:R2:=fun x y H Q=>∃l b xs zs,x=.ref l/\y=.ref b/\H l=some (.lst xs)/\H b=some (.lst zs)/\xs.length+zs.length<=sizeLine/\∀p,H p=none->Q (.ref p) (upd H p (.lst (xs++zs)))
theorem eT:OpR X (binaryOp .Add) zU:=by
 intro pins s σ H x y v u Q I rx ry h
 obtain⟨l,b,xs,zs,rfl,rfl,hH,hB,hz,q⟩:=h
 cases rx
 cases ry
 obtain⟨z,its,n,r,hl,e⟩:=I.lstM hH
 obtain⟨z2,its2,n2,r2,hl2,e2⟩:=I.lstM hB
 refine PySem.P.add_list e e2 ?_ (by rw[List.size_toArray,List.size_toArray];omega)
 have ea:its.toArray++its2.toArray=(its++its2).toArray:=by simp
 rw[ea]
 exact⟨.ref _,_,I.lnew (t':=s.toks) (r.append r2) (by rw[List.length_append];omega),rfl,q _ I.fresh⟩
def Al:R2:=fun x y H Q=>∃l k xs,x=.ref l/\y=.int k/\H l=some (.lst xs)/\-(2^63)<=k/\k<2^63/\xs.length*k.toNat<=sizeLine/\
 ∀p,H p=none->Q (.ref p) (upd H p (.lst (List.replicate k.toNat xs).flatten))
theorem xR {α:Type}(xs:List α)(k:Nat):(List.replicate k xs).flatten.length=k*xs.length:=by
 induction k with
 |zero=>simp
 |succ k ih=>rw[List.replicate_succ,List.flatten_cons,List.length_append,ih,Nat.succ_mul,Nat.add_comm]
theorem zf:OpR X (binaryOp .Mult) Al:=by
 intro pins s σ H x y v u Q I rx ry h
 obtain⟨l,k,xs,rfl,rfl,hH,h1,h2,hz,q⟩:=h
 cases rx
 obtain⟨t,rfl⟩:=ry
 obtain⟨z,its,n,r,hl,e⟩:=I.lstM hH
 have hlen:its.toArray.size*k.toNat<=sizeLine:=by rw[List.size_toArray,<-hl];exact hz
 have hcap:¬its.toArray.size*k.toNat>(2^63-1) / 8:=by
  have:(sizeLine:Nat)<=(2^63-1) / 8:=by decide
  omega
 have hfit:¬(!Builtin.List.listFitsIndex k)=true:=by
  rw[fitsIndex_both h1 h2]
  exact Bool.false_ne_true
 have hlong:¬Builtin.List.listTooLong (its.toArray.size*k.toNat)=true:=by
  rw[lK hlen]
  exact Bool.false_ne_true
 have hnew:List.foldl (fun x1 x2=>x1++x2) #[] (List.replicate (if its.toArray.isEmpty=true then 0 else k.toNat) its.toArray)=(List.replicate k.toNat its).flatten.toArray:=by
  have f0:∀m:Nat,List.foldl (fun x1 x2=>x1++x2) #[] (List.replicate m its.toArray)=(List.replicate m its).flatten.toArray:=fun m=>by
   have:=oJ its m []
   rw[List.nil_append]at this
   exact this
  rw[f0]
  cases its with
  |nil=>simp
  |cons a r'=>rw[if_neg (by simp)]
 refine wpAny_binaryOp_repeat_ref (T:="list") (U:="int") (by decide) ⟨_,e,rfl⟩ (fun s'=>typeIs_int s' k t) noFill_list_mul F.fills_int_mul F.slot_int_rmul repeat_list F.slot_int_index.lookup
  (call_meets F.slot_int_rmul (typeIs_int s k t) F.entry_int_rmul (F.args_int_rmul_2 _ _) (int___rmul___int_list k t l its.toArray n)
   ⟨e,rfl,⟨_,e,rfl⟩,call_meets F.slot_list_mul ⟨_,e,rfl⟩ F.entry_list_mul (F.args_list_mul_2 _ _) (AutoListH.list___mul___list_int_3 l its.toArray n k t hfit hcap hlong) ⟨e,?_⟩⟩)
 rw[hnew]
 exact⟨.ref _,_,I.lnew (t':=s.toks) (r.rep k.toNat) (by rw[xR,Nat.mul_comm];exact hz),rfl,q _ I.fresh⟩
end
section
variable {prog:Program}{w:World}{A:Around}{E:Value->Shared->Prop}{s:Shared}
set_option maxRecDepth 100000 in
end
section
variable {X:Cx}
end
theorem Vals.ints:∀{ns:List Int} {us:List Value},Vals (ns.map V.int) us->IntsAre us ns
 |[],us,h=>by
  rw[List.map_nil]at h
  cases h
  exact IntsAre.nil
 |n :: ns,us,h=>by
  rw[List.map_cons]at h
  cases h with
  |cons r t=>
   obtain⟨k,rfl⟩:=r
   exact IntsAre.cons n k (Vals.ints t)
theorem qN:∀{us:List Value} {ns:List Int},IntsAre us ns->Vals (ns.map V.int) us
 |_,_,.nil=>by rw[List.map_nil];exact Paired.nil
 |_,_,.cons n t h=>by rw[List.map_cons];exact Paired.cons (show RelV (V.int n) (Value.int n t) from⟨t,rfl⟩) (qN h)
theorem Vals.strs:∀{xs:List Str} {us:List Value},Vals (xs.map V.str) us->StrsAre us xs
 |[],us,h=>by
  rw[List.map_nil]at h
  cases h
  exact StrsAre.nil
 |x :: xs,us,h=>by
  rw[List.map_cons]at h
  cases h with
  |cons r t=>
   obtain⟨k,rfl⟩:=r
   exact StrsAre.cons x k (Vals.strs t)
theorem kH:∀{us:List Value} {xs:List Str},StrsAre us xs->Vals (xs.map V.str) us
 |_,_,.nil=>by rw[List.map_nil];exact Paired.nil
 |_,_,.cons x t h=>by rw[List.map_cons];exact Paired.cons (show RelV (V.str x) (Value.str x t) from⟨t,rfl⟩) (kH h)
theorem Vals.bls:∀{bs:List Bool} {us:List Value},Vals (bs.map V.bl) us->us=bs.map Value.bool
 |[],us,h=>by
  rw[List.map_nil]at h
  cases h
  rfl
 |b :: bs,us,h=>by
  rw[List.map_cons]at h
  cases h with
  |cons r t=>
   cases r
   rw[Vals.bls t,List.map_cons]
theorem Vals.ref1 {a:Addr}{us:List Value}(r:Vals [V.ref a] us):us=[Value.ref a]:=by
 cases r with
 |cons r t=>
  cases t
  cases r
  rfl
section
variable {prog:Program}{w:World}{A:Around}{E:Value->Shared->Prop}{s:Shared}{l:Addr}{its:List Value}{ns:List Int}{Q:Value->Shared->Prop}
end
section
variable {X:Cx}
end
section
variable {X:Cx}
def vp (K:PySem.W.Frag):V->List V->Hp->VK->Prop:=fun x xs H Q=>∃(a:Addr)(ys:List V)(y:V)(j:Nat)(z:V),x=V.ref a/\xs=[y]/\SqL K H a ys/\fX y=true/\ys.all fX=true/\ys[j]?=some z/\eqV z y=true/\
 (∀(m:Nat)(z':V),m<j->ys[m]?=some z'->eqV z' y=false)/\Q (.int (j:Nat)) H
theorem sE {ys:List V}(f:ys.all fX=true){j:Nat}{z:V}(h:ys[j]?=some z):fX z=true:=List.all_eq_true.mp f z (List.mem_of_getElem? h)
theorem wM:MtR X "list.index" (vp X.K):=by
 intro pins s σ H x xs v us Q I rx rxs h
 obtain⟨a,ys,y,j,z,rfl,rfl,hs,fy,fys,hz,hzj,hno,q⟩:=h
 cases rx
 cases rxs with
 |cons ry rt=>
  rename_i uy ut
  cases rt
  obtain⟨its,rv,⟨⟨cls,dd,data,sl⟩,n,ho,hc,hdn,hd⟩,hlen⟩:=I.list hs
  simp only at hc hd
  subst hc hd
  obtain⟨u,hu,ru⟩:=rv.get hz
  obtain⟨hjl,hje⟩:=List.getElem?_eq_some_iff.mp hu
  have hvl:=rv.length
  have hj:j<its.toArray.size:=by simpa using hjl
  have hsl:=sizeLine_eq
  refine call_meets PySem.F.slot_list_index ⟨_,ho,rfl⟩ PySem.F.entry_list_index (PySem.F.args_list_index_2 _ _)
   (SeqAt.list_indexAt a its.toArray n dd sl uy (eqU y) j hj (by omega) ?_ ?_) ⟨ho,fun u' hu'=>qu ry fy rv fys u' (by simpa using hu'),?_⟩
  ·have e1:its.toArray[j]=u:=by simpa using hje
   rw[e1,qB ru (sE fys hz)]
   exact hzj
  ·intro m hm hmj
   have hml:m<its.length:=by simpa using hm
   have hmy:m<ys.length:=by omega
   have hy':ys[m]?=some ys[m]:=List.getElem?_eq_getElem hmy
   obtain⟨u2,hu2,ru2⟩:=rv.get hy'
   obtain⟨_,hme⟩:=List.getElem?_eq_some_iff.mp hu2
   have e1:its.toArray[m]=u2:=by simpa using hme
   rw[e1,qB ru2 (sE fys hy')]
   exact hno m _ hmj hy'
  ·exact⟨.int (j:Nat),H,I.tok _,⟨_,rfl⟩,q⟩
end
section
variable {X:Cx}
end
theorem pK {prog:Program}{w:World}{A:Around}{E:Value->Shared->Prop}{s:Shared}{l:Addr}{items:Array Value}{Q:Value->Shared->Prop}(hl:s.heap.IsList l items)
  (h:∀s₂:Shared,s₂={ s with heap:=s.heap.push { cls:=.type "list_iterator",data:=.fields #[.ref l,.int 0 0] } }->
   (s₂.heap.IsListIter s.heap.objs.size l 0/\s₂.heap.IsList l items)->l≠s.heap.objs.size->Q (.ref s.heap.objs.size) s₂):wpAny (model prog w) A (pyIter (.ref l)) Q E s:=by
 have hlt:l<s.heap.objs.size:=by obtain⟨_,e,_⟩:=hl;exact Heap.lt_size e
 exact wpAny_pyIter_list hl (h _ rfl ⟨⟨_,Heap.get?_push_size _ rfl,rfl,rfl⟩,hl.push _⟩ (Nat.ne_of_lt hlt))
theorem lu {prog:Program}{w:World}{A:Around}{bs:List Bool}{its:List Value}(e:its=bs.map Value.bool):
  TruthOf prog w A (fun i v=>its.toArray[i]?=some v) (fun i=>bs.getD i false):=fun i v s Q E hv hq=>by
 have hv':its[i]?=some v:=by simpa using hv
 rw[e,List.getElem?_map]at hv'
 obtain⟨b,hb,rfl⟩:=Option.map_eq_some_iff.mp hv'
 have hg:bs.getD i false=b:=by rw[List.getD_eq_getElem?_getD,hb]<;>rfl
 have hq':Q (bs.getD i false) s:=hq
 rw[hg]at hq'
 exact wpAny_truthy_bool hq'
theorem nI:∀bs:List Bool,(List.range bs.length).any (fun i=>bs.getD i false)=bs.any id
 |[]=>rfl
 |b :: bs=>by
  rw[List.length_cons,List.range_succ_eq_map,List.any_cons,List.any_map,List.any_cons,<-nI bs]
  all_goals rfl
theorem nK:∀bs:List Bool,(List.range bs.length).all (fun i=>bs.getD i false)=bs.all id
 |[]=>rfl
 |b :: bs=>by
  rw[List.length_cons,List.range_succ_eq_map,List.all_cons,List.all_map,List.all_cons,<-nK bs]
  all_goals rfl
section
variable {X:Cx}
def zR (K:PySem.W.Frag):List V->Hp->VK->Prop:=fun vs H Q=>∃(a:Addr)(bs:List Bool),vs=[V.ref a]/\SqL K H a (bs.map V.bl)/\Q (.bl (bs.any id)) H
def zT (K:PySem.W.Frag):List V->Hp->VK->Prop:=fun vs H Q=>∃(a:Addr)(bs:List Bool),vs=[V.ref a]/\SqL K H a (bs.map V.bl)/\Q (.bl (bs.all id)) H
theorem l6 (hc:X.calm=true):c9 X (.builtin "any") (zR X.K):=by
 intro pins s σ H vs us Q I r h
 obtain⟨a,bs,rfl,hs,q⟩:=h
 obtain⟨its,rv,hl,_⟩:=I.list hs
 rw[Vals.ref1 r]
 have hb:=rv.bls
 refine call_any_walk (pK hl.isList fun s₂ e2 st hne=>?_)
 subst e2
 refine⟨_,_,_,_,_,_,_,rfl,Walks.list (A:=X.A.in1) (I.ok.hd hc) _ a hne its.toArray,st,lu hb,fun h' tk hk=>?_⟩
 refine⟨.bl _,H,I.kept fun b o eo=>hk b o (fun hmem=>?_) (Heap.get?_push_of_some _ eo),?_,q⟩
 ·rcases List.mem_cons.mp hmem with e1|hmem
  ·exact absurd (e1▸Heap.lt_size eo) (Nat.lt_irrefl _)
  ·cases hmem
 ·show Value.bool _=Value.bool _
  rw[<-nI,hb,List.size_toArray,List.length_map]
theorem mK (hc:X.calm=true):c9 X (.builtin "all") (zT X.K):=by
 intro pins s σ H vs us Q I r h
 obtain⟨a,bs,rfl,hs,q⟩:=h
 obtain⟨its,rv,hl,_⟩:=I.list hs
 rw[Vals.ref1 r]
 have hb:=rv.bls
 refine call_all_walk (pK hl.isList fun s₂ e2 st hne=>?_)
 subst e2
 refine⟨_,_,_,_,_,_,_,rfl,Walks.list (A:=X.A.in1) (I.ok.hd hc) _ a hne its.toArray,st,lu hb,fun h' tk hk=>?_⟩
 refine⟨.bl _,H,I.kept fun b o eo=>hk b o (fun hmem=>?_) (Heap.get?_push_of_some _ eo),?_,q⟩
 ·rcases List.mem_cons.mp hmem with e1|hmem
  ·exact absurd (e1▸Heap.lt_size eo) (Nat.lt_irrefl _)
  ·cases hmem
 ·show Value.bool _=Value.bool _
  rw[<-nK,hb,List.size_toArray,List.length_map]
end
mutual
inductive Dp (K:PySem.W.Frag)(H:Hp):V->PyData->Prop
 |non:Dp K H .non .none
 |bl (b:Bool):Dp K H (.bl b) (.bool b)
 |int (i:Int):Dp K H (.int i) (.int i)
 |str (x:Str):Dp K H (.str x) (.str x)
 |lst {a:Addr} {xs:List V} {ds:List PyData}:SqL K H a xs->DpAll K H xs ds->Dp K H (.ref a) (.list ds)
 |tup {a:Addr} {xs:List V} {ds:List PyData}:SqT K H a xs->DpAll K H xs ds->Dp K H (.ref a) (.tuple ds)
inductive DpAll (K:PySem.W.Frag)(H:Hp):List V->List PyData->Prop
 |nil:DpAll K H [] []
 |cons {v:V} {vs:List V} {d:PyData} {ds:List PyData}:Dp K H v d->DpAll K H vs ds->DpAll K H (v :: vs) (d :: ds)
end
section
variable {X:Cx}{pins:List (Addr×Obj)}{σ:St}{H:Hp}{s:Shared}
mutual
theorem Dp.reads (I:Inv X pins σ H s):∀(d:PyData)(v:V)(u:Value),Dp X.K H v d->RelV v u->∃as,Reads s.heap u d as
 |.none,_,_,h,r=>by
  cases h
  cases r
  exact⟨_,Reads.none⟩
 |.bool b,_,_,h,r=>by
  cases h
  cases r
  exact⟨_,Reads.bool b⟩
 |.int i,_,_,h,r=>by
  cases h
  obtain⟨t,rfl⟩:=r
  exact⟨_,Reads.int i t⟩
 |.str x,_,_,h,r=>by
  cases h
  obtain⟨t,rfl⟩:=r
  exact⟨_,Reads.str x t⟩
 |.list ds,_,_,h,r=>by
  cases h with
  |lst hs ha=>
   cases r
   obtain⟨its,rv,⟨o,n,ho,hc,_,hd⟩,_⟩:=I.list hs
   obtain⟨as,hr⟩:=Dp.readsAll I ds _ its ha rv
   exact⟨_,Reads.list ho hc hd hr⟩
 |.tuple ds,_,_,h,r=>by
  cases h with
  |tup hs ha=>
   cases r
   obtain⟨its,rv,⟨o,ho,hc,n,hd⟩,_⟩:=I.tuple hs
   obtain⟨as,hr⟩:=Dp.readsAll I ds _ its ha rv
   exact⟨_,Reads.tuple ho hc hd hr⟩
 |.dict _,_,_,h,_=>by cases h
theorem Dp.readsAll (I:Inv X pins σ H s):∀(ds:List PyData)(vs:List V)(us:List Value),DpAll X.K H vs ds->Vals vs us->∃as,ReadsAll s.heap us ds as
 |[],_,_,h,r=>by
  cases h
  cases r
  exact⟨_,ReadsAll.nil⟩
 |d :: ds,_,_,h,r=>by
  cases h with
  |cons h1 h2=>
   cases r with
   |cons r1 r2=>
    obtain⟨as,q1⟩:=Dp.reads I d _ _ h1 r1
    obtain⟨bs,q2⟩:=Dp.readsAll I ds _ _ h2 r2
    exact⟨_,ReadsAll.cons q1 q2⟩
end
end
section
variable {X:Cx}
def zQ (K:PySem.W.Frag):R2:=fun x y H Q=>∃d e,Dp K H x d/\Dp K H y e/\SeqAt.shaped d=true/\SeqAt.shaped e=true/\Q (.bl (PyData.eqv d e)) H
theorem zj (hu:X.A.units+64<cLine):OpR X (compareOp .Eq) (zQ X.K):=by
 intro pins s σ H x y v u Q I rx ry h
 obtain⟨d,e,hd,he,sd,se,q⟩:=h
 obtain⟨as,r1⟩:=Dp.reads I d x v hd rx
 obtain⟨bs,r2⟩:=Dp.reads I e y u he ry
 exact SeqAt.compareEq_shaped r1 r2 sd se hu ⟨.bl _,H,I,rfl,q⟩
end
abbrev uJ (h:Heap)(c:Addr)(v:Option Value):Prop:=h.IsCell c v
def z4 (scope sc:Scope):Scope:=
 { scope with names:=scope.names.map fun (n,k)=>if (k==.free&&sc.kind==.function&&sc.names.lookup n==some .cell) then (n,.cell) else (n,k) }
def aT (cells:List (Str×Addr)):List (Str×NameKind)->List (Str×Addr)->List (Str×Addr)
 |[],acc=>acc
 |(n,k) :: r,acc=>if k==.free then aT cells r ((n,(cells.lookup n).getD 0) :: acc) else aT cells r acc
theorem jV (env:Env)(f:Str×NameKind->List (Str×Addr)->Sem (ForInStep (List (Str×Addr))))
  (hf:∀n k c,f (n,k) c=if k==.free then (do let a <-cellOf env n;pure (.yield ((n,a) :: c))) else pure (.yield c)):
  ∀(names:List (Str×NameKind))(acc:List (Str×Addr)),(∀y∈names,y.2=.free->∃c,env.cells.lookup y.1=some c)->forIn names acc f=pure (aT env.cells names acc)
 |[],acc,_=>by rw[List.forIn_nil];rfl
 |(n,k) :: r,acc,h=>by
  rw[List.forIn_cons,hf]
  have ih:=fun acc=>jV env f hf r acc fun y hy=>h y (List.mem_cons_of_mem _ hy)
  unfold aT
  by_cases hk:(k==NameKind.free)=true
  ·rw[if_pos hk,if_pos hk]
   obtain⟨c,hc⟩:=h (n,k) List.mem_cons_self (by simpa using hk)
   have e:cellOf env n=pure c:=by unfold cellOf;rw[hc]
   rw[e]
   have e2:(env.cells.lookup n).getD 0=c:=by rw[hc];rfl
   rw[e2]
   exact ih _
  ·rw[if_neg hk,if_neg hk]
   exact ih _
theorem mP {scope:Scope}{env:Env}(h:∀y∈scope.names,y.2=.free->∃c,env.cells.lookup y.1=some c):closureFor scope env=pure (aT env.cells scope.names []):=by
 simp only[closureFor]
 rw[jV env _ (fun n k c=>rfl) scope.names [] h]
 rfl
theorem gG {α:Type}:∀{l:List (Str×α)} {n:Str} {c:α},(n,c)∈l->∃c',l.lookup n=some c'
 |(k,v) :: r,n,c,h=>by
  rw[List.lookup_cons]
  cases hb:n==k with
  |true=>exact⟨_,rfl⟩
  |false=>
   rcases List.mem_cons.mp h with e|h
   ·cases e;simp at hb
   ·exact gG h
theorem d4 {cells:List (Str×Addr)}:∀{names:List (Str×NameKind)} {acc:List (Str×Addr)} {n:Str} {c:Addr},(n,c)∈aT cells names acc->(n,c)∈acc∨((n,.free)∈names/\c=(cells.lookup n).getD 0)
 |[],_,_,_,h=>.inl h
 |(m,k) :: r,acc,n,c,h=>by
  unfold aT at h
  split at h
  ·rename_i hk
   have hk:k=.free:=by simpa using hk
   rcases d4 h with h|⟨h1,h2⟩
   ·rcases List.mem_cons.mp h with e|h
    ·cases e;exact .inr ⟨hk▸List.mem_cons_self,rfl⟩
    ·exact .inl h
   ·exact .inr ⟨List.mem_cons_of_mem _ h1,h2⟩
  ·rcases d4 h with h|⟨h1,h2⟩
   ·exact .inl h
   ·exact .inr ⟨List.mem_cons_of_mem _ h1,h2⟩
theorem iD {cells:List (Str×Addr)}:∀{names:List (Str×NameKind)} {acc:List (Str×Addr)} {p:Str×Addr},p∈acc->p∈aT cells names acc
 |[],_,_,h=>h
 |(m,k) :: r,acc,p,h=>by
  unfold aT
  split
  ·exact iD (List.mem_cons_of_mem _ h)
  ·exact iD h
theorem f6 {cells:List (Str×Addr)}:∀{names:List (Str×NameKind)} {acc:List (Str×Addr)} {n:Str},(n,.free)∈names->(n,(cells.lookup n).getD 0)∈aT cells names acc
 |(m,k) :: r,acc,n,h=>by
  unfold aT
  rcases List.mem_cons.mp h with e|h
  ·cases e
   exact iD List.mem_cons_self
  ·split
   ·exact f6 h
   ·exact f6 h
theorem gg:∀{names:List (Str×NameKind)} {h:Heap} {acc:List (Str×Addr)} {x:Str} {c:Addr},(x,c)∈cellsFrom h.objs.size names acc->
  (x,c)∈acc∨((x,.cell)∈names/\h.objs.size<=c/\uJ (pushCells h names) c none)
 |[],_,_,_,_,h=>.inl h
 |(n,k) :: r,h,acc,x,c,hm=>by
  unfold cellsFrom at hm
  unfold pushCells
  split at hm
  ·rename_i hk
   rw[if_pos hk]
   have hk:k=.cell:=by simpa using hk
   rw[<-Heap.size_push h { cls:=.type "cell",data:=.cell none }]at hm
   rcases gg hm with hm|⟨h1,h2,h3⟩
   ·rcases List.mem_cons.mp hm with e|hm
    ·cases e
     exact .inr ⟨hk▸List.mem_cons_self,Nat.le_refl _,_,pushCells_keeps r _ _ _ (Heap.get?_push_size _ rfl),rfl⟩
    ·exact .inl hm
   ·rw[Heap.size_push]at h2
    exact .inr ⟨List.mem_cons_of_mem _ h1,Nat.le_of_succ_le h2,h3⟩
  ·rename_i hk
   rw[if_neg hk]
   rcases gg hm with hm|⟨h1,h2,h3⟩
   ·exact .inl hm
   ·exact .inr ⟨List.mem_cons_of_mem _ h1,h2,h3⟩
theorem iz:∀{names:List (Str×NameKind)} {n:Nat} {acc:List (Str×Addr)} {p:Str×Addr},p∈acc->p∈cellsFrom n names acc
 |[],_,_,_,h=>h
 |(m,k) :: r,n,acc,p,h=>by
  unfold cellsFrom
  split
  ·exact iz (List.mem_cons_of_mem _ h)
  ·exact iz h
theorem kG:∀{names:List (Str×NameKind)} {n:Nat} {acc:List (Str×Addr)} {x:Str},(x,.cell)∈names->∃c,(x,c)∈cellsFrom n names acc
 |(m,k) :: r,n,acc,x,h=>by
  unfold cellsFrom
  rcases List.mem_cons.mp h with e|h
  ·cases e
   exact⟨n,iz List.mem_cons_self⟩
  ·split
   ·exact kG h
   ·exact kG h
theorem j4:∀{names:List (Str×NameKind)} {h:Heap} {acc:List (Str×Addr)} {x y:Str} {c:Addr},(∀p∈acc,p.2<h.objs.size)->(∀x y c,(x,c)∈acc->(y,c)∈acc->x=y)->
  (x,c)∈cellsFrom h.objs.size names acc->(y,c)∈cellsFrom h.objs.size names acc->x=y
 |[],_,_,_,_,_,_,hi,h1,h2=>hi _ _ _ h1 h2
 |(n,k) :: r,h,acc,x,y,c,hl,hi,h1,h2=>by
  unfold cellsFrom at h1 h2
  split at h1
  ·rename_i hk
   rw[if_pos hk]at h2
   rw[<-Heap.size_push h { cls:=.type "cell",data:=.cell none }]at h1 h2
   refine j4 (h:=h.push _) (fun p hp=>?_) (fun x y c a b=>?_) h1 h2
   ·rw[Heap.size_push]
    rcases List.mem_cons.mp hp with rfl|hp
    ·exact Nat.lt_succ_self _
    ·exact Nat.lt_succ_of_lt (hl p hp)
   ·rcases List.mem_cons.mp a with e|a<;>rcases List.mem_cons.mp b with e'|b
    ·cases e;cases e';rfl
    ·cases e;exact absurd (hl _ b) (Nat.lt_irrefl _)
    ·cases e';exact absurd (hl _ a) (Nat.lt_irrefl _)
    ·exact hi _ _ _ a b
  ·rename_i hk
   rw[if_neg hk]at h2
   exact j4 hl hi h1 h2
theorem r6 {M:Model}{A:Around}{E:Value->Shared->Prop}{s:Shared}{scope:Scope}{globals:Addr}{closure:List (Str×Addr)}{qual:Str}{func:Option Addr}{code:Value}{around:Env}{builtins:Addr}{Q:Env->Shared->Prop}
  (h:Q (newEnv scope s.heap.objs.size globals (cellsFrom (s.heap.objs.size+1) scope.names closure) qual func code (some around) builtins)
   { s with heap:=pushCells (s.heap.push { cls:=.type "dict",data:=.dict #[] }) scope.names }) :
  wpAny M A (newFunctionEnv scope globals closure [] qual func code (some around) builtins) Q E s:=by
 simp only[newFunctionEnv,Option.isSome_some,if_true]
 refine wpAny_bind (wpAny_alloc ?_)
 refine wpAny_bind (wpAny_layCells _ (fun n k c=>rfl) scope.names closure _ _ ?_)
 rw[show ({ s with heap:=s.heap.push { cls:=.type "dict",data:=.dict #[] } }:Shared).heap.objs.size=s.heap.objs.size+1 from Heap.size_push ..]
 rw[List.forIn_nil]
 exact wpAny_bind (wpAny_pure (wpAny_pure h))
theorem iL {sc:Scope}:∀{names:List (Str×NameKind)} {x:Str} {k:NameKind},
  (names.map fun (n,k)=>if (k==NameKind.free&&sc.kind==.function&&sc.names.lookup n==some .cell) then (n,NameKind.cell) else (n,k)).lookup x=some k->
  ∃k',names.lookup x=some k'/\(k=k'∨(k'=.free/\k=.cell))
 |[],_,_,h=>by simp at h
 |(n,k₀) :: r,x,k,h=>by
  have ih:=@iL sc r x k
  have h':List.lookup x ((if (k₀==NameKind.free&&sc.kind==.function&&sc.names.lookup n==some .cell)=true then (n,NameKind.cell) else (n,k₀)) :: (r.map _))=some k:=h
  cases hx:x==n with
  |true=>
   simp only[List.lookup_cons,hx]
   by_cases hc:(k₀==NameKind.free&&sc.kind==.function&&sc.names.lookup n==some .cell)=true
   ·rw[if_pos hc]at h'
    simp only[List.lookup_cons,hx]at h'
    cases h'
    simp only[Bool.and_eq_true,beq_iff_eq]at hc
    exact⟨k₀,rfl,.inr ⟨hc.1.1,rfl⟩⟩
   ·rw[if_neg hc]at h'
    simp only[List.lookup_cons,hx]at h'
    cases h'
    exact⟨_,rfl,.inl rfl⟩
  |false=>
   simp only[List.lookup_cons,hx]
   by_cases hc:(k₀==NameKind.free&&sc.kind==.function&&sc.names.lookup n==some .cell)=true
   ·rw[if_pos hc]at h'
    simp only[List.lookup_cons,hx]at h'
    exact ih h'
   ·rw[if_neg hc]at h'
    simp only[List.lookup_cons,hx]at h'
    exact ih h'
structure BlkOk (N:List Str)(sc scope:Scope)(own:List (Str×Nat)):Prop where
 kind:scope.kind=.function
 uniq:∀y∈scope.names,scope.names.lookup y.1=some y.2
 ix:∀p∈own,N[p.2]?=some p.1
 free:∀y∈scope.names,y.2=.free->sc.names.lookup y.1=some .cell∨sc.names.lookup y.1=some .free
 own:∀y∈scope.names,y.2=.local∨y.2=.cell->y.1∈own.map (·.1)∨y.1 ∉ N
def a9 (σ:St):List Nat->St
 |[]=>σ
 |v :: vs=>(a9 σ vs).set v none
theorem iQ (σ:St):∀vs:List Nat,(a9 σ vs).length=σ.length
 |[]=>rfl
 |v :: vs=>by unfold a9;rw[List.length_set,iQ σ vs]
theorem j7 {σ:St}{i:Nat}{x:V}:∀{vs:List Nat},(a9 σ vs)[i]?=some (some x)->σ[i]?=some (some x)/\i ∉ vs
 |[],h=>⟨h,by simp⟩
 |v :: vs,h=>by
  unfold a9 at h
  by_cases hi:v=i
  ·subst hi
   by_cases hv:v<(a9 σ vs).length
   ·rw[List.getElem?_set_self hv]at h;cases h
   ·rw[List.getElem?_eq_none (by simpa using hv)]at h;cases h
  ·rw[List.getElem?_set_ne hi]at h
   obtain⟨h1,h2⟩:=j7 h
   exact⟨h1,by simp only[List.mem_cons,not_or];exact⟨fun e=>hi e.symm,h2⟩⟩
abbrev Cx.blk (X:Cx)(s:Shared)(H:Hp)(scope:Scope)(cenv:Env)(fp:List Addr):Cx:={ X with s_0:=s,H_0:=H,env:=cenv,outer:=X.stack,ex:=fp,fn:=fun x=>scope.names.lookup x==some .cell,pn:=[],xe:=fun _ _=>False }
section
variable {X:Cx}{pins:List (Addr×Obj)}{σ:St}{H:Hp}{s:Shared}
theorem rH {scope:Scope}{own:List (Str×Nat)}{fp:List Addr}(I:Inv X pins σ H s)(ok:BlkOk X.N X.env.scope scope own)(hN:X.N.Nodup)(hfp:∀b∈fp,cI X pins H b/\b<s.heap.objs.size):
  Inv (X.blk s H scope (compEnvC scope (cellsFrom (s.heap.objs.size+1) scope.names (aT X.env.cells scope.names [])) s.heap.objs.size X.env) fp) [] (a9 σ (own.map (·.2))) H { s with heap:=pushCells (s.heap.push { cls:=.type "dict",data:=.dict #[] }) scope.names }:=by
 have hfree:∀y∈scope.names,y.2=.free->∃c,X.env.cells.lookup y.1=some c:=fun y hy e=>by
  rcases ok.free y hy e with k|k
  ·exact I.ok.has _ (.inl k)
  ·exact I.ok.has _ (.inr k)
 generalize hcenv:compEnvC scope (cellsFrom (s.heap.objs.size+1) scope.names (aT X.env.cells scope.names [])) s.heap.objs.size X.env=cenv
 have kp:∀b o,s.heap.get? b=some o->(pushCells (s.heap.push { cls:=.type "dict",data:=.dict #[] }) scope.names).get? b=some o:=fun b o e=>pushCells_keeps _ _ _ _ (Heap.get?_push_of_some _ e)
 have hL:cenv.locals=s.heap.objs.size:=by rw[<-hcenv];rfl
 have hcl:cenv.cells=cellsFrom (s.heap.objs.size+1) scope.names (aT X.env.cells scope.names []):=by rw[<-hcenv];rfl
 have hsc:cenv.scope=z4 scope X.env.scope:=by rw[<-hcenv];rfl
 rw[<-Heap.size_push s.heap { cls:=.type "dict",data:=.dict #[] }]at hcl
 have cm:∀{y c},(y,c)∈aT X.env.cells scope.names []->X.env.cells.lookup y=some c/\c<s.heap.objs.size:=fun {y c} hm=>by
  rcases d4 hm with hm|⟨h1,rfl⟩
  ·cases hm
  ·obtain⟨c,hc⟩:=hfree _ h1 rfl
   rw[hc]
   obtain⟨w,z⟩:=I.cell _ _ hc
   exact⟨rfl,z.lt⟩
 have mem:∀{y c},cenv.cells.lookup y=some c->(X.env.cells.lookup y=some c/\c<s.heap.objs.size)∨(s.heap.objs.size+1<=c/\uJ (pushCells (s.heap.push { cls:=.type "dict",data:=.dict #[] }) scope.names) c none):=fun {y c} e=>by
  rw[hcl]at e
  rcases gg (PySem.mem_of_lookup e) with hm|⟨_,h2,h3⟩
  ·exact .inl (cm hm)
  ·rw[Heap.size_push]at h2;exact .inr ⟨h2,h3⟩
 have look:∀{y},scope.names.lookup y=some .free->∃c,cenv.cells.lookup y=some c/\X.env.cells.lookup y=some c:=fun {y} hl=>by
  have hy:(y,NameKind.free)∈scope.names:=PySem.mem_of_lookup hl
  obtain⟨c',e'⟩:=gG (iz (names:=scope.names) (n:=(s.heap.push { cls:=.type "dict",data:=.dict #[] }).objs.size) (f6 (cells:=X.env.cells) (acc:=[]) hy))
  rw[<-hcl]at e'
  refine⟨c',e',?_⟩
  rw[hcl]at e'
  rcases gg (PySem.mem_of_lookup e') with hm|⟨h1,_,_⟩
  ·exact (cm hm).1
  ·have:=ok.uniq _ h1
   rw[hl]at this;cases this
 have okB:(X.blk s H scope cenv fp).Ok:=by
  refine⟨I.ok.mod,by show cenv.scope.kind=_;rw[hsc];exact ok.kind,by show cenv.globals=_;rw[<-hcenv];exact I.ok.glob,by show cenv.builtins=_;rw[<-hcenv];exact I.ok.blt,by show s.heap.objs.size<=cenv.locals;rw[hL];exact Nat.le_refl _,
   fun y z c e1 e2=>?_,fun y hy=>?_,fun y c z e=>?_,I.ok.hd,I.ok.frames,.inl rfl,fun b hb=>⟨?_,fun y c e z=>?_⟩,I.bs,Nat.le_trans I.ok.bsz I.sz,fun b o e hb=>?_,fun b hb z=>?_,I.stack,I.stkFree⟩
  ·have e1:cenv.cells.lookup y=some c:=e1
   have e2:cenv.cells.lookup z=some c:=e2
   rw[hcl]at e1 e2
   refine j4 (fun p hp=>?_) (fun y z c a b=>I.ok.inj y z c (cm a).1 (cm b).1) (PySem.mem_of_lookup e1) (PySem.mem_of_lookup e2)
   rw[Heap.size_push]
   exact Nat.lt_succ_of_lt (cm (y:=p.1) (c:=p.2) hp).2
  ·show ∃c,cenv.cells.lookup y=some c
   have key:∀k,cenv.kindOf y=some k->(k=.cell∨k=.free)->∃c,cenv.cells.lookup y=some c:=fun k hk hk'=>by
    unfold Env.kindOf at hk
    rw[hsc]at hk
    obtain⟨k',e,r⟩:=iL hk
    have:k'=.cell∨k'=.free:=by
     rcases r with rfl|⟨rfl,_⟩
     ·exact hk'
     ·exact .inr rfl
    rcases this with rfl|rfl
    ·obtain⟨c,hm⟩:=kG (n:=(s.heap.push { cls:=.type "dict",data:=.dict #[] }).objs.size) (acc:=aT X.env.cells scope.names []) (PySem.mem_of_lookup e)
     obtain⟨c',e'⟩:=gG hm
     exact⟨c',by rw[hcl];exact e'⟩
    ·obtain⟨c,h1,_⟩:=look e
     exact⟨c,h1⟩
   rcases hy with hy|hy
   ·exact key _ hy (.inl rfl)
   ·exact key _ hy (.inr rfl)
  ·have z:(scope.names.lookup y==some NameKind.cell)=true:=z
   have z:scope.names.lookup y=some .cell:=by simpa using z
   have e:cenv.cells.lookup y=some c:=e
   rw[hcl]at e
   rcases gg (PySem.mem_of_lookup e) with hm|⟨_,h2,_⟩
   ·rcases d4 hm with hm|⟨h1,_⟩
    ·cases hm
    ·have q:=ok.uniq _ h1
     rw[z]at q;cases q
   ·rw[Heap.size_push]at h2
    exact Nat.le_of_succ_le h2
  ·show b≠cenv.locals
   rw[hL];exact Nat.ne_of_lt (hfp b hb).2
  ·have e:cenv.cells.lookup y=some c:=e
   rcases mem e with ⟨h1,_⟩|⟨h1,_⟩
   ·exact (hfp b hb).1.2.2.2.2.1 y c h1 z
   ·have h2:s.heap.objs.size+1<=b:=by rw[<-z];exact h1
    exact absurd (Nat.lt_of_lt_of_le (hfp b hb).2 (Nat.le_of_succ_le h2)) (Nat.lt_irrefl _)
  ·rcases (hfp b hb).1.2.2.2.1 with z|z
   ·exact I.ok.noex b o e z
   ·exact absurd (Nat.lt_of_lt_of_le (Heap.lt_size e) (Nat.le_trans I.ok.bsz z)) (Nat.lt_irrefl _)
  ·rcases List.mem_cons.mp (I.stkSub b z) with z|z
   ·exact (hfp b hb).1.2.1 z
   ·exact (hfp b hb).1.2.2.1 z
 refine⟨okB,rfl,I.bare,Un.kept kp,⟨fun _=>none,?_,fun i y av e1 e2 e3=>?_⟩,fun y c e=>?_,?_,fun y c e=>?_,fun p hp=>?_,I.hok.kept kp,by rw[iQ];exact I.len⟩
 ·show Heap.Ns _ cenv.locals _
  rw[hL]
  exact Heap.Ns.keeps (Heap.Ns.new ..) fun b o e=>pushCells_keeps _ _ _ _ e
 ·obtain⟨e2,hne⟩:=j7 e2
  have hfr:scope.names.lookup y=some .free/\(cenv.kindOf y=some .cell∨cenv.kindOf y=some .free):=by
   have key:∀k,cenv.scope.names.lookup y=some k->k=.local∨k=.cell∨k=.free->scope.names.lookup y=some .free/\(cenv.kindOf y=some .cell∨cenv.kindOf y=some .free):=fun k hk hk'=>by
    have hk0:=hk
    rw[hsc]at hk
    obtain⟨k',e,r⟩:=iL hk
    have no:¬(k'=.local∨k'=.cell):=fun hh=>by
     rcases ok.own _ (PySem.mem_of_lookup e) hh with e'|e'
     ·obtain⟨p,hp,hpy⟩:=List.mem_map.mp e'
      have e3:=ok.ix p hp
      have:p.1=y:=hpy
      rw[this]at e3
      exact hne (List.mem_map.mpr ⟨p,hp,lD hN e3 e1⟩)
     ·exact e' (List.mem_of_getElem? e1)
    rcases r with rfl|⟨rfl,rfl⟩
    ·rcases hk' with rfl|rfl|rfl
     ·exact absurd (.inl rfl) no
     ·exact absurd (.inr rfl) no
     ·exact⟨e,.inr hk0⟩
    ·exact⟨e,.inl hk0⟩
   have e3:Vis cenv.scope y:=e3
   rcases e3 with e3|e3|e3
   ·exact key _ e3 (.inl rfl)
   ·exact key _ e3 (.inr (.inl rfl))
   ·exact key _ e3 (.inr (.inr rfl))
  obtain⟨m,hn,hl⟩:=I.loc
  have hvis:Vis X.env.scope y:=(ok.free _ (PySem.mem_of_lookup hfr.1) rfl).elim (fun k=>.inr (.inl k)) (fun k=>.inr (.inr k))
  obtain⟨w,r,q⟩:=hl i y av e1 e2 hvis
  refine⟨w,r,.inr ⟨hfr.2,?_⟩⟩
  obtain⟨c,h1,h2⟩:=look hfr.1
  rcases q with ⟨k,_⟩|⟨_,c',e',z⟩
  ·have k:X.env.scope.names.lookup y=some .local:=k
   rcases ok.free _ (PySem.mem_of_lookup hfr.1) rfl with k'|k'<;>rw[show X.env.scope.names.lookup y=_ from k']at k<;>cases k
  ·rw[h2]at e';cases e'
   exact⟨c,h1,z.keeps kp⟩
 ·have e:cenv.cells.lookup y=some c:=e
  rcases mem e with ⟨h1,_⟩|⟨_,z⟩
  ·obtain⟨w,z⟩:=I.cell y c h1
   exact⟨w,z.keeps kp⟩
  ·exact⟨_,z⟩
 ·show H cenv.locals=none
  rw[hL];exact I.hok.fresh (Nat.le_refl _)
 ·have e:cenv.cells.lookup y=some c:=e
  rcases mem e with ⟨h1,_⟩|⟨h1,_⟩
  ·exact I.freeC y c h1
  ·exact I.hok.fresh (Nat.le_of_succ_le h1)
 ·exact absurd (show p∈([]:List (Addr×Obj))++[] from hp) (by simp)
theorem zc {E:Value->Shared->Prop}{D:Addr}{xs:List V}{y:V}{v:Value}{Q:Value->Shared->Prop}(I:Inv X pins σ H s)(hD:H D=some (.lst xs))(hz:xs.length<sizeLine)(r:RelV y v)
  (h:∀s',Inv X pins σ (upd H D (.lst (xs++[y]))) s'->Q .none s'):wpAny (model X.prog X.w) X.A (call (.builtin "list.append") [.ref D,v]) Q E s:=by
 obtain⟨hz',its,n,ri,e⟩:=I.hok D _ hD
 have hl:=ri.length
 refine append_at (hsz:=by rw[List.size_toArray];omega) e fun h' sb ho'=>?_
 refine h { s with heap:=h' } (I.write (t':=s.toks) (by rw[hD];trivial) (.inl rfl) (fun b u hb q=>(sb.2 b hb).trans q) ⟨_,ho'⟩ ⟨by rw[List.length_append];exact hz,its++[v],n+1,ri.append (.cons r .nil),?_⟩)
 rw[ho']
 simp
def PTs (X:Cx)(ifs:List Expr)(t:TT):Prop:=
 ∀(pins:List (Addr×Obj))(s:Shared)(σ:St)(H:Hp)(Q:Bool->Hp->Prop),Inv X pins σ H s->t σ H Q->
  wpAny (model X.prog X.w) X.A (forIn ifs true fun c r=>if r=true then do let ok <-isTrue c X.env (eval c X.env);pure (ForInStep.yield ok) else pure (ForInStep.yield r)) (TP X pins σ Q) X.xe s
def tR:TT:=fun _ H Q=>Q true H
theorem bj:PTs X [] tR:=fun _ _ _ H _ I h=>wpAny_tests_nil ⟨H,I,h⟩
theorem i6 {c:Expr}{t:TT}(h:PT X c t):PTs X [c] t:=fun pins s σ H Q I hw=>wpAny_tests_one (h pins s σ H Q I hw)
end
theorem nh {α:Type}{t:Sem α}{Q Q':α->Shared->Prop}{M:Model}{A:Around}{E:Value->Shared->Prop}{s:Shared}(h:wpAny M A t Q (fun _ _=>False) s)(hQ:∀a s,Q a s->Q' a s):wpAny M A t Q' E s:=wpAny_mono h hQ fun _ _ z=>False.elim z
theorem qM {prog:Program}{w:World}{A:Around}{R:Result->Shared->Prop}{s:Shared}{elt target bA:Expr}{ifs:List Expr}{scope:Scope}{pos:Pos}{it acc:Value}{env:Env}(I:Nat->Shared->Prop)
  (bx:∀n s,I n s->wpAny (model prog w) A (pyNext it) (fun r s₁=>match r with
   |none=>R (.ok .next) s₁
   |some v=>wpAny (model prog w) A (letOwnedTupleGo target it v) (fun _ s₁'=>wpAny (model prog w) A (assign target env v) (fun _ s₂=>
     wpAny (model prog w) A (forIn ifs true fun c r=>if r=true then do let ok <-isTrue c env (eval c env);pure (ForInStep.yield ok) else pure (ForInStep.yield r)) (fun ok s₃=>
      if ok=true then wpAny (model prog w) A (eval elt env) (fun x s₄=>
       wpAny (model prog w) A (call (.builtin "list.append") [acc,x]) (fun _ s₅=>∃m,m<n/\I m s₅) (notedBy (model prog w) A env fun e s'=>R (.error e) s') s₄) (notedBy (model prog w) A env fun e s'=>R (.error e) s') s₃
      else ∃m,m<n/\I m s₃) (notedBy (model prog w) A env fun e s'=>R (.error e) s') s₂) (notedBy (model prog w) A env fun e s'=>R (.error e) s') s₁') (notedBy (model prog w) A env fun e s'=>R (.error e) s') s₁) (notedBy (model prog w) A env fun e s'=>R (.error e) s') s)
  (n:Nat)(h:I n s):
  codeAny (model prog w) A (.compLoop (.ListComp elt [⟨target,bA,ifs,0⟩] scope pos) 0 it acc env) R s:=by
 refine codeAny_loop rfl I (fun n s hI=>?_) n h
 show wpAny _ A ((compTurn (.ListComp elt [⟨target,bA,ifs,0⟩] scope pos) 0 it acc env).onRaise (fun x=>do noteFrame x env;theTreesLotGoes x)) _ _ s
 refine wpAny_noted ?_
 rw[compTurn_list]
 refine wpAny_bind (wpAny_standAt (wpAny_bind (wpAny_mono (bx n s hI) (fun r s₁ h₁=>?_) fun _ _ h'=>h')))
 cases r with
 |none=>exact wpAny_pure h₁
 |some v=>
  refine wpAny_bind (wpAny_mono h₁ (fun _ s₁' h₁'=>?_) fun _ _ h'=>h')
  refine wpAny_bind (wpAny_mono h₁' (fun _ s₂ h₂=>wpAny_bind (wpAny_mono h₂ (fun ok s₃ h₃=>?_) fun _ _ h'=>h')) fun _ _ h'=>h')
  cases ok with
  |false=>exact wpAny_pure ⟨rfl,h₃⟩
  |true=>
   exact wpAny_bind (wpAny_bind (wpAny_mono h₃ (fun x s₄ h₄=>wpAny_bind (wpAny_mono h₄ (fun _ s₅ h₅=>wpAny_pure (wpAny_pure ⟨rfl,h₅⟩)) fun _ _ h'=>h')) fun _ _ h'=>h'))
section
variable {X:Cx}
def tLc (wi:TI)(g:TG)(tt:TT)(te:TE)(vs:List Nat):TE:=fun σ H Q=>wi σ H fun J H1=>∀D,H1 D=none->∃W:Nat->Nat->Hp->Prop,(∃m,W 0 m (upd H1 D (.lst [])))/\∀i m H,W i m H->
 (J.stop i H/\Q (.ref D) H)∨(J.go i H/\∃Nx:Hp->Prop,(∀H',Nx H'->∃m',m'<m/\W (i+1) m' H')/\∀x H',J.yld i H x H'->g x (a9 σ vs) H' fun σ2 H2=>a9 σ2 vs=a9 σ vs/\tt σ2 H2 fun b H3=>
  if b=true then te σ2 H3 fun y H4=>∃acc,H4 D=some (.lst acc)/\acc.length<sizeLine/\Nx (upd H4 D (.lst (acc++[y]))) else Nx H3)
theorem sC {pins:List (Addr×Obj)}{s:Shared}{σ:St}{H:Hp}{Q:VK}{elt tg bA:Expr}{ifs:List Expr}{scope:Scope}{own:List (Str×Nat)}{pos pos':Pos}{wi:TI}{g:TG}{tt:TT}{te:TE}{use:Option (Value->Sem Unit)}{Qf:Value->Shared->Prop}
  (hc:X.calm=true)(hN:X.N.Nodup)(I:Inv X pins σ H s)(hi:PI X tg bA wi)(ok:BlkOk X.N X.env.scope scope own)
  (hg:∀(s:Shared)(H:Hp)(C:Addr)(cl:List (Str×Addr))(fp:List Addr),PG (X.blk s H scope (compEnvC scope cl C X.env) fp) tg g)(ht:∀(s:Shared)(H:Hp)(C:Addr)(cl:List (Str×Addr))(fp:List Addr),PTs (X.blk s H scope (compEnvC scope cl C X.env) fp) ifs tt)
  (he:∀(s:Shared)(H:Hp)(C:Addr)(cl:List (Str×Addr))(fp:List Addr),PE (X.blk s H scope (compEnvC scope cl C X.env) fp) elt te)(hs:∀x,foldedSetIterable bA X.env x=pure x)
  (h:tLc wi g tt te (own.map (·.2)) σ H Q)
  (hRR:∀D C s' m H',Inv X pins σ H' s'->Q (.ref D) H'->s'.heap.Ns C m->cI X pins H' C->compPost (model X.prog X.w) X.A X.xe use Qf (.ref D) C (.ok .next) s'):
  wpAny (model X.prog X.w) X.A (comprehension (.ListComp elt [⟨tg,bA,ifs,0⟩] scope pos) scope X.env pos' (newList []) false (eval bA X.env) use) Qf X.xe s:=by
 have hfree:∀y∈scope.names,y.2=.free->∃c,X.env.cells.lookup y.1=some c:=fun y hy e=>by
  rcases ok.free y hy e with k|k
  ·exact I.ok.has _ (.inl k)
  ·exact I.ok.has _ (.inr k)
 refine wpAny_comprehension_free (use:=use) rfl hs (mP hfree) ok.kind (fun y hy e=>by rw[ok.uniq y hy,e])
  (thn (hi pins s σ H _ I h) fun xv s1 hx=>thn hx fun itv s2 h2=>?_)
 obtain⟨it,fp,tn,J,H2,e,I2,T,st2,f2,q⟩:=h2
 subst e
 refine wpAny_newObj_type (r6 ?_) (by show 0<=sizeLine;decide)
 generalize hD:s2.heap.objs.size=D
 have hDn:H2 D=none:=I2.hok.fresh (Nat.le_of_eq hD)
 obtain⟨W,⟨m0,w0⟩,bx⟩:=q D hDn
 generalize hs3:({ s2 with heap:=s2.heap.push { cls:=.type "list",data:=.seq ([]:List Value).toArray } }:Shared)=s3
 have I3:Inv X pins σ (upd H2 D (.lst [])) s3:=by
  rw[<-hs3]
  refine I2.laid (t':=s2.toks) (fun b o e=>Heap.get?_push_of_some _ e) (Nat.le_of_eq hD) ⟨Nat.zero_le _,[],0,.nil,?_⟩
  rw[<-hD]
  exact Heap.get?_push_size _ rfl
 have h3:s3.heap=s2.heap.push { cls:=.type "list",data:=.seq ([]:List Value).toArray }:=by rw[<-hs3]
 have sz:∀b∈fp,b<s2.heap.objs.size:=fun b hb=>by
  obtain⟨o,e,_⟩:=T.obj _ _ st2 b hb
  exact Heap.lt_size e
 have f3:∀b∈fp,cI X pins (upd H2 D (.lst [])) b/\b<s3.heap.objs.size:=fun b hb=>by
  have hlt:=sz b hb
  refine⟨⟨?_,(f2 b hb).2⟩,by rw[h3,Heap.size_push];exact Nat.lt_succ_of_lt hlt⟩
  rw[ae (by rw[<-hD];exact Nat.ne_of_lt hlt)]
  exact (f2 b hb).1
 have st3:tn 0 s3.heap:=T.keep _ _ _ st2 fun b _ o e=>by rw[h3];exact Heap.get?_push_of_some _ e
 have I4:=rH I3 ok hN f3
 have pg:=hg s3 (upd H2 D (.lst [])) s3.heap.objs.size (cellsFrom (s3.heap.objs.size+1) scope.names (aT X.env.cells scope.names [])) fp
 have pt:=ht s3 (upd H2 D (.lst [])) s3.heap.objs.size (cellsFrom (s3.heap.objs.size+1) scope.names (aT X.env.cells scope.names [])) fp
 have pe:=he s3 (upd H2 D (.lst [])) s3.heap.objs.size (cellsFrom (s3.heap.objs.size+1) scope.names (aT X.env.cells scope.names [])) fp
 show codeAny _ _ (.compStart (.ListComp elt [⟨tg,bA,ifs,0⟩] scope pos) 0 (.ref it) (.ref D) (compEnvC scope (cellsFrom (s3.heap.objs.size+1) scope.names (aT X.env.cells scope.names [])) s3.heap.objs.size X.env)) (compPost (model X.prog X.w) X.A X.xe use Qf (.ref D) s3.heap.objs.size) { s3 with heap:=pushCells (s3.heap.push { cls:=.type "dict",data:=.dict #[] }) scope.names }
 have nfp:∀b∈fp,(upd H2 D (.lst [])) b=none:=fun b hb=>(f3 b hb).1.1
 generalize hce:compEnvC scope (cellsFrom (s3.heap.objs.size+1) scope.names (aT X.env.cells scope.names [])) s3.heap.objs.size X.env=ce at I4 pg pt pe ⊢
 have cL:ce.locals=s3.heap.objs.size:=by subst hce;rfl
 generalize hH3:upd H2 D (.lst [])=H3 at I3 I4 pg pt pe w0 nfp f3
 generalize hs4:({ s3 with heap:=pushCells (s3.heap.push { cls:=.type "dict",data:=.dict #[] }) scope.names }:Shared)=s4 at I4 ⊢
 have st4:tn 0 s4.heap:=T.keep _ _ _ st3 fun b _ o e=>by rw[<-hs4];exact pushCells_keeps _ _ _ _ (Heap.get?_push_of_some _ e)
 have stat:∀{σ':St} {H':Hp} {s':Shared},Inv (X.blk s3 H3 scope ce fp) [] σ' H' s'->(∀b∈fp,H' b=none)->∀b∈fp,cI (X.blk s3 H3 scope ce fp) [] H' b:=fun {σ' H' s'} I' hn b hb=>
  ⟨hn b hb,(I'.ok.exf b hb).1,I'.ok.exfs b hb,.inl hb,fun x c e=>(I'.ok.exf b hb).2 x c e,fun p hp=>absurd (show p∈([]:List (Addr×Obj))++[] from hp) (by simp)⟩
 have loop:codeAny (model X.prog X.w) X.A (.compLoop (.ListComp elt [⟨tg,bA,ifs,0⟩] scope pos) 0 (.ref it) (.ref D) ce) (compPost (model X.prog X.w) X.A X.xe use Qf (.ref D) s3.heap.objs.size) s4:=by
  refine qM (fun n s'=>∃i H',Inv (X.blk s3 H3 scope ce fp) [] (a9 σ (own.map (·.2))) H' s'/\tn i s'.heap/\(∀b∈fp,H' b=none)/\W i n H') ?_ m0 ⟨0,H3,I4,st4,nfp,w0⟩
  rintro n s5 ⟨i,H5,I5,st5,n5,w5⟩
  rcases bx i n H5 w5 with ⟨stop,qq⟩|⟨go,Nx,hNx,step⟩
  ·have td:=T.done (X.blk s3 H3 scope ce fp) rfl rfl rfl hc i [] s5 _ H5 (fun _ _=>False) I5 (stat I5 n5) st5 stop
   refine nh td fun r s6 ⟨hr,I6⟩=>?_
   subst hr
   have I7:Inv X pins σ H5 s6:=I3.call' (ch:=fp) I6.os I6.base I6.hok I6.bare fun b hb=>⟨(f3 b hb).1.2.2.2.1,(f3 b hb).1.2.1,(f3 b hb).1.2.2.2.2.1,(f3 b hb).1.2.2.2.2.2⟩
   have nC:H5 s3.heap.objs.size=none:=by
    have z:H5 ce.locals=none:=I6.free
    rw[cL]at z
    exact z
   obtain⟨m,hn,_⟩:=I6.loc
   have hn:s6.heap.Ns ce.locals m:=hn
   rw[cL]at hn
   exact hRR D s3.heap.objs.size s6 m H5 I7 qq hn (I3.fpOk (Nat.le_refl _) nC)
  ·have ti:=T.item (X.blk s3 H3 scope ce fp) rfl rfl rfl hc i [] s5 _ H5 (fun _ _=>False) I5 (stat I5 n5) st5 go
   refine nh ti fun r s6 ⟨u,hr,h6⟩=>?_
   subst hr
   refine nh h6 fun _ s7 ⟨x,H7,I7,r7,y7,st7,n7⟩=>?_
   have I7':=I7.pinned (stat I7 n7) (T.obj _ _ st7)
   refine nh (pg _ s7 _ H7 x u _ I7' r7 (step x H7 y7)) fun _ s8 ⟨σ8,H8,I8,hw8,q8⟩=>?_
   refine nh (pt _ s8 σ8 H8 _ I8 q8) fun b s9 ⟨H9,I9,q9⟩=>?_
   have fin:∀{s':Shared} {H':Hp},Inv (X.blk s3 H3 scope ce fp) ([]++ka fp s7.heap) σ8 H' s'->Nx H'->∃m,m<n/\∃i H',Inv (X.blk s3 H3 scope ce fp) [] (a9 σ (own.map (·.2))) H' s'/\tn i s'.heap/\(∀b∈fp,H' b=none)/\W i m H':=fun {s' H'} I' nx=>by
    obtain⟨m',hm,w'⟩:=hNx H' nx
    have pin':∀b∈fp,∀o,s7.heap.get? b=some o->s'.heap.get? b=some o/\H' b=none:=fun b hb o e=>
     let z:=I'.pin (b,o) (List.mem_append_right _ (List.mem_append_right _ (jD hb e)))
     ⟨z.1,z.2.1⟩
    have hl:(a9 σ (own.map (·.2))).length=σ8.length:=by rw[<-hw8,iQ]
    refine⟨m',hm,i+1,H',(I'.unpinned (pins:=[])).weak hl (fun j v e=>?_),T.keep _ _ _ st7 fun b hb o e=>(pin' b hb o e).1,fun b hb=>?_,w'⟩
    ·rw[<-hw8]at e
     exact (j7 e).1
    ·obtain⟨o,e,_⟩:=T.obj _ _ st7 b hb
     exact (pin' b hb o e).2
   cases b with
   |false=>
    simp only[Bool.false_eq_true,if_false]at q9 ⊢
    exact fin I9 q9
   |true=>
    simp only[if_true]at q9 ⊢
    refine nh (pe _ s9 σ8 H9 _ I9 q9) fun z s10 ⟨yv,H10,I10,r10,acc,hD10,hz10,nx⟩=>?_
    exact zc (X:=X.blk s3 H3 scope ce fp) I10 hD10 hz10 r10 fun s11 I11=>fin I11 nx
 exact codeAny_compStart_list loop (T.self X.A 0 _ _ _ st4 loop)
theorem cq {elt tg bA:Expr}{ifs:List Expr}{scope:Scope}{own:List (Str×Nat)}{pos:Pos}{wi:TI}{g:TG}{tt:TT}{te:TE}(hc:X.calm=true)(hN:X.N.Nodup)(hi:PI X tg bA wi)(ok:BlkOk X.N X.env.scope scope own)
  (hg:∀(s:Shared)(H:Hp)(C:Addr)(cl:List (Str×Addr))(fp:List Addr),PG (X.blk s H scope (compEnvC scope cl C X.env) fp) tg g)(ht:∀(s:Shared)(H:Hp)(C:Addr)(cl:List (Str×Addr))(fp:List Addr),PTs (X.blk s H scope (compEnvC scope cl C X.env) fp) ifs tt)
  (he:∀(s:Shared)(H:Hp)(C:Addr)(cl:List (Str×Addr))(fp:List Addr),PE (X.blk s H scope (compEnvC scope cl C X.env) fp) elt te)(hs:∀x,foldedSetIterable bA X.env x=pure x:=by intro _;rfl):
  PE X (.ListComp elt [⟨tg,bA,ifs,0⟩] scope pos) (tLc wi g tt te (own.map (·.2))):=by
 intro pins s σ H Q I h
 rw[eval_ListComp]
 refine sC hc hN I hi ok hg ht he hs h fun D C s' m H' I' q hn f=>⟨m,hn,fun h'' sb=>?_⟩
 obtain⟨f0,f1,f2,f3,f4,f5⟩:=f
 exact⟨.ref D,H',I'.turned (t':=s'.toks) (fun b o hb e=>(sb.2 b hb).trans e) f0 f1 f3 f4 f5,rfl,q⟩
theorem dF {i:Nat}{y:Str}{py:Pos}{elt tg bA:Expr}{ifs:List Expr}{scope:Scope}{own:List (Str×Nat)}{pos spos:Pos}{wi:TI}{g:TG}{tt:TT}{te:TE}(hc:X.calm=true)(hN:X.N.Nodup)(hy:X.N[i]?=some y)(hyl:X.env.scope.names.lookup y=some .local)
  (hsw:swapsWith (.ListComp elt [⟨tg,bA,ifs,0⟩] scope pos) (some (.Name y py)) spos.line X.env=pure true)(hi:PI X tg bA wi)(ok:BlkOk X.N X.env.scope scope own)
  (hg:∀(s:Shared)(H:Hp)(C:Addr)(cl:List (Str×Addr))(fp:List Addr),PG (X.blk s H scope (compEnvC scope cl C X.env) fp) tg g)(ht:∀(s:Shared)(H:Hp)(C:Addr)(cl:List (Str×Addr))(fp:List Addr),PTs (X.blk s H scope (compEnvC scope cl C X.env) fp) ifs tt)
  (he:∀(s:Shared)(H:Hp)(C:Addr)(cl:List (Str×Addr))(fp:List Addr),PE (X.blk s H scope (compEnvC scope cl C X.env) fp) elt te)(hs:∀x,foldedSetIterable bA X.env x=pure x:=by intro _;rfl):
  PS X (.Assign [.Name y py] (.ListComp elt [⟨tg,bA,ifs,0⟩] scope pos) spos) (xi (tLc wi g tt te (own.map (·.2))) (fi i)):=by
 intro pins s σ H D I h
 rw[exec_Assign_Name_used _ _ _ _ hsw]
 refine wpAny_bind (wpAny_standAt (wpAny_bind ?_))
 show wpAny _ X.A (do let _ <-comprehension (.ListComp elt [⟨tg,bA,ifs,0⟩] scope pos) scope X.env (firstIterPos [⟨tg,bA,ifs,0⟩] pos) (newList []) false (eval bA X.env) (some (assign (.Name y py) X.env))) _ _ s
 have h:tLc wi g tt te (own.map (·.2)) σ H (fun x H1=>fi i x σ H1 D.nx):=h
 refine wpAny_bind (thn (sC (Qf:=fun _ s'=>SP X pins D .next s') hc hN I hi ok hg ht he hs h fun L C s' m H' I' q hn f=>?_) fun _ s' hq=>wpAny_pure (wpAny_pure hq))
 show wpAny _ _ (assign (.Name y py) X.env (.ref L)) _ _ _
 refine wpAny_assign_Name (nM (v:=V.ref L) I' hN hy (.inl hyl) rfl (fun s2 I2 ⟨a,sb,ha⟩=>?_) (.inr hyl))
 obtain⟨f0,f1,f2,f3,f4,f5⟩:=f
 have haC:C≠a:=by
  rcases ha with z|z
  ·rw[z];exact f1
  ·exact fun e=>f4 y a z e.symm
 refine⟨m,hn.sameBut sb haC,fun h3 sb3=>?_⟩
 exact⟨_,H',I2.turned (t':=s2.toks) (fun b o hb e=>(sb3.2 b hb).trans e) f0 f1 f3 f4 f5,q⟩
theorem eK {elt:Expr}{gs:List Comprehension}{scope:Scope}{pos py:Pos}{y:Str}{l:Nat}{env:Env}(hk:env.scope.kind=.function)(hy:env.scope.names.lookup y=some .local)(hl:(py.line==pos.line)=true)
  (ha:(scope.names.any fun (n,k)=>n==y&&(k==.local||k==.cell))=false):swapsWith (.ListComp elt gs scope pos) (some (.Name y py)) l env=pure true:=by
 have ky:env.kindOf y=some .local:=hy
 have hb:env.blockKind=.function:=by unfold Env.blockKind;rw[hk];rfl
 unfold swapsWith
 simp only[hb,ky,ha,Expr.pos,hl]
 rfl
end
def yV (N:List Str)(sc scope:Scope)(own:List (Str×Nat)):Bool:=
 (match scope.kind with|.function=>true|_=>false)&&(scope.names.all fun y=>decide (scope.names.lookup y.1=some y.2))&&(own.all fun p=>decide (N[p.2]?=some p.1)) &&
  (scope.names.all fun y=>match y.2 with
   |.free=>(match sc.names.lookup y.1 with|some .cell=>true|some .free=>true|_=>false)
   |.local=>decide (y.1∈own.map (·.1))||decide (y.1 ∉ N)
   |.cell=>decide (y.1∈own.map (·.1))||decide (y.1 ∉ N)
   |_=>true)
theorem aU {N:List Str}{sc scope:Scope}{own:List (Str×Nat)}(h:yV N sc scope own=true):BlkOk N sc scope own:=by
 unfold yV at h
 simp only[Bool.and_eq_true,List.all_eq_true,decide_eq_true_eq]at h
 obtain⟨⟨⟨h1,h2⟩,h3⟩,h4⟩:=h
 refine⟨?_,h2,h3,fun y hy e=>?_,fun y hy e=>?_⟩
 ·split at h1
  ·assumption
  ·cases h1
 ·have q:=h4 y hy
  simp only[e]at q
  split at q<;>first|exact .inl (by assumption)|exact .inr (by assumption)|cases q
 ·have q:=h4 y hy
  rcases e with e|e<;>(simp only[e,Bool.or_eq_true,decide_eq_true_eq]at q;exact q)
section
variable {prog:Program}{w:World}{A:Around}{R:Result->Shared->Prop}{s:Shared}{elt t0 i0 t1 i1:Expr}{ifs0 ifs1:List Expr}{scope:Scope}{pos:Pos}{it acc:Value}{env:Env}
end
section
variable {X:Cx}
end
section
variable {κ:Type}[DecidableEq κ]
def az (kvs:List (κ×V))(k:κ):Option V:=(kvs.find? fun kv=>decide (kv.1=k)).map (·.2)
def bI (kvs:List (κ×V))(k:κ)(v:V):List (κ×V):=
 if (kvs.any fun kv=>decide (kv.1=k))=true then kvs.map (fun kv=>if kv.1=k then (kv.1,v) else kv) else kvs++[(k,v)]
def xy (kvs:List (κ×V))(k:κ):List (κ×V):=kvs.filter fun kv=>decide (kv.1≠k)
theorem bL {p:κ×V}{r:List (κ×V)}{k:κ}(e:p.1=k):az (p :: r) k=some p.2:=by simp[az,List.find?_cons,e]
theorem bM {p:κ×V}{r:List (κ×V)}{k:κ}(e:¬p.1=k):az (p :: r) k=az r k:=by simp[az,List.find?_cons,e]
theorem dH (k:κ):∀kvs:List (κ×V),(kvs.any fun kv=>decide (kv.1=k))=(az kvs k).isSome
 |[]=>rfl
 |p :: r=>by
  rw[List.any_cons]
  by_cases e:p.1=k
  ·simp only[bL e,decide_eq_true e,Bool.true_or,Option.isSome_some]
  ·rw[bM e,decide_eq_false e,Bool.false_or];exact dH k r
theorem p9 (k j:κ)(y:V):∀kvs:List (κ×V),az (kvs.map fun kv=>if kv.1=k then (kv.1,y) else kv) j=(az kvs j).map fun x=>if j=k then y else x
 |[]=>rfl
 |p :: r=>by
  have ih:=p9 k j y r
  rw[List.map_cons]
  by_cases h:p.1=k
  ·rw[if_pos h]
   by_cases e:p.1=j
   ·rw[bL (p:=(p.1,y)) e,bL e,Option.map_some,if_pos (e.symm.trans h)]
   ·rw[bM (p:=(p.1,y)) e,bM e,ih]
  ·rw[if_neg h]
   by_cases e:p.1=j
   ·rw[bL (p:=p) e,bL e,Option.map_some,if_neg (fun z=>h (e.trans z))]
   ·rw[bM (p:=p) e,bM e,ih]
theorem nH (k j:κ)(y:V):∀kvs:List (κ×V),az kvs k=none->az (kvs++[(k,y)]) j=if j=k then some y else az kvs j
 |[],_=>by
  by_cases e:k=j
  ·rw[if_pos e.symm];exact bL (p:=(k,y)) e
  ·rw[if_neg (fun z=>e z.symm)];exact bM (p:=(k,y)) e
 |p :: r,hn=>by
  rw[List.cons_append]
  have hk:¬p.1=k:=fun z=>by rw[bL z]at hn;cases hn
  rw[bM hk]at hn
  have ih:=nH k j y r hn
  by_cases e:p.1=j
  ·rw[bL e,bL e,if_neg (fun z=>hk (e.trans z))]
  ·rw[bM e,bM e,ih]
theorem fI (kvs:List (κ×V))(k j:κ)(y:V):az (bI kvs k y) j=if j=k then some y else az kvs j:=by
 unfold bI
 by_cases a:(kvs.any fun kv=>decide (kv.1=k))=true
 ·rw[if_pos a,p9]
  rw[dH]at a
  by_cases e:j=k
  ·obtain⟨x,hx⟩:=Option.isSome_iff_exists.mp a
   rw[if_pos e,e,hx,Option.map_some,if_pos rfl]
  ·rw[if_neg e]
   cases az kvs j with
   |none=>rfl
   |some x=>rw[Option.map_some,if_neg e]
 ·rw[if_neg a]
  refine nH k j y kvs ?_
  rw[dH]at a
  cases q:az kvs k with
  |none=>rfl
  |some x=>rw[q]at a;exact (a rfl).elim
theorem ln (kvs:List (κ×V))(k:κ)(v:V):(bI kvs k v).length<=kvs.length+1:=by
 unfold bI
 split
 ·rw[List.length_map];omega
 ·rw[List.length_append,List.length_cons,List.length_nil];omega
theorem fO {kvs:List (κ×V)}{k:κ}(v:V)(h:az kvs k=none):bI kvs k v=kvs++[(k,v)]:=by
 unfold bI
 rw[dH,h]
 exact if_neg (by decide)
theorem RelO.isSome_eq {o:Option V}{u:Option Value}(r:RelO o u):o.isSome=u.isSome:=by
 cases o with
 |none=>cases u with
  |none=>rfl
  |some _=>exact (show False from r).elim
 |some _=>cases u with
  |none=>exact (show False from r).elim
  |some _=>rfl
theorem RelO.getD {o:Option V}{u:Option Value}{d:V}{d':Value}(r:RelO o u)(rd:RelV d d'):RelV (o.getD d) (u.getD d'):=by
 cases o with
 |none=>cases u with
  |none=>exact rd
  |some _=>exact (show False from r).elim
 |some _=>cases u with
  |none=>exact (show False from r).elim
  |some _=>exact r
theorem KV.val {kvs:List (κ×V)}{vs:List (κ×Value)}(r:KV kvs vs)(k:κ):RelO (az kvs k) (valueAt vs k):=by
 unfold KV at r
 induction r with
 |nil=>exact True.intro
 |@cons p q ps qs h t ih=>
  obtain⟨h1,h2⟩:=h
  by_cases e:p.1=k
  ·have e':q.1=k:=h1.symm.trans e
   have b:valueAt (q :: qs) k=some q.2:=by simp[valueAt,List.find?_cons,e']
   rw[bL e,b];exact h2
  ·have e':¬q.1=k:=fun z=>e (h1.trans z)
   have b:valueAt (q :: qs) k=valueAt qs k:=by simp[valueAt,List.find?_cons,e']
   rw[bM e,b];exact ih
theorem KV.any {kvs:List (κ×V)}{vs:List (κ×Value)}(r:KV kvs vs)(k:κ):(kvs.any fun kv=>decide (kv.1=k))=vs.any fun kv=>decide (kv.1=k):=by
 unfold KV at r
 induction r with
 |nil=>rfl
 |cons h t ih=>rw[List.any_cons,List.any_cons,ih,h.1]
theorem KV.repl {kvs:List (κ×V)}{vs:List (κ×Value)}(r:KV kvs vs)(k:κ){y:V}{u:Value}(ry:RelV y u):
  KV (kvs.map fun kv=>if kv.1=k then (kv.1,y) else kv) (vs.map fun kv=>if kv.1=k then (kv.1,u) else kv):=by
 unfold KV at r ⊢
 induction r with
 |nil=>exact .nil
 |@cons p q ps qs h t ih=>
  rw[List.map_cons,List.map_cons]
  refine .cons ?_ ih
  obtain⟨h1,h2⟩:=h
  by_cases e:p.1=k
  ·rw[if_pos e,if_pos (h1.symm.trans e)];exact⟨h1,ry⟩
  ·rw[if_neg e,if_neg (fun z=>e (h1.trans z))];exact⟨h1,h2⟩
theorem KV.put {kvs:List (κ×V)}{vs:List (κ×Value)}(r:KV kvs vs)(k:κ){y:V}{u:Value}(ry:RelV y u):KV (bI kvs k y) (stored vs k u):=by
 unfold bI stored
 rw[r.any k]
 by_cases e:(vs.any fun kv=>decide (kv.1=k))=true
 ·rw[if_pos e,if_pos e];exact r.repl k ry
 ·rw[if_neg e,if_neg e];exact Paired.snoc r ⟨rfl,ry⟩
theorem KV.drop {kvs:List (κ×V)}{vs:List (κ×Value)}(r:KV kvs vs)(k:κ):KV (xy kvs k) (without vs k):=by
 unfold KV at r ⊢
 unfold xy without
 induction r with
 |nil=>exact .nil
 |@cons p q ps qs h t ih=>
  obtain⟨h1,h2⟩:=h
  rw[List.filter_cons,List.filter_cons]
  by_cases e:p.1=k
  ·have a:¬decide (p.1≠k)=true:=by simp[e]
   have b:¬decide (q.1≠k)=true:=by simp[h1.symm.trans e]
   rw[if_neg a,if_neg b];exact ih
  ·have e':¬q.1=k:=fun z=>e (h1.trans z)
   have a:decide (p.1≠k)=true:=by simp[e]
   have b:decide (q.1≠k)=true:=by simp[e']
   rw[if_pos a,if_pos b];exact .cons ⟨h1,h2⟩ ih
theorem KV.keys {kvs:List (κ×V)}{vs:List (κ×Value)}(r:KV kvs vs):kvs.map (·.1)=vs.map (·.1):=by
 unfold KV at r
 induction r with
 |nil=>rfl
 |cons h t ih=>rw[List.map_cons,List.map_cons,ih,h.1]
theorem KV.length {kvs:List (κ×V)}{vs:List (κ×Value)}(r:KV kvs vs):kvs.length=vs.length:=Paired.length r
end
theorem kY {P:Program}{w:World}{k:Key}{u:Value}(r:RelV (kV k) u):(bi P w).is k u=true:=by
 cases k with
 |inl i=>obtain⟨t,e⟩:=(show ∃t,u=Value.int i t from r);subst e;exact rV P w i t
 |inr x=>obtain⟨t,e⟩:=(show ∃t,u=Value.str x t from r);subst e;exact rp P w x t
theorem oq {P:Program}{w:World}:∀{ks:List Key} {us:List Value},Vals (ks.map kV) us->ItemsAre (bi P w) ks us
 |[],_,r=>by rw[List.map_nil]at r;cases r;exact .nil
 |k :: ks,_,r=>by
  rw[List.map_cons]at r
  cases r with
  |cons h t=>exact .cons (kY h) (oq t)
abbrev KT (H:Hp):List (List Key×V)->List (List Key×Addr×Value)->Prop:=Paired fun p q=>p.1=q.1/\H q.2.1=some (.tup (p.1.map kV))/\RelV p.2 q.2.2
theorem KT.val {H:Hp}{kvs:List (List Key×V)}{xs:List (List Key×Addr×Value)}(r:KT H kvs xs)(k:List Key):RelO (az kvs k) ((atKey xs k).map (·.2)):=by
 induction r with
 |nil=>exact True.intro
 |@cons p q ps qs h t ih=>
  obtain⟨h1,_,h2⟩:=h
  by_cases e:p.1=k
  ·have e':q.1=k:=h1.symm.trans e
   have b:atKey (q :: qs) k=some q.2:=by simp[atKey,List.find?_cons,e']
   rw[bL e,b];exact h2
  ·have e':¬q.1=k:=fun z=>e (h1.trans z)
   have b:atKey (q :: qs) k=atKey qs k:=by simp[atKey,List.find?_cons,e']
   rw[bM e,b];exact ih
theorem KT.repl {H:Hp}{kvs:List (List Key×V)}{xs:List (List Key×Addr×Value)}(r:KT H kvs xs)(k:List Key){y:V}{u:Value}(ry:RelV y u):
  KT H (kvs.map fun kv=>if kv.1=k then (kv.1,y) else kv) (xs.map (putAt k u)):=by
 induction r with
 |nil=>exact .nil
 |@cons p q ps qs h t ih=>
  rw[List.map_cons,List.map_cons]
  refine .cons ?_ ih
  obtain⟨h1,h2,h3⟩:=h
  unfold putAt
  by_cases e:p.1=k
  ·rw[if_pos e,if_pos (h1.symm.trans e)];exact⟨h1,h2,ry⟩
  ·rw[if_neg e,if_neg (fun z=>e (h1.trans z))];exact⟨h1,h2,h3⟩
theorem KT.put {H:Hp}{kvs:List (List Key×V)}{xs:List (List Key×Addr×Value)}(r:KT H kvs xs)(k:List Key){b:Addr}{y:V}{u:Value}(hb:H b=some (.tup (k.map kV)))(ry:RelV y u):
  KT H (bI kvs k y) (storedH xs k b u):=by
 have e:(kvs.any fun kv=>decide (kv.1=k))=(atKey xs k).isSome:=by
  rw[dH,(r.val k).isSome_eq,Option.isSome_map]
 unfold bI storedH
 rw[e]
 by_cases q:(atKey xs k).isSome=true
 ·rw[if_pos q,if_pos q];exact r.repl k ry
 ·rw[if_neg q,if_neg q];exact Paired.snoc r ⟨rfl,hb,ry⟩
theorem KT.keeps {H H':Hp}{kvs:List (List Key×V)}{xs:List (List Key×Addr×Value)}(r:KT H kvs xs)(ht:∀b ys,H b=some (.tup ys)->H' b=some (.tup ys)):KT H' kvs xs:=
 Paired.mapP r fun _ _ z=>⟨z.1,ht _ _ z.2.1,z.2.2⟩
section
variable {P:Program}{w:World}{H:Hp}{h:Heap}{a:Addr}
theorem xE {u:HO}(ok:HOk P w H h)(e:Rd H a u):ObjOk P w H h a u:=e.ok ok
theorem iq {kvs:List (Key×V)}(ok:HOk P w H h)(e:Rd H a (.dK kvs)):kvs.length<=sizeLine/\(a==sysModules)=false/\∃vs,KV kvs vs/\h.DictOf (bi P w) a vs:=
 show ObjOk P w H h a (.dK kvs) from xE ok e
theorem kR {kvs:List (Key×V)}(ok:HOk P w H h)(e:H a=some (.dK kvs)):kvs.length<=sizeLine/\(a==sysModules)=false/\∃vs,KV kvs vs/\h.DictOf (bi P w) a vs:=iq ok (.inl e)
theorem key_of {ks:List Key}(ok:HOk P w H h)(e:H a=some (.tup (ks.map kV))):(tupleKind (bi P w)).is h ks a:=by
 obtain⟨_,its,r,o,h1,h2,n,h3⟩:=(show ObjOk P w H h a (.tup (ks.map kV)) from ok a _ e)
 exact⟨o,its.toArray,n,h1,h2,h3,by simpa using oq r⟩
theorem jp {kvs:List (List Key×V)}(ok:HOk P w H h)(e:Rd H a (.dT kvs)):kvs.length<=sizeLine/\(a==sysModules)=false/\
  ∃xs,KT H kvs xs/\h.DictOfH (tupleKind (bi P w)) a xs:=by
 obtain⟨z,y,xs,r,o,es,ep,h1,h2,h3,h4,h5⟩:=(show ObjOk P w H h a (.dT kvs) from xE ok e)
 refine⟨z,y,xs,r,o,es,ep,h1,h2,h3,h4,fun x hx=>?_,h5⟩
 have all:∀{l:List (List Key×V)} {m:List (List Key×Addr×Value)},KT H l m->∀x∈m,(tupleKind (bi P w)).is h x.1 x.2.1:=by
  intro l m q
  induction q with
  |nil=>intro x hx;exact nomatch hx
  |@cons p q ps qs hq t ih=>
   intro x hx
   rcases List.mem_cons.mp hx with e|hx
   ·subst e
    exact key_of ok (by rw[<-hq.1];exact hq.2.1)
   ·exact ih x hx
 exact all r x hx
theorem zw {kvs:List (List Key×V)}(ok:HOk P w H h)(e:H a=some (.dT kvs)):kvs.length<=sizeLine/\(a==sysModules)=false/\
  ∃xs,KT H kvs xs/\h.DictOfH (tupleKind (bi P w)) a xs:=jp ok (.inl e)
end
def DGet (H:Hp)(a:Addr)(y:V)(r:Option V):Prop:=
 (∃kvs k,Rd H a (.dK kvs)/\y=kV k/\r=az kvs k)∨∃kvs k b,Rd H a (.dT kvs)/\y=.ref b/\H b=some (.tup (k.map kV))/\r=az kvs k
def DPut (H:Hp)(a:Addr)(y v:V)(H':Hp):Prop:=
 (∃kvs k,H a=some (.dK kvs)/\y=kV k/\kvs.length<sizeLine/\H'=upd H a (.dK (bI kvs k v))) ∨
 ∃kvs k b,H a=some (.dT kvs)/\y=.ref b/\H b=some (.tup (k.map kV))/\kvs.length<sizeLine/\H'=upd H a (.dT (bI kvs k v))
theorem DGet.k {H:Hp}{a:Addr}{kvs:List (Key×V)}{k:Key}(e:H a=some (.dK kvs)):DGet H a (kV k) (az kvs k):=.inl ⟨kvs,k,.inl e,rfl,rfl⟩
theorem DGet.t {H:Hp}{a b:Addr}{kvs:List (List Key×V)}{k:List Key}(e:H a=some (.dT kvs))(eb:H b=some (.tup (k.map kV))):DGet H a (.ref b) (az kvs k):=.inr ⟨kvs,k,b,.inl e,rfl,eb,rfl⟩
theorem DPut.k {H:Hp}{a:Addr}{kvs:List (Key×V)}{k:Key}{v:V}(e:H a=some (.dK kvs))(hl:kvs.length<sizeLine):DPut H a (kV k) v (upd H a (.dK (bI kvs k v))):=.inl ⟨kvs,k,e,rfl,hl,rfl⟩
theorem DPut.t {H:Hp}{a b:Addr}{kvs:List (List Key×V)}{k:List Key}{v:V}(e:H a=some (.dT kvs))(eb:H b=some (.tup (k.map kV)))(hl:kvs.length<sizeLine):
  DPut H a (.ref b) v (upd H a (.dT (bI kvs k v))):=.inr ⟨kvs,k,b,e,rfl,eb,hl,rfl⟩
section
variable {X:Cx}{pins:List (Addr×Obj)}{σ:St}{H:Hp}{s:Shared}{a:Addr}{y v:V}{u r:Value}{o:Option V}{A:Around}{E:Value->Shared->Prop}
theorem Inv.big (I:Inv X pins σ H s):sysModules<s.heap.objs.size:=by
 have h:mainGlobals<s.heap.objs.size:=(I.mod.glob.keeps I.bk).lt
 exact Nat.lt_trans (by decide) h
theorem vt {Q:Value->Shared->Prop}(hu:A.units+1<cLine)(I:Inv X pins σ H s)(g:DGet H a y (some v))(ry:RelV y u)(h:∀w' s',Inv X pins σ H s'->RelV v w'->Q w' s'):
  wpAny (model X.prog X.w) A (getItem (.ref a) u) Q E s:=by
 rcases g with ⟨kvs,k,e,ey,l⟩|⟨kvs,k,b,e,ey,eb,l⟩
 ·subst ey
  obtain⟨z,hd,vs,rel,dd⟩:=iq I.hok e
  obtain⟨w',hw,rw'⟩:=RelO.some_of (v:=v) (o:=valueAt vs k) (by rw[l];exact rel.val k)
  exact wpAny_getItem_of (kY ry) dd.mapOf hw (h w' _ (I.tok _) rw')
 ·subst ey
  cases (show u=Value.ref b from ry)
  obtain⟨z,hd,xs,rel,dd⟩:=jp I.hok e
  obtain⟨w',hw,rw'⟩:=RelO.some_of (v:=v) (o:=(atKey xs k).map (·.2)) (by rw[l];exact rel.val k)
  obtain⟨p,hp,hp2⟩:=Option.map_eq_some_iff.mp hw
  refine wpAny_getItem_heap (tupleKind_room_in1 hu) (key_of I.hok eb) dd hp ?_
  rw[hp2]
  exact h w' _ (I.tok _) rw'
theorem zZ {Q:Value->Shared->Prop}(hu:A.units+1<cLine)(I:Inv X pins σ H s)(g:DGet H a y o)(ry:RelV y u)(h:∀s',Inv X pins σ H s'->Q (.bool o.isSome) s'):
  wpAny (model X.prog X.w) A (compareOp .In u (.ref a)) Q E s:=by
 rcases g with ⟨kvs,k,e,ey,l⟩|⟨kvs,k,b,e,ey,eb,l⟩
 ·subst ey
  obtain⟨z,hd,vs,rel,dd⟩:=iq I.hok e
  refine wpAny_in_of (kY ry) hd dd.mapOf ?_
  rw[<-(rel.val k).isSome_eq,<-l]
  exact h _ (I.tok _)
 ·subst ey
  cases (show u=Value.ref b from ry)
  obtain⟨z,hd,xs,rel,dd⟩:=jp I.hok e
  refine wpAny_in_heap (tupleKind_room_in1 hu) (key_of I.hok eb) hd dd ?_
  have q:=(rel.val k).isSome_eq
  rw[Option.isSome_map]at q
  rw[<-q,<-l]
  exact h _ (I.tok _)
theorem xU {Q:Value->Shared->Prop}(hu:A.units+1<cLine)(I:Inv X pins σ H s)(g:DGet H a y o)(ry:RelV y u)(h:∀s',Inv X pins σ H s'->Q (.bool (!o.isSome)) s'):
  wpAny (model X.prog X.w) A (compareOp .NotIn u (.ref a)) Q E s:=by
 rcases g with ⟨kvs,k,e,ey,l⟩|⟨kvs,k,b,e,ey,eb,l⟩
 ·subst ey
  obtain⟨z,hd,vs,rel,dd⟩:=iq I.hok e
  refine wpAny_notIn_of (kY ry) hd dd.mapOf ?_
  rw[<-(rel.val k).isSome_eq,<-l]
  exact h _ (I.tok _)
 ·subst ey
  cases (show u=Value.ref b from ry)
  obtain⟨z,hd,xs,rel,dd⟩:=jp I.hok e
  refine wpAny_notIn_heap (tupleKind_room_in1 hu) (key_of I.hok eb) hd dd ?_
  have q:=(rel.val k).isSome_eq
  rw[Option.isSome_map]at q
  rw[<-q,<-l]
  exact h _ (I.tok _)
theorem r8 {h':Heap}{t':Nat}{ob:HO}(I:Inv X pins σ H s)(mu:Mut (H a))(hs:Heap.SameBut a s.heap h')(he:∃q,h'.get? a=some q)(new:ObjOk X.prog X.w (upd H a ob) h' a ob):
  Inv X pins σ (upd H a ob) { s with heap:=h',toks:=t' }:=
 I.write (x:=a) (e:=a) mu (.inl rfl) (fun b q hb z=>(hs.2 b hb).trans z) he new
theorem yO {P:Program}{w:World}{H':Hp}{h':Heap}{kvs:List (Key×V)}{vs:List (Key×Value)}(z:kvs.length<=sizeLine)(hd:(a==sysModules)=false)(rel:KV kvs vs)(dd:h'.DictOf (bi P w) a vs):
  ObjOk P w H' h' a (.dK kvs):=⟨z,hd,vs,rel,dd⟩
theorem vj {H':Hp}{Q:Unit->Shared->Prop}(hu:A.units+1<cLine)(I:Inv X pins σ H s)(g:DPut H a y v H')(ry:RelV y u)(rv:RelV v r)(h:∀s',Inv X pins σ H' s'->Q () s'):
  wpAny (model X.prog X.w) A (setItem (.ref a) u r) Q E s:=by
 rcases g with ⟨kvs,k,e,ey,l,eH⟩|⟨kvs,k,b,e,ey,eb,l,eH⟩
 ·subst ey eH
  obtain⟨z,hd,vs,rel,dd⟩:=kR I.hok e
  have hz:vs.length<=sizeLine:=by rw[<-rel.length];exact z
  have hl:(bI kvs k v).length<=sizeLine:=by have:=ln kvs k v;omega
  refine wpAny_setItem_pairs (hsz:=hz) (kY ry) dd fun h' dd' hs=>h _ ?_
  have he:∃q,h'.get? a=some q:=let ⟨q,_,_,hq,_⟩:=dd';⟨q,hq⟩
  exact r8 I (by rw[e];exact True.intro) hs he (yO hl hd (rel.put k rv) dd')
 ·subst ey eH
  cases (show u=Value.ref b from ry)
  obtain⟨z,hd,xs,rel,dd⟩:=zw I.hok e
  have hz:xs.length<=sizeLine:=by rw[<-Paired.length rel];exact z
  have hl:(bI kvs k v).length<=sizeLine:=by have:=ln kvs k v;omega
  refine wpAny_setItem_heap (hsz:=hz) (tupleKind_room_in1 hu) (key_of I.hok eb) dd fun h' dd' hs=>h _ ?_
  obtain⟨q,es,ep,hq,h2,h3,h4,_,h5⟩:=dd'
  refine r8 I (by rw[e];exact True.intro) hs ⟨q,hq⟩ ⟨hl,hd,_,(rel.put k eb rv).keeps fun c ys ec=>?_,q,es,ep,hq,h2,h3,h4,h5⟩
  rw[ae (bo ec e (fun z=>nomatch z))]
  exact ec
end
section
variable {X:Cx}{pins:List (Addr×Obj)}{σ:St}{H:Hp}{s:Shared}{a:Addr}{kvs:List (Key×V)}{k:Key}{u:Value}{A:Around}{E:Value->Shared->Prop}
theorem zE {Q:Value->Shared->Prop}(I:Inv X pins σ H s)(e:Rd H a (.dK kvs))(h:∀t s',Inv X pins σ H s'->Q (.int kvs.length t) s'):wpAny (model X.prog X.w) A (call (.builtin "len") [.ref a]) Q E s:=by
 obtain⟨z,hd,vs,rel,dd⟩:=iq I.hok e
 refine call_len_dict hd dd (by rw[<-rel.length];rw[sizeLine_eq]at z;omega) ?_
 rw[<-rel.length]
 exact h _ _ (I.tok _)
end
def yK (i:Expr):Prop:=∀ov iv,subscripted i false ov iv=operate [ov,iv] (getItem ov iv)
theorem yh {prog:Program}{w:World}{A:Around}{E:Value->Shared->Prop}{s:Shared}{env:Env}{value slice:Expr}{pos:Pos}{T id:String}{Q:Value->Shared->Prop}
  (hl:typeLookup (.type T) "__getitem__"=pure (some (.builtin id))) (hs:yK slice)
  (h:wpAny (model prog w) A (eval value env) (fun o s₁=>wpAny (model prog w) A (eval slice env) (fun i s₂=>s₂.TypeIs o T/\wpAny (model prog w) A (getItem o i) Q E s₂) E s₁) E s):
  wpAny (model prog w) A (eval (.Subscript value slice pos) env) Q E s:=by
 refine Subscript_ (wpAny_mono h (fun o s₁ h₁=>wpAny_mono h₁ (fun i s₂ h₂=>?_) fun _ _ x=>x) fun _ _ x=>x)
 obtain⟨hT,h₂⟩:=h₂
 unfold subscriptTail
 refine wpAny_bind ?_
 rw[getitemInPython_of_ne hT.not_modules]
 refine wpAny_bind (wpAny_specialOf hT hl ?_)
 have fin:wpAny (model prog w) A (subscripted slice false o i) (fun r s₃=>wpAny (model prog w) A (letTemporaryGo value o r >>= fun _=>pure r) Q E s₃) E s₂:=by
  rw[hs o i]
  exact wpAny_operating (wpAny_mono h₂ (fun r s₃ h₃=>wpAny_bind (wpAny_letTemporaryGo (wpAny_pure h₃))) fun _ _ x=>x)
 first
  |exact wpAny_pure (wpAny_bind fin)
  |exact wpAny_bind (wpAny_pure (wpAny_bind fin))
  |exact wpAny_bind fin
theorem rQ {X:Cx}{pins:List (Addr×Obj)}{σ:St}{H:Hp}{s:Shared}{a:Addr}{y:V}{o:Option V}(I:Inv X pins σ H s)(g:DGet H a y o):s.TypeIs (.ref a) "dict":=by
 rcases g with ⟨kvs,k,e,_,_⟩|⟨kvs,k,b,e,_,_,_⟩
 ·obtain⟨_,_,vs,_,dd⟩:=iq I.hok e
  exact dd.typeIs
 ·obtain⟨_,_,xs,_,dd⟩:=jp I.hok e
  exact dd.typeIs
def xD (td ty:TE):TE:=fun σ H Q=>td σ H fun x H1=>ty σ H1 fun y H2=>∃a v,x=.ref a/\DGet H2 a y (some v)/\Q v H2
def Aa (ty td:TE):TE:=fun σ H Q=>ty σ H fun y H1=>td σ H1 fun x H2=>∃a o,x=.ref a/\DGet H2 a y o/\Q (.bl o.isSome) H2
def xN (ty td:TE):TE:=fun σ H Q=>ty σ H fun y H1=>td σ H1 fun x H2=>∃a o,x=.ref a/\DGet H2 a y o/\Q (.bl (!o.isSome)) H2
def xB (td ty tv:TE):TS:=fun D σ H=>tv σ H fun v H1=>td σ H1 fun x H2=>ty σ H2 fun y H3=>∃a H4,x=.ref a/\DPut H3 a y v H4/\D.nx σ H4
section
variable {X:Cx}{o i e value:Expr}{pos pos' tpos:Pos}{td ty tv:TE}
theorem cn (hu:X.A.units+1<cLine)(ho:PE X o td)(hi:PE X i ty)(hs:yK i):PE X (.Subscript o i pos) (xD td ty):=by
 intro pins s σ H Q I h
 refine yh PySem.F.slot_dict_getitem.lookup hs (thn (ho pins s σ H _ I h) fun u s1 ⟨x,H1,I1,rx,q1⟩=>thn (hi pins s1 σ H1 _ I1 q1) fun iv s2 ⟨y,H2,I2,ry,a,v,ex,g,q2⟩=>?_)
 subst ex
 obtain rfl:u=Value.ref a:=rx
 exact⟨rQ I2 g,vt hu I2 g ry fun w' s3 I3 rw'=>⟨v,H2,I3,rw',q2⟩⟩
theorem ja (hu:X.A.units+1<cLine)(hi:PE X i ty)(ho:PE X o td):PC X .In i o (Aa ty td):=by
 intro pins s σ H Q I h
 refine thn (hi pins s σ H _ I h) fun iv s1 ⟨y,H1,I1,ry,q1⟩=>thn (ho pins s1 σ H1 _ I1 q1) fun u s2 ⟨x,H2,I2,rx,a,ov,ex,g,q2⟩=>?_
 subst ex
 obtain rfl:u=Value.ref a:=rx
 exact zZ hu I2 g ry fun s3 I3=>⟨.bl ov.isSome,H2,I3,rfl,q2⟩
theorem io (hu:X.A.units+1<cLine)(hi:PE X i ty)(ho:PE X o td):PC X .NotIn i o (xN ty td):=by
 intro pins s σ H Q I h
 refine thn (hi pins s σ H _ I h) fun iv s1 ⟨y,H1,I1,ry,q1⟩=>thn (ho pins s1 σ H1 _ I1 q1) fun u s2 ⟨x,H2,I2,rx,a,ov,ex,g,q2⟩=>?_
 subst ex
 obtain rfl:u=Value.ref a:=rx
 exact xU hu I2 g ry fun s3 I3=>⟨.bl (!ov.isSome),H2,I3,rfl,q2⟩
theorem dr (hu:X.A.units+1<cLine)(ho:PE X o td)(hi:PE X i ty)(hv:PE X value tv)(hs:swapsWith value (some (.Subscript o i pos')) pos.line X.env=pure false):
  PS X (.Assign [.Subscript o i pos'] value pos) (xB td ty tv):=by
 intro pins s σ H D I h
 refine wpAny_Assign_Subscript (thn (hv pins s σ H _ I h) fun r s1 ⟨v,H1,I1,rv,q1⟩=>thn (ho pins s1 σ H1 _ I1 q1) fun u s2 ⟨x,H2,I2,rx,q2⟩=>thn (hi pins s2 σ H2 _ I2 q2) fun iv s3 ⟨y,H3,I3,ry,a,H4,ex,g,q3⟩=>?_) hs
 subst ex
 obtain rfl:u=Value.ref a:=rx
 exact vj hu I3 g ry rv fun s4 I4=>⟨σ,H4,I4,q3⟩
end
theorem wa {P:Program}{w:World}{H:Hp}(h:Heap)(hb:sysModules<h.objs.size):ObjOk P w H (h.push { cls:=.type "dict",data:=.dict #[] }) h.objs.size (.dK []):=
 ⟨Nat.zero_le _,beq_eq_false_iff_ne.mpr (Ne.symm (Nat.ne_of_lt hb)),[],.nil,Heap.DictOf.new h⟩
def yL:TE:=fun _ H Q=>∀p,H p=none->Q (.ref p) (upd H p (.dK []))
section
variable {X:Cx}{pos:Pos}
theorem da:PE X (.Dict [] [] pos) yL:=fun pins s σ H Q I h=>
 wpAny_Dict_empty ⟨.ref s.heap.objs.size,_,I.laid (a:=s.heap.objs.size) (o:=.dK []) (t':=s.toks) (fun _ _ q=>Heap.get?_push_of_some _ q) (Nat.le_refl _) (wa s.heap I.big),rfl,h _ (I.hok.fresh (Nat.le_refl _))⟩
end
structure M1 (X:Cx)(o:Expr)(m:Str)(apos:Pos)(e:Expr)(cpos:Pos):Prop where
 base:attributeBase o m X.env (eval o X.env)=eval o X.env
 few:((backTo cpos (starEach [e] X.env)).all (fun x=>!x.1)&&(backToKw cpos (keywordEach [] X.env)).all (fun x=>x.1.isSome)
  && decide (([e]:List Expr).length+([]:List Keyword).length+(if ([]:List Keyword).isEmpty then 0 else 1)<30))=true
 line:(apos.endLine==cpos.line)=true
 trees:backTo cpos (starEach [e] X.env)=[(false,eval e X.env)]
structure M2 (X:Cx)(o:Expr)(m:Str)(apos:Pos)(e f:Expr)(cpos:Pos):Prop where
 base:attributeBase o m X.env (eval o X.env)=eval o X.env
 few:((backTo cpos (starEach [e,f] X.env)).all (fun x=>!x.1)&&(backToKw cpos (keywordEach [] X.env)).all (fun x=>x.1.isSome)
  && decide (([e,f]:List Expr).length+([]:List Keyword).length+(if ([]:List Keyword).isEmpty then 0 else 1)<30))=true
 line:(apos.endLine==cpos.line)=true
 trees:backTo cpos (starEach [e,f] X.env)=[(false,eval e X.env),(false,eval f X.env)]
def IsD (H:Hp)(a:Addr):Prop:=(∃kvs,Rd H a (.dK kvs))∨∃kvs,Rd H a (.dT kvs)
theorem yI {X:Cx}{pins:List (Addr×Obj)}{σ:St}{H:Hp}{s:Shared}{a:Addr}(I:Inv X pins σ H s)(d:IsD H a):
  s.TypeIs (.ref a) "dict"/\(∀b,Value.ref a=.ref b->∃ob,s.heap.get? b=some ob/\ob.dict=none)/\(a==sysModules)=false:=by
 rcases d with ⟨kvs,e⟩|⟨kvs,e⟩
 ·obtain⟨_,hd,vs,_,dd⟩:=iq I.hok e
  refine⟨dd.typeIs,fun b q=>?_,hd⟩
  cases q
  obtain⟨ob,_,_,h1,h2,_⟩:=dd
  exact⟨ob,h1,h2.2.1⟩
 ·obtain⟨_,hd,xs,_,dd⟩:=jp I.hok e
  refine⟨dd.typeIs,fun b q=>?_,hd⟩
  cases q
  obtain⟨ob,_,_,h1,h2,_⟩:=dd
  exact⟨ob,h1,h2.2.1⟩
section
variable {X:Cx}{pins:List (Addr×Obj)}{σ:St}{H:Hp}{s:Shared}{a:Addr}{y d:V}{u r:Value}{o:Option V}{A:Around}{E:Value->Shared->Prop}
theorem yQ {Q:Value->Shared->Prop}(hu:A.units+1<cLine)(I:Inv X pins σ H s)(g:DGet H a y o)(ry:RelV y u)(rd:RelV d r)(h:∀w' s',Inv X pins σ H s'->RelV (o.getD d) w'->Q w' s'):
  wpAny (model X.prog X.w) A (call (.builtin "dict.get") [.ref a,u,r]) Q E s:=by
 rcases g with ⟨kvs,k,e,ey,l⟩|⟨kvs,k,b,e,ey,eb,l⟩
 ·subst ey
  obtain⟨z,hd,vs,rel,dd⟩:=iq I.hok e
  refine call_meetsIn PySem.F.slot_dict_get dd.typeIs PySem.F.entry_dict_get (PySem.F.args_dict_get_3 _ _ _) (meets_dict_get_default (bi X.prog X.w) a (kY ry) hd r) ⟨_,dd.mapOf,h _ _ (I.tok _) ?_⟩
  rw[l]
  exact (rel.val k).getD rd
 ·subst ey
  cases (show u=Value.ref b from ry)
  obtain⟨z,hd,xs,rel,dd⟩:=jp I.hok e
  refine call_meetsIn PySem.F.slot_dict_get dd.typeIs PySem.F.entry_dict_get (PySem.F.args_dict_get_3 _ _ _) (meetsH_dict_get_default (tupleKind (bi X.prog X.w)) a b hd r) ⟨tupleKind_room_in1 hu,k,xs,key_of I.hok eb,dd,h _ _ (I.tok _) ?_⟩
  rw[l]
  exact (rel.val k).getD rd
end
def yW (td ty tx:TE):TE:=fun σ H Q=>td σ H fun x H1=>∃a,x=.ref a/\IsD H1 a/\ty σ H1 fun y H2=>tx σ H2 fun z H3=>∃o,DGet H3 a y o/\Q (o.getD z) H3
section
variable {X:Cx}{o e f:Expr}{apos cpos:Pos}{td ty tx:TE}
theorem qg (hu:X.A.units+1<cLine) (ho:PE X o td) (he:PE X e ty) (hf:PE X f tx) (m:M2 X o "get" apos e f cpos):PE X (.Call (.Attribute o "get" apos) [e,f] [] cpos) (yW td ty tx):=by
 intro pins s σ H Q I h
 refine wpAny_Call_method m.base m.few m.line PySem.F.plainAttrs_dict PySem.F.slot_dict_get PySem.F.type_dict_get (thn (ho pins s σ H _ I h) fun u s1 ⟨x,H1,I1,rx,a,ex,d,q1⟩=>?_)
 subst ex
 obtain rfl:u=Value.ref a:=rx
 obtain⟨t1,t2,_⟩:=yI I1 d
 refine⟨t1,t2,?_⟩
 rw[m.trees]
 refine Calls.callWith_builtin rfl (Calls.evalArgs_plain (Calls.spliced_cons (thn (he pins s1 σ H1 _ I1 q1) fun iv s2 ⟨y,H2,I2,ry,q2⟩=>
  Calls.spliced_cons (thn (hf pins s2 σ H2 _ I2 q2) fun fv s3 ⟨z,H3,I3,rz,ov,g,q3⟩=>Calls.spliced_nil ?_))))
 exact yQ hu I3 g ry rz fun w' s4 I4 rw'=>⟨_,H3,I4,rw',q3⟩
end
section
variable {X:Cx}{pins:List (Addr×Obj)}{σ:St}{H:Hp}{s:Shared}{a:Addr}{kvs:List (Key×V)}{A:Around}{E:Value->Shared->Prop}
end
section
variable {X:Cx}{pins:List (Addr×Obj)}{σ:St}{H:Hp}{s:Shared}{a:Addr}{y:V}{u:Value}{A:Around}{E:Value->Shared->Prop}
end
section
variable {prog:Program}{w:World}{A:Around}{E:Value->Shared->Prop}
end
section
variable {X:Cx}
end
section
variable {X:Cx}{pins:List (Addr×Obj)}{σ:St}{H:Hp}{s:Shared}{h':Heap}
theorem Inv.turnedNew {t':Nat}{ch:List Addr}{T:Addr}{ob:HO}(I:Inv X pins σ H s)(k:∀b o,b ∉ ch->s.heap.get? b=some o->h'.get? b=some o)(hf:∀b∈ch,cI X pins H b)(hT:s.heap.objs.size<=T)
  (new:ObjOk X.prog X.w (upd H T ob) h' T ob):Inv X pins σ (upd H T ob) { s with heap:=h',toks:=t' }:=by
 have hn:H T=none:=I.hok.fresh hT
 have nit:∀b u,H b=some u->b ∉ ch:=fun b u e z=>by
  have q:=(hf b z).1
  rw[q]at e;cases e
 refine I.step (g':=s.gens) (d':=s.drawn) (ch:=ch) (fun b hb=>⟨(hf b hb).2.2.2.1,(hf b hb).2.1,(hf b hb).2.2.2.2.1,(hf b hb).2.2.2.2.2⟩) (fun b o _ _ hc e _=>k b o hc e) (fun b o _ _ hc e _=>⟨o.slots,k b o hc e⟩)
  (fun b o _ e n=>?_) (fun b o hc e=>⟨o,k b o hc e⟩) (fun b xs e=>?_) (fun b o u e=>?_) (fun b ps e=>⟨#[],?_⟩) (fun m hm=>?_) (fun b u e=>?_) I.bare
 ·rw[ae (Nat.ne_of_lt (Nat.lt_of_lt_of_le (Heap.lt_size e) hT))];exact n
 ·rw[ae (aD e hn)];exact e
 ·rw[ae (aD e hn)];exact e
 ·rw[ae (aD e hn),e];simp
 ·obtain⟨o,es,ep,ho,r⟩:=hm
  exact⟨o,es,ep,k _ o (fun z=>(hf _ z).2.1 rfl) ho,r⟩
 ·by_cases hb:b=T
  ·subst hb
   rw[af]at e
   cases e
   exact new
  ·rw[ae hb]at e
   refine (I.hok b u e).stay (fun c v hc q=>k c v ?_ q) (fun c q=>by rw[ae (aD q hn)];exact q) fun c xs q=>by rw[ae (aD q hn)];exact q
   rcases hc with z|z
   ·rw[z];exact nit b u e
   ·exact nit c _ z
theorem Inv.lock {d:Addr}{u:HO}(I:Inv X pins σ H s)(h:H d=some u)(mu:Mut (some u)):∃od,Inv X pins σ (upd H d (.frz od u)) s:=by
 have x:=I.hok d u h
 have ex:∃od,s.heap.get? d=some od:=by
  cases u with
  |lst xs=>obtain⟨_,_,_,_,e⟩:=x;exact⟨_,e⟩
  |dK kvs=>obtain⟨_,_,_,_,o,_,_,e,_⟩:=x;exact⟨o,e⟩
  |dT kvs=>obtain⟨_,_,_,_,o,_,_,e,_⟩:=x;exact⟨o,e⟩
  |set S n=>obtain⟨o,_,_,_,e,_⟩:=x;exact⟨o,e⟩
  |ins C dx fs=>obtain⟨_,_,_,e,_⟩:=x;exact⟨_,e⟩
  |ext φ=>obtain⟨_,⟨_,e⟩,_⟩:=x;exact⟨_,e⟩
  |_=>exact False.elim mu
 obtain⟨od,e⟩:=ex
 have new:ObjOk X.prog X.w (upd H d (.frz od u)) s.heap d (.frz od u):=by
  refine⟨e,x.stay (fun b v _ q=>q) (fun b q=>?_) fun b xs q=>?_⟩
  ·rw[ae (fun z=>by rw[z,h]at q;cases q;exact mu)];exact q
  ·rw[ae (fun z=>by rw[z,h]at q;cases q;exact mu)];exact q
 exact⟨od,I.write (x:=d) (e:=d) (t':=s.toks) (h':=s.heap) (by rw[h];exact mu) (.inl rfl) (fun b v _ q=>q) ⟨od,e⟩ new⟩
theorem Inv.nofrz {d:Addr}{u:HO}(I:Inv X pins σ H s)(h:H d=some u)(mu:Mut (some u)):∀o' u',X.H_0 d≠some (.frz o' u'):=fun o' u' e=>by
 have q:=I.base.frzs d o' u' e
 rw[h]at q
 cases q
 exact mu
theorem Inv.unlock {d:Addr}{od:Obj}{u:HO}(I:Inv X pins σ H s)(h:H d=some (.frz od u))(hn:∀o' u',X.H_0 d≠some (.frz o' u')):Inv X pins σ (upd H d u) s:=by
 have neH:∀b o,H b=some o->(∀o' u',o≠.frz o' u')->b≠d:=fun b o e hne z=>by
  rw[z,h]at e
  cases e
  exact hne _ _ rfl
 have neN:∀b,H b=none->b≠d:=fun b e z=>by rw[z,h]at e;cases e
 refine⟨I.ok,I.os,I.bare,⟨I.base.keep,I.base.slot,fun b o e n hx=>?_,I.base.there,fun b xs e=>?_,fun b o x e=>?_,fun b ps e=>?_⟩,I.loc,I.cell,?_,fun x c e=>?_,fun p hp=>?_,fun b o e=>?_,I.len⟩
 ·rw[ae (neN b (I.base.free b o e n hx))];exact I.base.free b o e n hx
 ·have q:=I.base.tups b xs e
  rw[ae (neH b _ q (fun _ _ z=>nomatch z))];exact q
 ·have q:=I.base.frzs b o x e
  rw[ae (fun z=>by rw[z]at e;exact hn _ _ e)];exact q
 ·obtain⟨m,q⟩:=I.base.tbls b ps e
  exact⟨m,by rw[ae (neH b _ q (fun _ _ z=>nomatch z))];exact q⟩
 ·rw[ae (neN _ I.free)];exact I.free
 ·rw[ae (neN c (I.freeC x c e))];exact I.freeC x c e
 ·obtain⟨e,n,r⟩:=I.pin p hp
  exact⟨e,by rw[ae (neN _ n)];exact n,r⟩
 ·by_cases hb:b=d
  ·rw[hb,af]at e
   cases e
   rw[hb]
   obtain⟨_,x⟩:=I.hok d _ h
   exact x.stay (fun c v _ q=>q) (fun c q=>by rw[ae (neH c _ q (fun _ _ z=>nomatch z))];exact q) fun c xs q=>by rw[ae (neH c _ q (fun _ _ z=>nomatch z))];exact q
  ·rw[ae hb]at e
   exact (I.hok b o e).stay (fun c v _ q=>q) (fun c q=>by rw[ae (neH c _ q (fun _ _ z=>nomatch z))];exact q) fun c xs q=>by rw[ae (neH c _ q (fun _ _ z=>nomatch z))];exact q
end
def zz (t:TS):TS:=fun D σ H=>∃d u,H d=some u/\Mut (some u)/\∀od,t ⟨fun σ' H'=>H' d=some (.frz od u)/\D.nx σ' (upd H' d u),fun v H'=>H' d=some (.frz od u)/\D.rt v (upd H' d u),fun σ' H'=>H' d=some (.frz od u)/\D.bk σ' (upd H' d u),fun σ' H'=>H' d=some (.frz od u)/\D.ct σ' (upd H' d u)⟩ σ (upd H d (.frz od u))
def y9 (t:TE):TE:=fun σ H Q=>∃d u,H d=some u/\Mut (some u)/\∀od,t σ (upd H d (.frz od u)) fun v H'=>H' d=some (.frz od u)/\Q v (upd H' d u)
section
variable {X:Cx}
theorem sM {st:Stmt}{t:TS}(h:PS X st t):PS X st (zz t):=by
 intro pins s σ H D I hw
 obtain⟨d,u,hd,mu,hw⟩:=hw
 obtain⟨od,I1⟩:=I.lock hd mu
 refine thn (h pins s σ _ _ I1 (hw od)) fun f s1 q=>?_
 cases f with
 |next=>obtain⟨σ',H',I2,e,q⟩:=q;exact⟨σ',_,I2.unlock e (I.nofrz hd mu),q⟩
 |brk=>obtain⟨σ',H',I2,e,q⟩:=q;exact⟨σ',_,I2.unlock e (I.nofrz hd mu),q⟩
 |cont=>obtain⟨σ',H',I2,e,q⟩:=q;exact⟨σ',_,I2.unlock e (I.nofrz hd mu),q⟩
 |ret v=>obtain⟨x,σ',H',I2,r,e,q⟩:=q;exact⟨x,σ',_,I2.unlock e (I.nofrz hd mu),r,q⟩
theorem sh {e:Expr}{t:TE}(h:PE X e t):PE X e (y9 t):=by
 intro pins s σ H Q I hw
 obtain⟨d,u,hd,mu,hw⟩:=hw
 obtain⟨od,I1⟩:=I.lock hd mu
 refine thn (h pins s σ _ _ I1 (hw od)) fun v s1 ⟨x,H1,I2,r,e2,q⟩=>?_
 exact⟨x,_,I2.unlock e2 (I.nofrz hd mu),r,q⟩
theorem jT {tg:Expr}{pins:List (Addr×Obj)}{σ:St}{H:Hp}{s:Shared}{R:It->Hp->Prop}{J:It}{tn:Nat->Heap->Prop}{tk:Nat}(I:Inv X pins σ H s)(o:Obj)
  (T:Turn X.prog X.w X.K tg J [s.heap.objs.size] s.heap.objs.size tn)(st:tn 0 (s.heap.push o))(q:R J H):PIE X pins σ tg R (.ref s.heap.objs.size) { s with heap:=s.heap.push o,toks:=tk }:=by
 refine⟨s.heap.objs.size,[s.heap.objs.size],tn,J,H,rfl,I.kept fun b ob e=>Heap.get?_push_of_some _ e,T,st,fun b hb=>?_,q⟩
 have e:b=s.heap.objs.size:=by simpa using hb
 subst e
 exact I.fpOk (Nat.le_refl _) (I.hok.fresh (Nat.le_refl _))
end
def RgC (i j c:Int)(n:Nat):Prop:=c≠0/\c.natAbs<1073741824/\Builtin.Range.small i j c=true/\Builtin.Range.rangeSize i j c=n
theorem RgC.neg {i j:Int}(ha:-(2^62)<=i)(ha':i<2^62)(hb:-(2^62)<=j)(hb':j<2^62):RgC i j (-1) (i-j).toNat:=
 ⟨by decide,by decide,PySem.W.small_down ha ha' hb hb',PySem.W.rangeSize_downNat i j⟩
section
variable {X:Cx}{tg:Expr}
end
section
variable {X:Cx}{tg:Expr}
end
def Its (x:Str):It:=⟨fun i _=>i<x.cps.size,fun i H v H'=>H'=H/\∃c,x.cps[i]?=some c/\v=.str ⟨#[c]⟩,fun i _=>x.cps.size<=i⟩
theorem p0 {P:Program} {w:World} {K:PySem.W.Frag} {tg:Expr} (it:Addr) (x:Str) (t:Tok) (ty:String) (hty:ty="str_ascii_iterator"∨ty="str_iterator") :
  Turn P w K tg (Its x) [it] it (fun i h=>h.IsStrIter it ty x t i) where
 mem:=by simp
 obj:=fun i h st b hb=>by
  have e:b=it:=by simpa using hb
  subst e
  obtain⟨o,e,c,d⟩:=st
  exact⟨o,e,fun v z=>by rw[d]at z;cases z⟩
 keep:=fun i h h' st k=>let ⟨o,ho,r⟩:=st;⟨o,k it (by simp) o ho,r⟩
 item:=by
  intro X hP hw hK hc i pins s σ H E I hf st hg
  subst hP hw hK
  obtain⟨f0,f1,f2,f3,f4,f5⟩:=hf it (by simp)
  have W:Walks X.prog X.w X.A it [it] [it] x.cps.size (SignAt x) (fun i h=>h.IsStrIter it ty x t i):=by
   rcases hty with e|e
   ·rw[e];exact Walks.strAscii (I.ok.hd hc) it x t
   ·rw[e];exact Walks.strWide (I.ok.hd hc) it x t
  have hno:["enumerate","zip","dict_itemiterator","dict_reverseitemiterator","odict_iterator","itertools.zip_longest","itertools.pairwise"].contains ty=false:=by
   rcases hty with e|e
   ·rw[e];decide
   ·rw[e];decide
  refine W.item i s _ _ hg st fun v h' tk hv st' kk=>?_
  obtain⟨c,u,hcx,rfl⟩:=hv
  have I1:Inv X pins σ H { s with heap:=h',toks:=tk }:=I.turned (fun b o hb e=>kk b o (by simpa using hb) e) f0 f1 f3 f4 f5
  obtain⟨oi,e,cc,dd⟩:=id st'
  exact⟨_,rfl,jq (s:={ s with heap:=h',toks:=tk }) e cc dd hno ⟨.str ⟨#[c]⟩,H,I1,⟨u,rfl⟩,⟨rfl,c,hcx,rfl⟩,st',fun b hb=>(hf b hb).1⟩⟩
 done:=by
  intro X hP hw hK hc i pins s σ H E I hf st hg
  subst hP hw hK
  obtain⟨f0,f1,f2,f3,f4,f5⟩:=hf it (by simp)
  have hx:x.cps[i]?=none:=Array.getElem?_eq_none hg
  rcases hty with e|e
  ·rw[e]at st
   exact wpAny_pyNext_ascii_end (I.ok.hd hc) st hx fun h' eb=>⟨rfl,I.turned (t':=s.toks) (fun b o hb e=>eb b o hb e) f0 f1 f3 f4 f5⟩
  ·rw[e]at st
   exact wpAny_pyNext_wide_end (I.ok.hd hc) st hx fun h' eb=>⟨rfl,I.turned (t':=s.toks) (fun b o hb e=>eb b o hb e) f0 f1 f3 f4 f5⟩
 self:=fun A i s Q E st h=>by
  rcases hty with e|e
  ·rw[e]at st;exact wpAny_pyIter_striter_ascii st h
  ·rw[e]at st;exact wpAny_pyIter_striter_wide st h
def zY (te:TE):TI:=fun σ H R=>te σ H fun v H1=>∃x,v=.str x/\R (Its x) H1
theorem uS {X:Cx}{tg e:Expr}{te:TE}(he:PE X e te):PI X tg e (zY te):=by
 intro pins s σ H R I h
 refine thn (he pins s σ H _ I h) fun v s1 ⟨y,H1,I1,r1,x,ex,q⟩=>?_
 subst ex
 obtain⟨t,rfl⟩:=r1
 cases ha:x.cps.all (·<128)
 ·exact wpAny_pyIter_wide ha (jT (tk:=s1.toks) I1 _ (p0 _ x t "str_iterator" (.inr rfl)) ⟨_,Heap.get?_push_size _ rfl,rfl,rfl⟩ q)
 ·exact wpAny_pyIter_ascii ha (jT (tk:=s1.toks) I1 _ (p0 _ x t "str_ascii_iterator" (.inl rfl)) ⟨_,Heap.get?_push_size _ rfl,rfl,rfl⟩ q)
section
variable {prog:Program}{w:World}{A:Around}{E:Value->Shared->Prop}{s:Shared}
theorem oC {d:Addr}{o:Obj}{es:Array DictEntry}{ep:Nat}{Q:Value->Shared->Prop}(hd:(d==sysModules)=false)(ho:s.heap.get? d=some o)(hc:o.ExactDict)(hdat:o.data=.dict es ep)
  (hQ:Q (.ref s.heap.objs.size) { s with heap:=s.heap.push { cls:=.type "dict_keyiterator",data:=.fields #[.ref d,.int 0 0,.int es.size 0,.int ep 0] } }) :
  wpAny (model prog w) A (pyIter (.ref d)) Q E s:=by
 have hT:s.TypeIs (.ref d) "dict":=⟨o,ho,hc.1⟩
 refine wpAny_pyIter_slot hT F.slot_dict_iter (wpAny_call_entry F.slot_dict_iter hT F.entry_dict_iter ?_ (F.args_dict_iter_1 _))
 unfold Builtin.«dict.__iter__»
 refine wpAny_bind ?_
 unfold Builtin.Dict.dictSlotNone
 refine wpAny_bind (wpAny_notOrdered_dict hT ?_)
 show wpAny _ _ (pure (Value.ref d)) _ _ s
 refine wpAny_pure ?_
 show wpAny _ _ (Builtin.Dict.showsAll d >>= _) _ _ s
 unfold Builtin.Dict.showsAll
 rw[if_neg (by rw[hd];exact Bool.false_ne_true)]
 refine wpAny_bind (wpAny_pure ?_)
 refine wpAny_bind (wpAny_dictEntries ho hdat ?_)
 refine wpAny_bind (wpAny_dictEpoch ho hdat ?_)
 refine wpAny_bind (wpAny_newObj_type (wpAny_pure ⟨_,rfl,"dict_keyiterator",_,⟨_,Heap.get?_push_size _ rfl,rfl⟩,F.slot_dict_keyiterator_next.lookup,?_⟩))
 simpa[rawInt] using hQ
theorem oV {it d:Addr}{i n ep:Nat}{od:Obj}{es:Array DictEntry}{en:DictEntry}{Q:Option Value->Shared->Prop}(hit:s.heap.IsKeyIter it d i n ep)(hod:s.heap.get? d=some od)(hdd:od.data=.dict es ep)
  (hsz:es.size=n)(hx:es[i]?=some en)(hQ:∀h',h'.IsKeyIter it d (i+1) n ep->Heap.SameBut it s.heap h'->Q (some en.key) { s with heap:=h' }):wpAny (model prog w) A (pyNext (.ref it)) Q E s:=by
 obtain⟨o,ho,hc,hd⟩:=id hit
 unfold pyNext
 refine wpAny_bind (wpAny_attempt (wpAny_callSpecial?_slot (name:=Str.ofString "__next__") hit.typeIs F.slot_dict_keyiterator_next
  (wpAny_call_entry F.slot_dict_keyiterator_next hit.typeIs F.entry_dict_keyiterator_next ?_ (F.args_dict_keyiterator_next_1 _))))
 refine wpAny_bind (wpAny_pure ?_)
 refine wpAny_bind ?_
 refine wpAny_bind ?_
 first|refine wpAny_bind (wpAny_typeNameOfWhole_keyiter hit.typeIs (wpAny_pure ?_))|refine wpAny_bind (wpAny_typeNameOf_keyiter hit.typeIs (wpAny_pure ?_))
 refine wpAny_bind (wpAny_fieldsOf ho hd ?_)
 have hown:Builtin.Dict_items.ownsTuple "dict_keyiterator"=false:=by decide
 simp only[hown,Bool.false_eq_true,if_false]
 show wpAny _ _ (if (Value.ref d==Value.none)=true then _ else _) _ _ s
 rw[if_neg (show ¬((Value.ref d==Value.none)=true) from Bool.false_ne_true)]
 refine wpAny_bind (wpAny_pure ?_)
 refine wpAny_bind (wpAny_dictEntries hod hdd ?_)
 rw[if_neg (by rw[hsz];simp)]
 refine wpAny_bind (wpAny_pure ?_)
 refine wpAny_bind (wpAny_dictEpoch hod hdd ?_)
 rw[if_neg (by simp)]
 refine wpAny_pure ?_
 obtain⟨hlt',hen⟩:=Array.getElem?_eq_some_iff.mp hx
 simp only[show ¬((i:Int)<0) from by omega,if_false,Int.toNat_natCast,Array.getElem?_eq_getElem hlt']
 refine wpAny_bind ?_
 first|refine wpAny_bind (wpAny_typeNameOfWhole_keyiter hit.typeIs (wpAny_pure ?_))|refine wpAny_bind (wpAny_typeNameOf_keyiter hit.typeIs (wpAny_pure ?_))
 refine wpAny_bind (wpAny_isOneOf_keyiter hit.typeIs ?_)
 show wpAny _ _ (setField (.ref it) 1 (rawInt ((i:Int)+1)) >>= _) _ _ s
 refine wpAny_bind (wpAny_setField ho hd (by simp) ?_)
 have hit':(s.heap.update it (Obj.mapFields (·.setIfInBounds 1 (rawInt ((i:Int)+1))))).IsKeyIter it d (i+1) n ep:=
  ⟨_,Heap.get?_update_self _ ho (Obj.isFreed_of_fields (Obj.data_mapFields hd _)),(Obj.cls_mapFields ..).trans hc,by rw[Obj.data_mapFields hd];simp[rawInt]⟩
 refine wpAny_bind (wpAny_holding ?_)
 refine wpAny_bind (wpAny_isOneOf_keyiter (s:={ s with heap:=s.heap.update it (Obj.mapFields (·.setIfInBounds 1 (rawInt ((i:Int)+1)))) }) hit'.typeIs ?_)
 show wpAny _ _ (pure es[i].key) _ _ _
 rw[hen]
 exact wpAny_pure (wpAny_pure ⟨_,rfl,wpAny_pure (hQ _ hit' (Heap.SameBut.update ..))⟩)
theorem jY {it d:Addr}{i n ep:Nat}{od:Obj}{es:Array DictEntry}{Q:Option Value->Shared->Prop}(hh:A.handled=none)(hit:s.heap.IsKeyIter it d i n ep)(hod:s.heap.get? d=some od)(hdd:od.data=.dict es ep)
  (hsz:es.size=n)(hge:n<=i)(hQ:∀h',Heap.ExtBut it s.heap h'->Q none { s with heap:=h' }):wpAny (model prog w) A (pyNext (.ref it)) Q E s:=by
 obtain⟨o,ho,hc,hd⟩:=id hit
 unfold pyNext
 refine wpAny_bind (wpAny_attempt (wpAny_callSpecial?_slot (name:=Str.ofString "__next__") hit.typeIs F.slot_dict_keyiterator_next
  (wpAny_call_entry F.slot_dict_keyiterator_next hit.typeIs F.entry_dict_keyiterator_next ?_ (F.args_dict_keyiterator_next_1 _))))
 refine wpAny_bind (wpAny_pure ?_)
 refine wpAny_bind ?_
 refine wpAny_bind ?_
 first|refine wpAny_bind (wpAny_typeNameOfWhole_keyiter hit.typeIs (wpAny_pure ?_))|refine wpAny_bind (wpAny_typeNameOf_keyiter hit.typeIs (wpAny_pure ?_))
 refine wpAny_bind (wpAny_fieldsOf ho hd ?_)
 have hown:Builtin.Dict_items.ownsTuple "dict_keyiterator"=false:=by decide
 simp only[hown,Bool.false_eq_true,if_false]
 show wpAny _ _ (if (Value.ref d==Value.none)=true then _ else _) _ _ s
 rw[if_neg (show ¬((Value.ref d==Value.none)=true) from Bool.false_ne_true)]
 refine wpAny_bind (wpAny_pure ?_)
 refine wpAny_bind (wpAny_dictEntries hod hdd ?_)
 rw[if_neg (by rw[hsz];simp)]
 refine wpAny_bind (wpAny_pure ?_)
 refine wpAny_bind (wpAny_dictEpoch hod hdd ?_)
 rw[if_neg (by simp)]
 refine wpAny_pure ?_
 have hge':es.size<=i:=by rw[hsz];exact hge
 simp only[show ¬((i:Int)<0) from by omega,if_false,Int.toNat_natCast,Array.getElem?_eq_none hge']
 refine wpAny_bind ?_
 first|refine wpAny_bind (wpAny_typeNameOfWhole_keyiter hit.typeIs (wpAny_pure ?_))|refine wpAny_bind (wpAny_typeNameOf_keyiter hit.typeIs (wpAny_pure ?_))
 show wpAny _ _ (setField (.ref it) 0 .none >>= _) _ _ s
 refine wpAny_bind (wpAny_setField ho hd (by simp) ?_)
 show wpAny _ _ (newExc (.type "StopIteration") [] >>= _) _ _ _
 refine wpAny_bind ?_
 simp only[newExc,newTuple]
 refine wpAny_bind (wpAny_newObj_type ?_ (by size_fits))
 refine wpAny_bind (m:=firstArgMember _ _) (wpAny_of_eq (a:=Value.none) (by first|rfl|(simp only[firstArgMember];rfl)) ?_)
 refine wpAny_newObj_type ?_ (by size_fits)
 simp only[raiseNew]
 refine wpAny_bind (wpAny_handled ?_)
 rw[show A.in1.handled=none from hh]
 refine wpAny_bind (wpAny_pure (wpAny_throw ?_))
 refine wpAny_bind (wpAny_isInstance (T:="StopIteration") (b:=true) ⟨_,Heap.get?_push_size _ rfl,rfl⟩ isSubtype_stop ?_)
 exact wpAny_pure (hQ _ (((Heap.SameBut.update ..).extBut.push _).push _))
end
theorem vw {κ:Type}{kvs:List (κ×V)}{vs:List (κ×Value)}(h:KV kvs vs):∀{i:Nat} {k:κ} {v:V},kvs[i]?=some (k,v)->∃u,vs[i]?=some (k,u)/\RelV v u:=by
 unfold KV at h
 induction h with
 |nil=>intro i k v e;simp at e
 |@cons a b l₁ l₂ r t ih=>
  intro i k v e
  cases i with
  |zero=>
   simp only[List.getElem?_cons_zero,Option.some.injEq]at e
   subst e
   refine⟨b.2,?_,r.2⟩
   simp only[List.getElem?_cons_zero]
   exact congrArg some (Prod.ext r.1.symm rfl)
  |succ j=>
   simp only[List.getElem?_cons_succ]at e ⊢
   exact ih e
theorem uu {α β:Type}{G:α->β->Prop}{l₁:List α}{l₂:List β}(h:Paired G l₁ l₂):∀{i:Nat} {a:α},l₁[i]?=some a->∃b,l₂[i]?=some b/\G a b:=by
 induction h with
 |nil=>intro i a e;simp at e
 |@cons a b l₁ l₂ r t ih=>
  intro i a' e
  cases i with
  |zero=>
   simp only[List.getElem?_cons_zero,Option.some.injEq]at e
   subst e
   exact⟨b,rfl,r⟩
  |succ j=>
   simp only[List.getElem?_cons_succ]at e ⊢
   exact ih e
theorem pP {k:Key}{u:Value}(h:gF k u=true):RelV (kV k) u:=by
 rcases bP h with ⟨i,t,rfl,rfl⟩|⟨x,t,rfl,rfl⟩
 ·exact⟨t,rfl⟩
 ·exact⟨t,rfl⟩
section
variable {X:Cx}{pins:List (Addr×Obj)}{σ:St}{H:Hp}{s:Shared}{d:Addr}{o:Obj}
theorem Inv.frzK {kvs:List (Key×V)}(I:Inv X pins σ H s)(h:H d=some (.frz o (.dK kvs))):
  (d==sysModules)=false/\s.heap.get? d=some o/\o.ExactDict/\∃(es:Array DictEntry)(ep:Nat)(vs:List (Key×Value)),o.data=.dict es ep/\es.size=kvs.length/\KV kvs vs/\s.heap.DictAt (bi X.prog X.w) d vs ep:=by
 obtain⟨hd,z,hs,vs,kv,o',es,ep,ho,hx,hdt,r⟩:=I.hok d _ h
 rw[hd]at ho
 cases ho
 refine⟨hs,hd,hx,es,ep,vs,hdt,?_,kv,o,es,hd,hx,hdt,r⟩
 have l1:=r.2.1.length
 have l2:kvs.length=vs.length:=Paired.length kv
 rw[Array.length_toList]at l1
 omega
theorem Inv.frzT {kvs:List (List Key×V)}(I:Inv X pins σ H s)(h:H d=some (.frz o (.dT kvs))):
  (d==sysModules)=false/\s.heap.get? d=some o/\o.ExactDict/\∃(es:Array DictEntry)(ep:Nat),o.data=.dict es ep/\es.size=kvs.length/\
   ∀(i:Nat)(k:List Key)(v:V),kvs[i]?=some (k,v)->∃(en:DictEntry)(q:Addr),es[i]?=some en/\en.key=.ref q/\H q=some (.tup (k.map kV)):=by
 obtain⟨hd,z,hs,xs,pr,o',es,ep,ho,hx,hdt,he,_⟩:=I.hok d _ h
 rw[hd]at ho
 cases ho
 refine⟨hs,hd,hx,es,ep,hdt,?_,fun i k v e=>?_⟩
 ·have l1:es.size=xs.length:=size_of_entries he
  have l2:kvs.length=xs.length:=Paired.length pr
  omega
 ·obtain⟨b,hb,e1,e2,_⟩:=uu pr e
  have q:=entry_at he i
  rw[hb]at q
  exact⟨_,b.2.1,q,rfl,e2⟩
end
def Itk (d:Addr)(o:Obj)(kvs:List (Key×V)):It:=
 ⟨fun i H=>H d=some (.frz o (.dK kvs))/\i<kvs.length,fun i H x H'=>H'=H/\∃k v,kvs[i]?=some (k,v)/\x=kV k,fun i H=>H d=some (.frz o (.dK kvs))/\kvs.length<=i⟩
def yF (d:Addr)(o:Obj)(kvs:List (List Key×V)):It:=
 ⟨fun i H=>H d=some (.frz o (.dT kvs))/\i<kvs.length,fun i H x H'=>H'=H/\∃(k:List Key)(v:V)(q:Addr),kvs[i]?=some (k,v)/\x=.ref q/\H q=some (.tup (k.map kV)),fun i H=>H d=some (.frz o (.dT kvs))/\kvs.length<=i⟩
def Itd (d:Addr)(o:Obj)(kvs:List (Key×V)):It:=
 ⟨fun i H=>H d=some (.frz o (.dK kvs))/\i<kvs.length,fun i H x H'=>H'=H/\∃k,kvs[i]?=some (k,x),fun i H=>H d=some (.frz o (.dK kvs))/\kvs.length<=i⟩
theorem gP {o:Obj}{es es':Array DictEntry}{ep ep':Nat}(h:o.data=.dict es ep)(h':o.data=.dict es' ep'):es'=es/\ep'=ep:=by
 rw[h]at h'
 cases h'
 exact⟨rfl,rfl⟩
section
variable {P:Program}{w:World}{K:PySem.W.Frag}{tg:Expr}{d:Addr}{o:Obj}{es:Array DictEntry}{ep:Nat}
theorem u3 {kvs:List (Key×V)}(it:Addr)(hod:o.data=.dict es ep):Turn P w K tg (Itk d o kvs) [it] it (fun i h=>h.IsKeyIter it d i kvs.length ep) where
 mem:=by simp
 obj:=fun i h st b hb=>by
  have e:b=it:=by simpa using hb
  subst e
  obtain⟨oi,e,c,dd⟩:=st
  exact⟨oi,e,fun v z=>by rw[dd]at z;cases z⟩
 keep:=fun i h h' st k=>st.at fun oi e=>k it (by simp) oi e
 item:=by
  intro X hP hw hK hc i pins s σ H E I hf st hg
  subst hP hw hK
  obtain⟨hd,hi⟩:=hg
  obtain⟨f0,f1,f2,f3,f4,f5⟩:=hf it (by simp)
  obtain⟨hs,hgd,hx,es',ep',vs,hdt,hsz,kv,hm⟩:=I.frzK hd
  obtain⟨rfl,rfl⟩:=gP hod hdt
  obtain⟨⟨k,v⟩,hkv⟩:∃p,kvs[i]?=some p:=⟨kvs[i],List.getElem?_eq_getElem hi⟩
  obtain⟨u,hu,ru⟩:=vw kv hkv
  have hl:kvs.length=vs.length:=Paired.length kv
  rw[hl]at st
  refine wpAny_pyNext_dict_item st hm hu fun key h' hkey st' sb=>?_
  have I1:Inv X pins σ H { s with heap:=h' }:=I.turned (t':=s.toks) (fun b ob hb e=>(sb.2 b hb).trans e) f0 f1 f3 f4 f5
  obtain⟨oi,e,c,dd⟩:=id st'
  refine⟨key,rfl,jq (s:={ s with heap:=h' }) e c dd (by decide) ⟨kV k,H,I1,pP (show gF k key=true from hkey),⟨rfl,k,v,hkv,rfl⟩,?_,fun b hb=>(hf b hb).1⟩⟩
  show h'.IsKeyIter it d (i+1) kvs.length _
  rw[hl]
  exact st'
 done:=by
  intro X hP hw hK hc i pins s σ H E I hf st hg
  subst hP hw hK
  obtain⟨hd,hi⟩:=hg
  obtain⟨f0,f1,f2,f3,f4,f5⟩:=hf it (by simp)
  obtain⟨hs,hgd,hx,es',ep',vs,hdt,hsz,kv,hm⟩:=I.frzK hd
  obtain⟨rfl,rfl⟩:=gP hod hdt
  exact jY (I.ok.hd hc) st hgd hdt hsz hi fun h' eb=>⟨rfl,I.turned (t':=s.toks) (fun b ob hb e=>eb b ob hb e) f0 f1 f3 f4 f5⟩
 self:=fun A i s Q E st h=>wpAny_pyIter_keyiter st h
theorem tm {kvs:List (List Key×V)}(it:Addr)(hod:o.data=.dict es ep):Turn P w K tg (yF d o kvs) [it] it (fun i h=>h.IsKeyIter it d i kvs.length ep) where
 mem:=by simp
 obj:=fun i h st b hb=>by
  have e:b=it:=by simpa using hb
  subst e
  obtain⟨oi,e,c,dd⟩:=st
  exact⟨oi,e,fun v z=>by rw[dd]at z;cases z⟩
 keep:=fun i h h' st k=>st.at fun oi e=>k it (by simp) oi e
 item:=by
  intro X hP hw hK hc i pins s σ H E I hf st hg
  subst hP hw hK
  obtain⟨hd,hi⟩:=hg
  obtain⟨f0,f1,f2,f3,f4,f5⟩:=hf it (by simp)
  obtain⟨hs,hgd,hx,es',ep',hdt,hsz,ent⟩:=I.frzT hd
  obtain⟨rfl,rfl⟩:=gP hod hdt
  obtain⟨⟨k,v⟩,hkv⟩:∃p,kvs[i]?=some p:=⟨kvs[i],List.getElem?_eq_getElem hi⟩
  obtain⟨en,q,hen,hkey,hq⟩:=ent i k v hkv
  refine oV st hgd hdt hsz hen fun h' st' sb=>?_
  have I1:Inv X pins σ H { s with heap:=h' }:=I.turned (t':=s.toks) (fun b ob hb e=>(sb.2 b hb).trans e) f0 f1 f3 f4 f5
  obtain⟨oi,e,c,dd⟩:=id st'
  exact⟨en.key,rfl,jq (s:={ s with heap:=h' }) e c dd (by decide) ⟨.ref q,H,I1,hkey,⟨rfl,k,v,q,hkv,rfl,hq⟩,st',fun b hb=>(hf b hb).1⟩⟩
 done:=by
  intro X hP hw hK hc i pins s σ H E I hf st hg
  subst hP hw hK
  obtain⟨hd,hi⟩:=hg
  obtain⟨f0,f1,f2,f3,f4,f5⟩:=hf it (by simp)
  obtain⟨hs,hgd,hx,es',ep',hdt,hsz,ent⟩:=I.frzT hd
  obtain⟨rfl,rfl⟩:=gP hod hdt
  exact jY (I.ok.hd hc) st hgd hdt hsz hi fun h' eb=>⟨rfl,I.turned (t':=s.toks) (fun b ob hb e=>eb b ob hb e) f0 f1 f3 f4 f5⟩
 self:=fun A i s Q E st h=>by
  refine wpAny_pyIter_slot st.typeIs F.slot_dict_keyiterator_iter (wpAny_call_entry F.slot_dict_keyiterator_iter st.typeIs F.entry_dict_keyiterator_iter ?_ (F.args_dict_keyiterator_iter_1 _))
  show wpAny _ _ (ret (.ref it)) _ _ s
  exact wpAny_pure ⟨_,rfl,"dict_keyiterator",_,st.typeIs,F.slot_dict_keyiterator_next.lookup,h⟩
theorem vF {kvs:List (Key×V)}(it:Addr)(hod:o.data=.dict es ep):Turn P w K tg (Itd d o kvs) [it] it (fun i h=>h.IsValIter it d i kvs.length ep) where
 mem:=by simp
 obj:=fun i h st b hb=>by
  have e:b=it:=by simpa using hb
  subst e
  obtain⟨oi,e,c,dd⟩:=st
  exact⟨oi,e,fun v z=>by rw[dd]at z;cases z⟩
 keep:=fun i h h' st k=>st.at fun oi e=>k it (by simp) oi e
 item:=by
  intro X hP hw hK hc i pins s σ H E I hf st hg
  subst hP hw hK
  obtain⟨hd,hi⟩:=hg
  obtain⟨f0,f1,f2,f3,f4,f5⟩:=hf it (by simp)
  obtain⟨hs,hgd,hx,es',ep',vs,hdt,hsz,kv,hm⟩:=I.frzK hd
  obtain⟨rfl,rfl⟩:=gP hod hdt
  obtain⟨⟨k,v⟩,hkv⟩:∃p,kvs[i]?=some p:=⟨kvs[i],List.getElem?_eq_getElem hi⟩
  obtain⟨u,hu,ru⟩:=vw kv hkv
  have hl:kvs.length=vs.length:=Paired.length kv
  rw[hl]at st
  refine wpAny_pyNext_values_item st hm hu fun h' st' sb=>?_
  have I1:Inv X pins σ H { s with heap:=h' }:=I.turned (t':=s.toks) (fun b ob hb e=>(sb.2 b hb).trans e) f0 f1 f3 f4 f5
  obtain⟨oi,e,c,dd⟩:=id st'
  refine⟨u,rfl,jq (s:={ s with heap:=h' }) e c dd (by decide) ⟨v,H,I1,ru,⟨rfl,k,hkv⟩,?_,fun b hb=>(hf b hb).1⟩⟩
  show h'.IsValIter it d (i+1) kvs.length _
  rw[hl]
  exact st'
 done:=by
  intro X hP hw hK hc i pins s σ H E I hf st hg
  subst hP hw hK
  obtain⟨hd,hi⟩:=hg
  obtain⟨f0,f1,f2,f3,f4,f5⟩:=hf it (by simp)
  obtain⟨hs,hgd,hx,es',ep',vs,hdt,hsz,kv,hm⟩:=I.frzK hd
  obtain⟨rfl,rfl⟩:=gP hod hdt
  have hl:kvs.length=vs.length:=Paired.length kv
  rw[hl]at st
  exact wpAny_pyNext_values_end (I.ok.hd hc) st hm (List.getElem?_eq_none (by omega)) fun h' eb=>⟨rfl,I.turned (t':=s.toks) (fun b ob hb e=>eb b ob hb e) f0 f1 f3 f4 f5⟩
 self:=fun A i s Q E st h=>wpAny_pyIter_valiter st h
end
def zr (td:TE):TI:=fun σ H R=>td σ H fun x H1=>∃d o,x=.ref d/\((∃kvs,H1 d=some (.frz o (.dK kvs))/\R (Itk d o kvs) H1)∨∃kvs,H1 d=some (.frz o (.dT kvs))/\R (yF d o kvs) H1)
def zq (td:TE):TI:=fun σ H R=>td σ H fun x H1=>∃d o kvs,x=.ref d/\H1 d=some (.frz o (.dK kvs))/\R (Itd d o kvs) H1
section
variable {X:Cx}{tg e:Expr}{td:TE}{apos cpos:Pos}
theorem nE (he:PE X e td):PI X tg e (zr td):=by
 intro pins s σ H R I h
 refine thn (he pins s σ H _ I h) fun u s1 ⟨x,H1,I1,rx,d,o,ex,q⟩=>?_
 subst ex
 obtain rfl:u=Value.ref d:=rx
 rcases q with ⟨kvs,hd,q⟩|⟨kvs,hd,q⟩
 ·obtain⟨hs,hgd,hx,es,ep,vs,hdt,hsz,kv,hm⟩:=I1.frzK hd
  refine oC hs hgd hx hdt (jT (tk:=s1.toks) I1 _ (u3 _ hdt) ⟨_,Heap.get?_push_size _ rfl,rfl,?_⟩ q)
  rw[hsz]<;>rfl
 ·obtain⟨hs,hgd,hx,es,ep,hdt,hsz,ent⟩:=I1.frzT hd
  refine oC hs hgd hx hdt (jT (tk:=s1.toks) I1 _ (tm _ hdt) ⟨_,Heap.get?_push_size _ rfl,rfl,?_⟩ q)
  rw[hsz]<;>rfl
theorem vW (he:PE X e td) (hbase:attributeBase e "values" X.env (eval e X.env)=eval e X.env:=by rfl) (hline:(apos.endLine==cpos.line)=true:=by rfl):PI X tg (.Call (.Attribute e "values" apos) [] [] cpos) (zq td):=by
 intro pins s σ H R I h
 refine wpAny_Call_method (T:="dict") (id:="dict.values") hbase rfl hline F.plainAttrs_dict F.slot_dict_values F.type_dict_values (thn (he pins s σ H _ I h) fun u s1 ⟨x,H1,I1,rx,d,o,kvs,ex,hd,q⟩=>?_)
 subst ex
 obtain rfl:u=Value.ref d:=rx
 obtain⟨hs,hgd,hx,es,ep,vs,hdt,hsz,kv,hm⟩:=I1.frzK hd
 have hl:kvs.length=vs.length:=Paired.length kv
 refine⟨hm.dictOf.typeIs,hm.dictOf.mapOf.noDict,?_⟩
 have I2:Inv X pins σ H1 { s1 with heap:=s1.heap.push { cls:=.type "dict_values",data:=.fields #[.ref d] } }:=I1.kept (t':=s1.toks) fun b ob q=>Heap.get?_push_of_some _ q
 have fin:wpAny (model X.prog X.w) X.A (pyIter (.ref s1.heap.objs.size)) (PIE X pins σ tg R) X.xe { s1 with heap:=s1.heap.push { cls:=.type "dict_values",data:=.fields #[.ref d] } }:=by
  refine wpAny_pyIter_values (d:=d) (knd:=bi X.prog X.w) ⟨_,Heap.get?_push_size _ rfl,rfl,rfl⟩ (hm.push _) (jT (tk:=s1.toks) I2 _ (vF _ hdt) ⟨_,Heap.get?_push_size _ rfl,rfl,?_⟩ q)
  rw[hl]<;>rfl
 show wpAny _ _ (callWith cpos (.builtin "dict.values") [.ref d] [] []) _ X.xe s1
 exact method_meetsIn F.slot_dict_values F.entry_dict_values rfl (PySem.evalArgs_none ⟨rfl,hm.dictOf.typeIs,F.args_dict_values_1 _,_,meets_dict_values (bi X.prog X.w) d hs,⟨vs,hm.dictOf⟩,fin⟩)
end
def Ite (K:PySem.W.Frag)(a:Addr):It:=
 ⟨fun i H=>∃(xs:List V)(x:V),SqL K H a xs/\xs[i]?=some x,fun i H v H'=>∃T x,v=.ref T/\H T=none/\H'=upd H T (.tup [.int (i:Nat),x])/\∀xs,SqL K H a xs->xs[i]?=some x,fun i H=>∃xs:List V,SqL K H a xs/\xs.length<=i⟩
theorem vL {P:Program}{w:World}{K:PySem.W.Frag}{elts:List Expr}{kk:Nat}{tpos:Pos}(a e it:Addr):
  Turn P w K (.Tuple elts kk tpos) (Ite K a) [e,it] e (fun i h=>(∃old,IsEnum h e it ((i:Nat):Int) old)/\h.IsListIter it a i/\e≠it) where
 mem:=by simp
 obj:=fun i h st b hb=>by
  obtain⟨⟨old,he⟩,⟨o,ho,hc,hd⟩,_⟩:=st
  have e':b=e∨b=it:=by simpa using hb
  rcases e' with z|z
  ·rw[z];exact⟨_,he,fun v q=>nomatch q⟩
  ·rw[z];exact⟨o,ho,fun v q=>by rw[hd]at q;cases q⟩
 keep:=fun i h h' st k=>let ⟨⟨old,he⟩,hi,hne⟩:=st;⟨⟨old,k e (by simp) _ he⟩,hi.at fun o q=>k it (by simp) o q,hne⟩
 item:=by
  intro X hP hw hK hc i pins s σ H E I hf st hg
  subst hP hw hK
  obtain⟨⟨old,he⟩,hit,hne⟩:=st
  obtain⟨xs,x,hq,hx⟩:=hg
  obtain⟨its,rv,p,hz⟩:=I.list hq
  obtain⟨u,hu,ru⟩:=rv.get hx
  have hel:e<s.heap.objs.size:=Heap.lt_size he
  have hil:it<s.heap.objs.size:=by obtain⟨_,q,_⟩:=hit;exact Heap.lt_size q
  refine wpAny_pyNext_enum_item he hit p.isList (x:=u) (by simpa using hu) hne fun h' ho hit' hT hsz hk=>?_
  refine⟨_,rfl,wpAny_letOwnedTupleGo_enum (s:={ s with heap:=h',toks:=s.toks+1 }) ho fun h'' he' sb=>?_⟩
  have hT2:h''.get? s.heap.objs.size=some { cls:=.type "tuple",data:=.seq #[.int i s.toks,u] }:=(sb.2 _ (Nat.ne_of_gt hel)).trans hT
  have new:ObjOk X.prog X.w (upd H s.heap.objs.size (.tup [.int (i:Nat),x])) h'' s.heap.objs.size (.tup [.int (i:Nat),x]):=
   ⟨by show 2<=sizeLine;decide,[.int i s.toks,u],.cons ⟨_,rfl⟩ (.cons ru .nil),⟨_,hT2,rfl,_,rfl⟩⟩
  have I1:Inv X pins σ (upd H s.heap.objs.size (.tup [.int (i:Nat),x])) { s with heap:=h'',toks:=s.toks+1 }:=
   I.turnedNew (ch:=[e,it]) (fun b ob hb q=>(sb.2 b (fun z=>hb (by simp[z]))).trans (hk b ob (fun z=>hb (by simp[z])) (fun z=>hb (by simp[z])) q)) hf (Nat.le_refl _) new
  refine⟨.ref s.heap.objs.size,_,I1,rfl,⟨_,x,rfl,I.hok.fresh (Nat.le_refl _),rfl,fun ys hy=>by rw[I.list_inj hy hq];exact hx⟩,⟨⟨u,?_⟩,hit'.at fun o q=>(sb.2 it (Ne.symm hne)).trans q,hne⟩,fun b hb=>?_⟩
  ·have e1:((i+1:Nat):Int)=(i:Int)+1:=by omega
   rw[e1];exact he'
  ·have hb':b<s.heap.objs.size:=by
    have e':b=e∨b=it:=by simpa using hb
    rcases e' with z|z
    ·rw[z];exact hel
    ·rw[z];exact hil
   rw[ae (Nat.ne_of_lt hb')]
   exact (hf b hb).1
 done:=by
  intro X hP hw hK hc i pins s σ H E I hf st hg
  subst hP hw hK
  obtain⟨⟨old,he⟩,hit,hne⟩:=st
  obtain⟨xs,hq,hx⟩:=hg
  obtain⟨its,rv,p,hz⟩:=I.list hq
  obtain⟨f0,f1,f2,f3,f4,f5⟩:=hf it (by simp)
  have hl:=rv.length
  exact wpAny_pyNext_enum_end (I.ok.hd hc) he hit p.isList (by simp;omega) fun h' eb=>⟨rfl,I.turned (t':=s.toks) (fun b o hb q=>eb b o hb q) f0 f1 f3 f4 f5⟩
 self:=fun A i s Q E st h=>let ⟨⟨_,he⟩,_⟩:=st;wpAny_pyIter_enum he h
def zt (K:PySem.W.Frag)(ta:TA):TI:=fun σ H R=>ta σ H fun vs H1=>∃a xs,vs=[.ref a]/\SqL K H1 a xs/\R (Ite K a) H1
theorem eJ {X:Cx} {e:Expr} {ta:TA} {p pos tpos:Pos} {elts:List Expr} {kk:Nat} (hg:Gl X "enumerate") (hm:X.mg "enumerate"=none) (ha:PA X [e] ta) (hs:starEach [e] X.env=[(false,eval e X.env)]:=by rfl) :
  PI X (.Tuple elts kk tpos) (.Call (.Name "enumerate" p) [e] [] pos) (zt X.K ta):=by
 intro pins s σ H R I h
 refine Call_ (i7 I hg hm boot_enumerate (PyProof.Rows.callWith_type1 (thn (ha pos pins s σ H _ I h) fun us s1 ⟨vs,H1,I1,r1,q1⟩=>?_) hs rfl))
 obtain⟨a,xs,ex,hq,q⟩:=q1
 subst ex
 cases r1 with
 |cons r rr=>
  cases rr
  cases r
  obtain⟨its,rv,p',hz⟩:=I1.list hq
  refine call_enumerate_list p'.isList fun h' he hit hsz hk=>wpAny_pyIter_enum he ?_
  have I2:Inv X pins σ H1 { s1 with heap:=h' }:=I1.kept (t':=s1.toks) hk
  refine⟨s1.heap.objs.size+1,[s1.heap.objs.size+1,s1.heap.objs.size],_,_,H1,rfl,I2,vL a (s1.heap.objs.size+1) s1.heap.objs.size,⟨⟨.none,he⟩,hit,Nat.succ_ne_self _⟩,fun b hb=>?_,q⟩
  have e':b=s1.heap.objs.size+1∨b=s1.heap.objs.size:=by simpa using hb
  have hle:s1.heap.objs.size<=b:=by
   rcases e' with z|z
   ·rw[z];exact Nat.le_add_right _ _
   ·rw[z];exact Nat.le_refl _
  exact I1.fpOk hle (I1.hok.fresh hle)
end L2
section
namespace Bits
open PySem PyProof.Rows
end Bits
end
section
namespace TL
open PySem PySem.Builtin PySem.Builtin.Str PySem.StrLaws
abbrev tl (x:Str):List Nat:=x.cps.toList
theorem len_tl (x:Str):x.length=(tl x).length:=by simp[tl,Str.length]
theorem ext_tl {x y:Str}(h:tl x=tl y):x=y:=Str.ext' (Array.toList_inj.mp h)
theorem tl_append (x y:Str):tl (x++y)=tl x++tl y:=by
 show (x++y).cps.toList=_
 rw[Str.cps_append,Array.toList_append]
theorem tl_mk (l:List Nat):tl ⟨l.toArray⟩=l:=rfl
theorem map_tl_inj:∀{l m:List Str},l.map tl=m.map tl->l=m
 |[],[],_=>rfl
 |[],_ :: _,h=>by simp at h
 |_ :: _,[],h=>by simp at h
 |x :: l,y :: m,h=>by
  rw[List.map_cons,List.map_cons]at h
  injection h with h1 h2
  rw[ext_tl h1,map_tl_inj h2]
theorem tl_ofString (s:String):tl (Str.ofString s)=s.toList.map Char.toNat:=PyProof.Rows.signs_ofString s
def pre (S l:List Nat):Bool:=l.take S.length==S
def spl (S:List Nat):Nat->List Nat->List Nat->List (List Nat)
 |_,acc,[]=>[acc]
 |0,acc,c :: r=>if pre S (c :: r)=true then acc :: spl S (S.length-1) [] r else spl S 0 (acc++[c]) r
 |k+1,acc,_ :: r=>spl S k acc r
def par (S:List Nat):List Nat->List Nat->Option (List Nat×List Nat)
 |_,[]=>none
 |acc,c :: r=>if pre S (c :: r)=true then some (acc,(c :: r).drop S.length) else par S (acc++[c]) r
theorem spl_nil (S:List Nat)(k:Nat)(acc:List Nat):spl S k acc []=[acc]:=by cases k<;>rfl
theorem spl_hit {S acc r:List Nat}{c:Nat}(h:pre S (c :: r)=true):spl S 0 acc (c :: r)=acc :: spl S (S.length-1) [] r:=by
 show (if pre S (c :: r)=true then acc :: spl S (S.length-1) [] r else spl S 0 (acc++[c]) r)=_
 rw[if_pos h]
theorem spl_miss {S acc r:List Nat}{c:Nat}(h:pre S (c :: r)=false):spl S 0 acc (c :: r)=spl S 0 (acc++[c]) r:=by
 show (if pre S (c :: r)=true then acc :: spl S (S.length-1) [] r else spl S 0 (acc++[c]) r)=_
 rw[if_neg (by rw[h];exact Bool.false_ne_true)]
theorem spl_pass (S:List Nat):∀(k:Nat)(acc l:List Nat),spl S k acc l=spl S 0 acc (l.drop k)
 |0,_,_=>by rw[List.drop_zero]
 |k+1,acc,[]=>by rw[List.drop_nil,spl_nil,spl_nil]
 |k+1,acc,c :: r=>by
  show spl S k acc r=spl S 0 acc (r.drop k)
  exact spl_pass S k acc r
theorem pre_nil {S:List Nat}(hS:S≠[]):pre S []=false:=by
 cases S with
 |nil=>exact absurd rfl hS
 |cons s S=>rfl
theorem pre_of_head {s c:Nat}(S r:List Nat)(h:c≠s):pre (s :: S) (c :: r)=false:=by
 cases hp:pre (s :: S) (c :: r) with
 |false=>rfl
 |true=>
  have e:(c :: r).take (s :: S).length=s :: S:=eq_of_beq hp
  rw[List.length_cons,List.take_succ_cons]at e
  injection e with e1 e2
  exact absurd e1 h
theorem getElem_drop_cons {L:List Nat}{a:Nat}(h:a<L.length):∃c,L.drop a=c :: L.drop (a+1):=⟨L[a],List.drop_eq_getElem_cons h⟩
theorem spl_run (S L:List Nat):∀(m a:Nat)(acc:List Nat),a+m<=L.length->(∀k,a<=k->k<a+m->pre S (L.drop k)=false)->
  spl S 0 acc (L.drop a)=spl S 0 (acc++(L.drop a).take m) (L.drop (a+m))
 |0,a,acc,_,_=>by rw[List.take_zero,List.append_nil,Nat.add_zero]
 |m+1,a,acc,h,hn=>by
  have hlt:a<L.length:=by omega
  obtain⟨c,e⟩:=getElem_drop_cons hlt
  have h0:=hn a (Nat.le_refl _) (by omega)
  have ih:=spl_run S L m (a+1) (acc++[c]) (by omega) (fun k h1 h2=>hn k (by omega) (by omega))
  have e2:a+1+m=a+(m+1):=by omega
  rw[e2]at ih
  rw[e]at h0
  rw[e,spl_miss h0,ih,List.take_succ_cons,List.append_assoc]<;>rfl
theorem drop_two (L:List Nat)(a b:Nat):(L.drop a).drop b=L.drop (a+b):=by
 first
  |rw[List.drop_drop]
  |rw[List.drop_drop,Nat.add_comm]
theorem spl_at {S L:List Nat}(hS:S≠[]){c:Nat}{acc:List Nat}(h:pre S (L.drop c)=true):spl S 0 acc (L.drop c)=acc :: spl S 0 [] (L.drop (c+S.length)):=by
 rw[<-drop_two]
 cases e:L.drop c with
 |nil=>rw[e,pre_nil hS]at h;cases h
 |cons d r=>
  rw[e]at h
  rw[spl_hit h,spl_pass]
  cases S with
  |nil=>exact absurd rfl hS
  |cons s S=>rfl
theorem at_iff {x y:Str}(hy:tl y≠[])(i:Nat):At x y x.length i↔pre (tl y) ((tl x).drop i)=true:=by
 have hx:=len_tl x
 have hl:=len_tl y
 constructor
 ·intro h
  have h2:=h.2
  rw[subAt_eq,hl]at h2
  exact h2
 ·intro h
  have e:((tl x).drop i).take (tl y).length=tl y:=eq_of_beq h
  have e1:=congrArg List.length e
  rw[List.length_take,List.length_drop]at e1
  have e2:0<(tl y).length:=List.length_pos_iff.mpr hy
  refine⟨by omega,?_⟩
  rw[subAt_eq,hl]
  exact h
theorem no_at {x y:Str}(hy:tl y≠[]){i:Nat}(h:¬At x y x.length i):pre (tl y) ((tl x).drop i)=false:=by
 cases hp:pre (tl y) ((tl x).drop i) with
 |false=>rfl
 |true=>exact absurd ((at_iff hy i).mpr hp) h
theorem len1 {y:Str}(hy:tl y≠[]):1<=y.length:=by
 have e2:0<(tl y).length:=List.length_pos_iff.mpr hy
 rw[len_tl y]
 exact e2
theorem tl_strSub (x:Str)(i j:Nat):tl (strSub x i j)=((tl x).drop i).take (j-i):=strSub_toList x i j
theorem tl_strSub_end (x:Str)(i:Nat):tl (strSub x i x.length)=(tl x).drop i:=by
 rw[tl_strSub,len_tl x]
 exact List.take_of_length_le (by rw[List.length_drop]<;>omega)
theorem parts_spl {x y:Str}(hy:tl y≠[]):∀(cuts:List Nat)(a f:Nat),a<=(tl x).length->ChainG x y x.length a cuts f->(∀k,f<=k->¬At x y x.length k)->
  (partsFrom x y.length a cuts).map tl=spl (tl y) 0 [] ((tl x).drop a)
 |[],a,f,ha,h,hn=>by
  have e:f=a:=h
  subst e
  show [tl (strSub x f x.length)]=_
  have run:=spl_run (tl y) (tl x) ((tl x).length-f) f [] (by omega) (fun k h1 _=>no_at hy (hn k h1))
  have e2:f+((tl x).length-f)=(tl x).length:=by omega
  rw[e2,List.drop_length,spl_nil,List.nil_append,List.take_of_length_le (by rw[List.length_drop]<;>omega)]at run
  rw[run,tl_strSub_end]
 |c :: r,a,f,ha,h,hn=>by
  obtain⟨h1,h2,h3,h4⟩:=h
  have hc:c+y.length<=x.length:=h2.1
  have hx:=len_tl x
  have hl:=len_tl y
  have ih:=parts_spl hy r (c+y.length) f (by omega) h4 hn
  show tl (strSub x a c) :: (partsFrom x y.length (c+y.length) r).map tl=_
  have run:=spl_run (tl y) (tl x) (c-a) a [] (by omega) (fun k k1 k2=>no_at hy (h3 k k1 (by omega)))
  have e2:a+(c-a)=c:=by omega
  rw[e2,List.nil_append,spl_at hy ((at_iff hy c).mp h2)]at run
  rw[run,ih,tl_strSub,hl]
theorem split_spl (x y:Str)(hy:tl y≠[])(hk:¬Builtin.Str.strKind x<Builtin.Str.strKind y):(Txt.split x y).map tl=spl (tl y) 0 [] (tl x):=by
 obtain⟨f,g,hn⟩:=occ_tight x y (len1 hy)
 have key:=parts_spl hy _ 0 f (Nat.zero_le _) g hn
 rw[List.drop_zero]at key
 have none_case:occurrences x y 0 x.length (x.length+1)=[]->[x].map tl=spl (tl y) 0 [] (tl x):=fun ho=>by
  rw[ho]at key
  rw[<-key]
  show [tl x]=[tl (strSub x 0 x.length)]
  rw[sub_whole]
 unfold Txt.split
 by_cases h1:(decide (x.length<y.length)||decide (Builtin.Str.strKind x<Builtin.Str.strKind y))=true
 ·rw[if_pos h1]
  have hlt:x.length<y.length:=by
   simp only[Bool.or_eq_true,decide_eq_true_eq]at h1
   rcases h1 with h|h
   ·exact h
   ·exact absurd h hk
  refine none_case ?_
  cases ho:occurrences x y 0 x.length (x.length+1) with
  |nil=>rfl
  |cons c r=>
   rw[ho]at g
   have hc:c+y.length<=x.length:=g.2.1.1
   omega
 ·rw[if_neg h1]
  by_cases h2:(occurrences x y 0 x.length (x.length+1)).isEmpty=true
  ·rw[if_pos h2]
   exact none_case (List.isEmpty_iff.mp h2)
  ·rw[if_neg h2,partsBetween_eq]
   exact key
theorem kind_ok {x y:Str}(h:y.cps.all (·<256)=true):¬Builtin.Str.strKind x<Builtin.Str.strKind y:=by
 have e:Builtin.Str.strKind y=1:=by unfold PySem.Builtin.Str.strKind;rw[if_pos h]
 rw[e]
 unfold PySem.Builtin.Str.strKind
 split
 ·omega
 ·split<;>omega
def joinL (S:List Nat):List (List Nat)->List Nat
 |[]=>[]
 |[p]=>p
 |p :: q :: r=>p++(S++joinL S (q :: r))
theorem tl_join (y:Str):∀parts:List Str,tl (Str.join y parts)=joinL (tl y) (parts.map tl)
 |[]=>rfl
 |[_]=>rfl
 |x :: z :: r=>by
  show tl (x++y++Str.join y (z :: r))=tl x++(tl y++joinL (tl y) ((z :: r).map tl))
  rw[tl_append,tl_append,tl_join y (z :: r),List.append_assoc]
theorem join_eq (y:Str)(parts:List Str):Txt.join y parts=Str.join y parts:=glued_eq_join y parts
end TL
end
namespace L2
open PySem PySem.Spec PyProof.Rows
theorem nV:∀l:List (Str×Tok),Vals ((l.map (·.1)).map V.str) (strValues l)
 |[]=>.nil
 |p :: r=>.cons ⟨p.2,rfl⟩ (nV r)
theorem ie:∀{ys:List Str} {us:List Value},Vals (ys.map V.str) us->StrsAre us ys
 |[],_,.nil=>.nil
 |y :: ys,_,.cons r t=>by
  obtain⟨k,rfl⟩:=r
  exact .cons y k (ie t)
def lM (ys:List Str):Hp->VK->Prop:=fun H Q=>∀p,H p=none->Q (.ref p) (upd H p (.lst (ys.map V.str)))
section
variable {X:Cx}{pins:List (Addr×Obj)}{σ:St}{H:Hp}{s:Shared}{Q:VK}
theorem kn {l:List (Str×Tok)}{ys:List Str}{k:Nat}(I:Inv X pins σ H s)(e:l.map (·.1)=ys)(hz:ys.length<=sizeLine)(h:lM ys H Q):
  EP X pins σ Q (.ref s.heap.objs.size) { s with toks:=k,heap:=s.heap.push { cls:=.type "list",data:=.seq (strValues l).toArray } }:=by
 have hp:=I.hok.fresh (Nat.le_refl _)
 refine⟨.ref s.heap.objs.size,upd H s.heap.objs.size (.lst (ys.map V.str)),I.laid (fun b u q=>Heap.get?_push_of_some _ q) (Nat.le_refl _) ⟨by rw[List.length_map];exact hz,strValues l,_,?_,Heap.get?_push_size _ rfl⟩,rfl,h _ hp⟩
 rw[<-e]
 exact nV l
end
section
variable {X:Cx}
theorem wm:MtR X "str.split" (fun x xs H Q=>∃a b,x=.str a/\xs=[.str b]/\(b.length==0)=false/\a.length+2<=sizeLine/\lM (Txt.split a b) H Q):=by
 intro pins s σ H x xs v us Q I rx rs h
 obtain⟨a,b,rfl,rfl,hb,hz,h⟩:=h
 obtain⟨t,rfl⟩:=rx
 cases rs with
 |cons r1 rs=>
  cases rs
  obtain⟨u,rfl⟩:=r1
  have hl:(Txt.split a b).length<=sizeLine:=Nat.le_trans (PyProof.Rows.split_le a b) hz
  have hn:(Builtin.Str.partsBetween a (Builtin.Str.occurrences a b 0 a.length (a.length+1)) b.length).length<=sizeLine:=by
   have e1:=StrLaws.occ_length_le a b 0 a.length (a.length+1)
   rw[length_partsBetween];omega
  cases h1:(decide (a.length<b.length)||decide (Builtin.Str.strKind a<Builtin.Str.strKind b))
  ·cases hf:(Builtin.Str.occurrences a b 0 a.length (a.length+1)).isEmpty
   ·refine call_meets F.slot_str_split (typeIs_str _ _ _) F.entry_str_split (F.args_str_split_2 _ _) (meets_str_split_sep a b t u h1 hb hf (by omega) hn) ?_
    show EP X pins σ Q (.ref s.heap.objs.size) { s with toks:=_,heap:=s.heap.push { cls:=.type "list",data:=.seq (strsFrom s.toks (Builtin.Str.partsBetween a (Builtin.Str.occurrences a b 0 a.length (a.length+1)) b.length)).toArray } }
    rw[strsFrom_eq]
    exact kn (ys:=Txt.split a b) I ((numbered_texts _ _).trans ((if_neg (ne_true_of_eq_false h1)).trans (if_neg (ne_true_of_eq_false hf))).symm) hl h
   ·refine call_meets F.slot_str_split (typeIs_str _ _ _) F.entry_str_split (F.args_str_split_2 _ _) (meets_str_split_not_found a b t u h1 hb hf) ?_
    exact kn (l:=[(a,t)]) (ys:=Txt.split a b) (k:=s.toks) I ((if_neg (ne_true_of_eq_false h1)).trans (if_pos hf)).symm hl h
  ·refine call_meets F.slot_str_split (typeIs_str _ _ _) F.entry_str_split (F.args_str_split_2 _ _) (meets_str_split_cannot_occur a b t u h1) ?_
   exact kn (l:=[(a,t)]) (ys:=Txt.split a b) (k:=s.toks) I (if_pos h1).symm hl h
theorem xP:MtR X "str.join" (fun x xs H Q=>∃a p,∃ys:List Str,x=.str a/\xs=[.ref p]/\(SqL X.K H p (ys.map V.str)∨SqT X.K H p (ys.map V.str))/\
  (ys.map (·.length)).sum+ys.length*a.length<=16777216/\Q (.str (Txt.join a ys)) H):=by
 intro pins s σ H x xs v us Q I rx rs h
 obtain⟨a,p,ys,rfl,rfl,hp,hz,h⟩:=h
 obtain⟨t,rfl⟩:=rx
 cases rs with
 |cons r1 rs=>
  cases rs
  cases r1
  rcases hp with hp|hp
  ·obtain⟨its,r,⟨o,n,ho,hc,_,hd⟩,_⟩:=I.list hp
   exact PyProof.Rows.join_list (items:=its.toArray) ⟨o,ho,hc,n,hd⟩ (by rw[List.toList_toArray];exact ie r) hz fun t' k=>⟨.str _,H,I.tok k,⟨t',rfl⟩,h⟩
  ·obtain⟨its,r,ht,_⟩:=I.tuple hp
   exact PyProof.Rows.join_tuple (items:=its.toArray) ht (by rw[List.toList_toArray];exact ie r) hz fun t' k=>⟨.str _,H,I.tok k,⟨t',rfl⟩,h⟩
theorem mt1 {id:String} {g:Str->Str->V} (rule:∀(a b:Str)(t u:Tok)(s:Shared)(Q:Value->Shared->Prop),(∀(v:Value)(k:Nat),RelV (g a b) v->Q v { s with toks:=k })->
  wpAny (model X.prog X.w) X.A (call (.builtin id) [.str a t,.str b u]) Q X.xe s):MtR X id (fun x xs H Q=>∃a b,x=.str a/\xs=[.str b]/\Q (g a b) H):=by
 intro pins s σ H x xs v us Q I rx rs h
 obtain⟨a,b,rfl,rfl,h⟩:=h
 obtain⟨t,rfl⟩:=rx
 cases rs with
 |cons r1 rs=>
  cases rs
  obtain⟨u,rfl⟩:=r1
  exact rule a b t u s _ fun v k r=>⟨g a b,H,I.tok k,r,h⟩
theorem jN:MtR X "str.startswith" (fun x xs H Q=>∃a b,x=.str a/\xs=[.str b]/\Q (.bl (Txt.startswith a b)) H):=
 mt1 (g:=fun a b=>.bl (Txt.startswith a b)) fun _ _ _ _ s _ h=>PySem.SC.startswith (h _ s.toks rfl)
theorem k9:MtR X "str.endswith" (fun x xs H Q=>∃a b,x=.str a/\xs=[.str b]/\Q (.bl (Txt.endswith a b)) H):=
 mt1 (g:=fun a b=>.bl (Txt.endswith a b)) fun _ _ _ _ s _ h=>PySem.SC.endswith (h _ s.toks rfl)
end
section
variable {X:Cx}{o e:Expr}{to te:TE}
def tM1 (r:V->List V->Hp->VK->Prop)(to te:TE):TE:=fun σ H Q=>to σ H fun x H1=>(∃a,x=.str a)/\te σ H1 fun y H2=>r x [y] H2 Q
theorem kP {id:String} {name:Str} {apos pos:Pos} {r:V->List V->Hp->VK->Prop} (slot:Slot "str" name id) (ty:typeOf (.builtin id)=pure (.type "method_descriptor")) (rule:MtR X id r) (ho:PE X o to) (he:PE X e te)
  (hs:starEach [e] X.env=[(false,eval e X.env)]:=by rfl)(hbase:attributeBase o name X.env (eval o X.env)=eval o X.env:=by rfl)(hline:(apos.endLine==pos.line)=true:=by rfl):
  PE X (.Call (.Attribute o name apos) [e] [] pos) (tM1 r to te):=by
 intro pins s σ H Q I h
 refine PySem.Call_method1 hbase hs hline (thn (ho pins s σ H _ I h) fun v s1 ⟨x,H1,I1,r1,q1⟩=>?_)
 obtain⟨⟨a,rfl⟩,q1⟩:=q1
 obtain⟨t,rfl⟩:=_root_.id r1
 refine⟨"str",_,F.plainAttrs_str,slot,ty,typeIs_str _ _ _,(fun _ e=>nomatch e),Calls.callWith_builtin rfl (Calls.evalArgs_plain (Calls.spliced_cons ?_))⟩
 exact thn (he pins s1 σ H1 _ I1 q1) fun u s2 ⟨y,H2,I2,r2,q2⟩=>Calls.spliced_nil (rule pins s2 σ H2 _ [y] _ [u] Q I2 r1 (.cons r2 .nil) q2)
theorem wK {apos pos:Pos} (ho:PE X o to) (he:PE X e te) (hs:starEach [e] X.env=[(false,eval e X.env)]:=by rfl) (hbase:attributeBase o "split" X.env (eval o X.env)=eval o X.env:=by rfl) (hline:(apos.endLine==pos.line)=true:=by rfl) :
  PE X (.Call (.Attribute o "split" apos) [e] [] pos) (tM1 (fun x xs H Q=>∃a b,x=.str a/\xs=[.str b]/\(b.length==0)=false/\a.length+2<=sizeLine/\lM (Txt.split a b) H Q) to te):=
 kP F.slot_str_split F.type_str_split wm ho he hs hbase hline
theorem yj {apos pos:Pos} (ho:PE X o to) (he:PE X e te) (hs:starEach [e] X.env=[(false,eval e X.env)]:=by rfl) (hbase:attributeBase o "join" X.env (eval o X.env)=eval o X.env:=by rfl) (hline:(apos.endLine==pos.line)=true:=by rfl) :
  PE X (.Call (.Attribute o "join" apos) [e] [] pos) (tM1 (fun x xs H Q=>∃a p,∃ys:List Str,x=.str a/\xs=[.ref p]/\(SqL X.K H p (ys.map V.str)∨SqT X.K H p (ys.map V.str))/\
   (ys.map (·.length)).sum+ys.length*a.length<=16777216/\Q (.str (Txt.join a ys)) H) to te):=
 kP F.slot_str_join F.type_str_join xP ho he hs hbase hline
end
section
variable {X:Cx}
theorem uf:OpR X (compareOp .In) (fun x y H Q=>∃(c:Nat)(z:Str),x=.str ⟨#[c]⟩/\y=.str z/\Q (.bl (decide (c∈z.cps.toList))) H):=by
 intro pins s σ H x y v u Q I rx ry h
 obtain⟨c,z,rfl,rfl,q⟩:=h
 obtain⟨t,rfl⟩:=rx
 obtain⟨t',rfl⟩:=ry
 exact PyProof.Rows.in_str (a6 I q (PySem.StrLaws.found_one z c).symm)
theorem o0:OpR X (compareOp .NotIn) (fun x y H Q=>∃(c:Nat)(z:Str),x=.str ⟨#[c]⟩/\y=.str z/\Q (.bl (!decide (c∈z.cps.toList))) H):=by
 intro pins s σ H x y v u Q I rx ry h
 obtain⟨c,z,rfl,rfl,q⟩:=h
 obtain⟨t,rfl⟩:=rx
 obtain⟨t',rfl⟩:=ry
 exact PyProof.Rows.notIn_str (a6 I q (congrArg Bool.not (PySem.StrLaws.found_one z c).symm))
end
theorem IsPart.raw {v:Value}{o:Option Int}(p:IsPart v o):∃l:Option (Int×Tok),v=partValue l/\l.map (·.1)=o:=by
 cases p with
 |none=>exact⟨none,rfl,rfl⟩
 |int i t=>exact⟨some (i,t),rfl,rfl⟩
def mG (n d:Nat):Option Int->Int
 |none=>(d:Int)
 |some i=>max 0 (min (if i<0 then i+(n:Int) else i) (n:Int))
theorem pY (n d:Nat)(o:Option Int):mG n d o=((HT.sIx n d o:Nat):Int):=by
 cases o with
 |none=>rfl
 |some v=>
  show max (0:Int) (min (if v<0 then v+(n:Int) else v) (n:Int))=(((if v<0 then (v+(n:Int)).toNat else min v.toNat n):Nat):Int)
  by_cases hv:v<0
  ·simp only[if_pos hv]
   omega
  ·simp only[if_neg hv]
   omega
theorem uO (a b:Option Int)(n:Nat):Builtin.Str.strSliceIndices a b 1 n=sliceRange (mG n 0 a) (mG n n b) 1:=by
 have h1:((1:Int)>0)=True:=by simp
 cases a<;>cases b<;>first
  |rfl
  |(simp only[Builtin.Str.strSliceIndices,mG,h1,if_true];rfl)
  |simp[Builtin.Str.strSliceIndices,mG]
theorem Ad (a b:Option Int)(n:Nat):Builtin.Str.strSliceIndices a b 1 n=(List.range (HT.sIx n n b-HT.sIx n 0 a)).map (fun k=>HT.sIx n 0 a+k):=by
 rw[uO,pY,pY]
 generalize HT.sIx n 0 a=p
 generalize HT.sIx n n b=q
 simp only[sliceRange,show ((1:Int)>0)=True from by simp,if_true]
 by_cases hlt:(p:Int)<q
 ·have e3:(((q:Int)-p+1-1) / 1).toNat=q-p:=by first|omega|(simp;done)|(simp;omega)
  simp only[hlt,if_true,e3]
  refine List.map_congr_left fun k _=>?_
  omega
 ·have:q-p=0:=by omega
  simp[hlt,this]
def lO (z:Str)(lo hi:Option Int):Str:=
 ⟨((z.cps.toList.drop (HT.sIx z.length 0 lo)).take (HT.sIx z.length z.length hi-HT.sIx z.length 0 lo)).toArray⟩
theorem jL (z:Str)(lo hi:Option Int):PySem.StrLaws.sliceText z lo hi=lO z lo hi:=by
 have h1:HT.sIx z.length 0 lo<=z.length:=HT.sIx_le _ _ (Nat.zero_le _) _
 have h2:HT.sIx z.length z.length hi<=z.length:=HT.sIx_le _ _ (Nat.le_refl _) _
 have hp:HT.sIx z.length 0 lo<=max (HT.sIx z.length 0 lo) (HT.sIx z.length z.length hi):=Nat.le_max_left _ _
 have hq:max (HT.sIx z.length 0 lo) (HT.sIx z.length z.length hi)<=z.length:=Nat.max_le.mpr ⟨h1,h2⟩
 have hd:max (HT.sIx z.length 0 lo) (HT.sIx z.length z.length hi)-HT.sIx z.length 0 lo=HT.sIx z.length z.length hi-HT.sIx z.length 0 lo:=by omega
 have e:Builtin.Str.strSliceIndices lo hi 1 z.length =
   Builtin.Str.strSliceIndices (some ((HT.sIx z.length 0 lo:Nat):Int)) (some ((max (HT.sIx z.length 0 lo) (HT.sIx z.length z.length hi):Nat):Int)) 1 z.length:=by
  rw[PySem.StrLaws.strSliceIndices_plain hp hq,hd,Ad]
 have e2:PySem.StrLaws.sliceText z lo hi =
   PySem.StrLaws.sliceText z (some ((HT.sIx z.length 0 lo:Nat):Int)) (some ((max (HT.sIx z.length 0 lo) (HT.sIx z.length z.length hi):Nat):Int)):=by
  unfold PySem.StrLaws.sliceText
  rw[e]
 rw[e2,PySem.StrLaws.sliceText_nat z hp hq,hd]
 rfl
theorem rE (z:Str)(lo hi:Option Int):(lO z lo hi).length<=z.length:=by
 show (((z.cps.toList.drop (HT.sIx z.length 0 lo)).take (HT.sIx z.length z.length hi-HT.sIx z.length 0 lo)).toArray).size<=z.cps.size
 rw[List.size_toArray,List.length_take,List.length_drop,Array.length_toList]
 omega
def zP:V->Option Int->Option Int->Hp->VK->Prop:=fun x lo hi H Q=>∃z,x=.str z/\z.length<=sizeLine/\Q (.str (lO z lo hi)) H
theorem jW {X:Cx}:SlR X zP:=by
 intro pins s σ H x v vl vu lo hi sl Q I rx hs pl pu h
 obtain⟨z,rfl,hz,q⟩:=h
 obtain⟨t,rfl⟩:=rx
 obtain⟨os,hos,hcs,hds⟩:=hs
 obtain⟨l,rfl,rfl⟩:=IsPart.raw pl
 obtain⟨u,rfl,rfl⟩:=IsPart.raw pu
 refine⟨"str",_,F.slot_str_getitem.lookup,typeIs_str _ _ _,?_⟩
 refine wpAny_getItem_str_slice (l:=l) (u:=u) (st:=none) ⟨os,hos,hcs,hds⟩ rfl ?_
 have hl:(PySem.StrLaws.sliceText z (l.map (·.1)) (u.map (·.1))).length<=sizeLine:=by
  rw[jL]
  exact Nat.le_trans (rE z _ _) hz
 rw[<-jL]at q
 unfold PySem.StrLaws.sliceText at q hl
 show Made.post (if ((1:Int)==1&&(Builtin.Str.strSliceIndices (l.map (·.1)) (u.map (·.1)) 1 z.length).length==z.length)=true then Made.val (.str z t)
  else Made.str ⟨((Builtin.Str.strSliceIndices (l.map (·.1)) (u.map (·.1)) 1 z.length).filterMap (z.cps[·]?)).toArray⟩) (EP X pins σ Q) s
 by_cases c:((1:Int)==1&&(Builtin.Str.strSliceIndices (l.map (·.1)) (u.map (·.1)) 1 z.length).length==z.length)=true
 ·rw[if_pos c]at q ⊢
  exact⟨.str z,H,I,⟨t,rfl⟩,q⟩
 ·rw[if_neg c]at q hl ⊢
  exact⟨hl,.str _,H,I.tok _,⟨_,rfl⟩,q⟩
end L2
namespace Att
open PySem PySem.W PySem.Calls PyProof.Rows
section
variable {prog:Program}{w:World}{A:Around}{E:Value->Shared->Prop}{s:Shared}{K:Frag}
end
end Att
namespace L2
open PySem PySem.Spec PyProof.Rows
theorem kt:∀{vs:List Value} {ns:List Int},IntsAre vs ns->Vals (ns.map V.int) vs
 |_,_,.nil=>.nil
 |_,_,.cons n t h=>.cons ⟨t,rfl⟩ (kt h)
abbrev KOf {K:PySem.W.Frag}{h:Heap}(_:K.In h):PySem.W.Frag:=K
def i4 (s:Stmt)(j:Nat):Stmt:=match s with
 |.ClassDef _ _ _ body _ _ _ _ _ _ _=>body.getD j (.Pass ⟨0,0,0,0⟩)
 |_=>.Pass ⟨0,0,0,0⟩
def cZ (s:Stmt):Arguments:=match s with
 |.FunctionDef _ a _ _ _ _ _ _ _ _=>a
 |_=>{ posonlyargs:=[],args:=[],vararg:=none,kwonlyargs:=[],kw_defaults:=[],kwarg:=none,defaults:=[] }
def b8 (s:Stmt):List Stmt:=match s with
 |.FunctionDef _ _ b _ _ _ _ _ _ _=>b
 |_=>[]
def ai (s:Stmt):Scope:=match s with
 |.FunctionDef _ _ _ _ _ _ sc _ _ _=>sc
 |_=>{ kind:=.function,names:=[],isGenerator:=false,isCoroutine:=false }
abbrev CX0:CXT:=fun _ _ _ _ _ _=>False
abbrev E0:XK:=fun _ _ _=>False
theorem pq {X:Cx}:iS CX0 X E0:=fun _ _ _ _ _ _ _ h=>h.elim
structure Fun (K:PySem.W.Frag)(x qual:Str)(st:Stmt)(f:Addr)(fd:FuncData):Prop where
 ex:∃(oc:Value)(od:Option Addr)(kV doc pm:Value)(an:Option Addr)(cdv ct:Value)(osl:Array (Option Value)),
  fd=PySem.W.fnOf x qual (cZ st) (b8 st) (ai st) .none kV doc pm an cdv ct/\K.lookup f=some ⟨oc,od,.func fd,osl⟩/\PySem.W.codeIn K cdv qual=true
 kp:PySem.W.keepIn K (.ref f)=true
section
variable {P:Program}{w:World}{K:PySem.W.Frag}{mg:Str->Option Value}{base:Heap}
theorem Fun.ok {x qual:Str}{st:Stmt}{f:Addr}{fd:FuncData}{N ps:List Str}{k:Nat}{sp:Sp}(F:Fun K x qual st f fd)(S:FnScope N ps (ai st))(len:∀vs H Q E,sp vs H Q E->vs.length=ps.length)
  (hbody:∀(cdv:Value)(A:Around)(outer:List Env)(s:Shared)(H:Hp)(vs:List V)(Q:VK)(E:XK),Room k (A.deeper (envOfC qual (ai st) s.heap.objs.size f cdv))->sp vs H Q E->
   ∃t,PSs (jf CX0 P w K mg base N qual (ai st) f cdv A outer s H E).nox (b8 st) t/\t { nx:=fun _ H'=>Q .non H',rt:=Q } (start N vs) H):FnOk P w K mg base CX0 (k+1) f fd ps sp:=by
 obtain⟨oc,od,kV,doc,pm,an,cdv,ct,osl,rfl,lk,hcd⟩:=F.ex
 refine xF lk hcd S len fun A outer s H vs Q E hr hsp=>?_
 obtain⟨t,h,q⟩:=hbody cdv A outer s H vs Q E hr hsp
 exact⟨t,h.nox,q⟩
theorem Fun.binds {x qual:Str}{st:Stmt}{f:Addr}{fd:FuncData}{ps:List Str}(F:Fun K x qual st f fd)
  (h:∀(kV doc pm:Value)(an:Option Addr)(cdv ct:Value)(us:List Value),us.length=ps.length->bindArgs (PySem.W.fnOf x qual (cZ st) (b8 st) (ai st) .none kV doc pm an cdv ct) ⟨us,[]⟩=pure (ps.zip us)):Binds K fd ps []:=by
 obtain⟨oc,od,kV,doc,pm,an,cdv,ct,osl,rfl,lk,hcd⟩:=F.ex
 exact .all (h kV doc pm an cdv ct)
theorem mv {x qual:Str}{st:Stmt}{f:Addr}{oc:Value}{od an:Option Addr}{osl:Array (Option Value)}{kV doc pm cdv ct:Value}(l:K.lookup f=some ⟨oc,od,.func (PySem.W.fnOf x qual (cZ st) (b8 st) (ai st) .none kV doc pm an cdv ct),osl⟩)
  (c:PySem.W.codeIn K cdv qual=true)(k:PySem.W.keepIn K (.ref f)=true):Fun K x qual st f (PySem.W.fnOf x qual (cZ st) (b8 st) (ai st) .none kV doc pm an cdv ct):=⟨⟨oc,od,kV,doc,pm,an,cdv,ct,osl,rfl,l,c⟩,k⟩
end
theorem b9 {A:Around}{k:Nat}(hr:Room k A):A.units+1<cLine:=Nat.lt_of_le_of_lt (Nat.add_le_add_left (by decide:1<=64) _) hr.units
section
variable {X:Cx}
theorem pv (i:Nat) {x:Str} {pos:Pos} (hN:X.N[i]?=some x:=by rfl) (hv:Vis X.env.scope x:=by first|exact Or.inl rfl|exact Or.inr (Or.inl rfl)|exact Or.inr (Or.inr rfl)) (hd:(x==("__debug__":Str))=false:=by decide)
  (hcd:(x==("__classdict__":Str))=false:=by decide):PE X (.Name x pos) (mY i):=y6 hN hv hd hcd
theorem vD:c9 X (.builtin "len") (fun xs H Q=>∃a kvs,xs=[V.ref a]/\H a=some (.dK kvs)/\Q (.int kvs.length) H):=by
 intro pins s σ H xs us Q I r h
 obtain⟨a,kvs,rfl,ha,q⟩:=h
 obtain⟨u,rfl,ru⟩:=mx r
 cases ru
 exact zE I (.inl ha) fun t s' I'=>⟨.int kvs.length,H,I',⟨t,rfl⟩,q⟩
end
theorem bX {A B:Prop}(h:B):if false=true then A else B:=by
 rw[if_neg Bool.false_ne_true]
 exact h
theorem cw {A B:Prop}(h:A):if true=true then A else B:=by
 rw[if_pos rfl]
 exact h
theorem aW {c A B:Prop}[Decidable c](h1:c->A)(h2:¬c->B):if c then A else B:=by
 by_cases h:c
 ·rw[if_pos h]
  exact h1 h
 ·rw[if_neg h]
  exact h2 h
def Same (H H':Hp):Prop:=∀b o,H b=some o->H' b=some o
theorem Same.refl (H:Hp):Same H H:=fun _ _ h=>h
theorem Same.trans {H H1 H2:Hp}(a:Same H H1)(b:Same H1 H2):Same H H2:=fun c o h=>b c o (a c o h)
theorem Same.free {H H':Hp}(e:Same H H'){l:Addr}(h:H' l=Option.none):H l=Option.none:=by
 cases q:H l with
 |none=>rfl
 |some o=>
  rw[e l o q]at h
  cases h
theorem Same.seq {K:PySem.W.Frag}{H H':Hp}{a:Addr}{xs:List V}(e:Same H H')(h:SqL K H a xs):SqL K H' a xs:=by
 rcases h with (h|⟨o,h⟩)|h
 ·exact .inl (.inl (e _ _ h))
 ·exact .inl (.inr ⟨o,e _ _ h⟩)
 ·exact .inr h
section
variable {κ:Type}[DecidableEq κ]
theorem jv {kvs:List (κ×V)}{k:κ}(h:az kvs k=none):¬k∈kvs.map (·.1):=by
 intro m
 obtain⟨p,hp,e⟩:=List.mem_map.mp m
 have q:(kvs.any fun kv=>decide (kv.1=k))=true:=List.any_eq_true.mpr ⟨p,hp,decide_eq_true e⟩
 rw[dH,h]at q
 exact absurd q (by simp)
theorem iU {kvs:List (κ×V)}{k:κ}{v:V}(h:az kvs k=some v):k∈kvs.map (·.1):=by
 have q:(kvs.any fun kv=>decide (kv.1=k))=true:=by
  rw[dH,h]
  all_goals rfl
 obtain⟨p,hp,e⟩:=List.any_eq_true.mp q
 exact List.mem_map.mpr ⟨p,hp,of_decide_eq_true e⟩
theorem i9:∀{l:List κ} {k:κ},l.Nodup->¬k∈l->(l++[k]).Nodup
 |[],k,_,_=>by simp
 |a :: r,k,h,hk=>by
  obtain⟨h1,h2⟩:=List.nodup_cons.mp h
  show (a :: (r++[k])).Nodup
  refine List.nodup_cons.mpr ⟨fun m=>?_,i9 h2 fun m=>hk (List.mem_cons.mpr (Or.inr m))⟩
  rcases List.mem_append.mp m with q|q
  ·exact h1 q
  ·exact hk (List.mem_cons.mpr (Or.inl (List.mem_singleton.mp q).symm))
theorem x3 {kvs:List (κ×V)}{k:κ}(v:V)(hn:(kvs.map (·.1)).Nodup)(h:az kvs k=none):((bI kvs k v).map (·.1)).Nodup:=by
 rw[fO v h,List.map_append]
 exact i9 hn (jv h)
end
theorem mH {α:Type}{l:List α}(hN:l.Nodup){i j:Nat}{x:α}(a:l[i]?=some x)(b:l[j]?=some x):i=j:=by
 obtain⟨h1,e1⟩:=List.getElem?_eq_some_iff.mp a
 obtain⟨h2,e2⟩:=List.getElem?_eq_some_iff.mp b
 exact (List.getElem_inj hN).mp (e1.trans e2.symm)
theorem Same.made {H H1:Hp}{x dx C:Addr}(nx:H x=Option.none)(nd:H dx=Option.none)(k:∀b o,(upd (upd H dx (.own x)) x (.ins C dx [])) b=some o->b≠x->H1 b=some o):Same H H1:=fun b o e=>
 k b o (by rw[ae (aD e nx),ae (aD e nd)];exact e) (aD e nx)
end L2
namespace My
open Mo
theorem bh (i:Nat):held 0 i=false:=by simp[held]
theorem ju (i j:Nat):held (2^i) j=decide (i=j):=by
 simp[held,Nat.testBit_two_pow]
theorem bG (S i j:Nat):held (with_ S i) j=(held S j||decide (i=j)):=by
 simp[held,with_,Nat.testBit_or,Nat.testBit_two_pow]
theorem gU (S T j:Nat):held (S|||T) j=(held S j||held T j):=by simp[held]
theorem fA (S T j:Nat):held (S&&&T) j=(held S j&&held T j):=by simp[held]
theorem bF {S T:Nat}(h:∀i,held S i=held T i):S=T:=Nat.eq_of_testBit_eq h
theorem ax (S T:Nat):within S T=true↔∀i,held S i=true->held T i=true:=by
 unfold within
 rw[beq_iff_eq]
 constructor
 ·intro h i hi
  have:=congrArg (fun x=>held x i) h
  simp only[fA,hi,Bool.true_and]at this
  exact this
 ·intro h
  refine bF fun i=>?_
  rw[fA]
  cases e:held S i with
  |false=>rfl
  |true=>rw[h i e];rfl
theorem cb (S:Nat):within S S=true:=(ax S S).mpr fun _ h=>h
theorem q5 (S:Nat):within 0 S=true:=(ax 0 S).mpr fun i h=>by rw[bh]at h;cases h
theorem cg {S T U:Nat}(a:within S T=true)(b:within T U=true):within S U=true:=
 (ax S U).mpr fun i h=>(ax T U).mp b i ((ax S T).mp a i h)
theorem lw (S i:Nat):within S (with_ S i)=true:=(ax _ _).mpr fun j h=>by rw[bG,h];rfl
theorem mf {S T:Nat}(a:within S T=true)(b:within T S=true):S=T:=
 bF fun i=>Bool.eq_iff_iff.mpr ⟨(ax S T).mp a i,(ax T S).mp b i⟩
theorem vf {S i:Nat}(h:held S i=true):with_ S i=S:=bF fun j=>by
 rw[bG]
 by_cases e:i=j
 ·subst e;rw[h];rfl
 ·simp[e]
theorem o9 (l:List Nat)(f:Nat->Bool)(m j:Nat):held (l.foldl (fun m i=>if f i=true then with_ m i else m) m) j=(held m j||l.any fun i=>f i&&decide (i=j)):=by
 induction l generalizing m with
 |nil=>simp
 |cons x r ih=>
  rw[List.foldl_cons,ih,List.any_cons]
  cases hf:f x with
  |false=>simp
  |true=>simp[bG,Bool.or_assoc]
theorem cP (n:Nat)(f:Nat->Bool)(j:Nat):held (maskOf n f) j=(decide (j<n)&&f j):=by
 unfold maskOf
 rw[o9,bh,Bool.false_or,Bool.eq_iff_iff,List.any_eq_true]
 constructor
 ·rintro⟨x,hx,h⟩
  simp at h hx
  obtain⟨h1,rfl⟩:=h
  simp[hx,h1]
 ·intro h
  simp at h
  exact⟨j,by simp[h.1],by simp[h.2]⟩
theorem ck {α:Type}(l:List α)(f:α->Nat)(m j:Nat):held (l.foldl (fun m x=>with_ m (f x)) m) j=(held m j||l.any fun x=>decide (f x=j)):=by
 induction l generalizing m with
 |nil=>simp
 |cons x r ih=>rw[List.foldl_cons,ih,List.any_cons,bG,Bool.or_assoc]
theorem gX {S n i:Nat}(h:S<2^n)(hi:held S i=true):i<n:=by
 apply Decidable.byContradiction
 intro hn
 have:S<2^i:=Nat.lt_of_lt_of_le h (Nat.pow_le_pow_right (by decide) (by omega))
 rw[held,Nat.testBit_lt_two_pow this]at hi
 cases hi
theorem mO {S n:Nat}(h:∀i,held S i=true->i<n):S<2^n:=by
 apply Nat.lt_pow_two_of_testBit
 intro i hi
 cases e:S.testBit i with
 |false=>rfl
 |true=>have:=h i e;omega
theorem yl (n:Nat)(f:Nat->Bool):maskOf n f<2^n:=mO fun i h=>by
 rw[cP]at h
 simp at h
 exact h.1
theorem mem_members {n S i:Nat}:i∈membersOf n S↔i<n/\held S i=true:=by simp[membersOf]
theorem yA {S i:Nat}(h:S.testBit i=true)(j:Nat):(S-2^i).testBit j=(S.testBit j&&!decide (i=j)):=by
 have e0:S / 2^i%2=1:=by
  have:=h
  rw[Nat.testBit_eq_decide_div_mod_eq]at this
  simpa using this
 have e1:S=2^i*(S / 2^i)+S%2^i:=(Nat.div_add_mod S (2^i)).symm
 have e2:S / 2^i=2*(S / 2^i / 2)+1:=by omega
 have hr:S%2^i<2^i:=Nat.mod_lt _ (Nat.two_pow_pos i)
 generalize S / 2^i / 2=q at e2
 generalize S%2^i=r at e1 hr
 rw[e2]at e1
 have e3:S-2^i=2^i*(2*q)+r:=by
  rw[e1,Nat.mul_add,Nat.mul_one]
  omega
 rw[e3,e1,Nat.testBit_two_pow_mul_add _ hr,Nat.testBit_two_pow_mul_add _ hr]
 by_cases hj:j<i
 ·simp[hj,show ¬i=j by omega]
 ·simp only[hj,if_false]
  by_cases z:i=j
  ·subst z
   simp[Nat.testBit_zero]
  ·have:∃k,j-i=k+1:=⟨j-i-1,by omega⟩
   obtain⟨k,hk⟩:=this
   rw[hk,Nat.testBit_succ,Nat.testBit_succ]
   simp[z]
   congr 1
   omega
theorem c5 (S i j:Nat):held (without S i) j=(held S j&&!decide (i=j)):=by
 unfold without
 cases h:held S i with
 |false=>
  simp only[Bool.false_eq_true,if_false]
  by_cases e:i=j
  ·subst e;rw[h];rfl
  ·simp[e]
 |true=>
  simp only[if_true]
  exact yA h j
def bA {α:Type}[DecidableEq α](g:α->α):Nat->α->α
 |0,x=>x
 |f+1,x=>if g x=x then x else bA g f (g x)
theorem qI {α:Type}[DecidableEq α]{g:α->α}(I:α->Prop)(μ:α->Nat)(hI:∀x,I x->I (g x))(hm:∀x,I x->g x≠x->μ (g x)<μ x):∀(f:Nat)(x:α),I x->μ x<=f->g (bA g f x)=bA g f x/\I (bA g f x):=by
 intro f
 induction f with
 |zero=>
  intro x hx h
  refine⟨?_,hx⟩
  show g x=x
  apply Decidable.byContradiction
  intro hn
  have:=hm x hx hn
  omega
 |succ f ih=>
  intro x hx h
  unfold bA
  split
  ·rename_i e;exact⟨e,hx⟩
  ·rename_i e
   exact ih (g x) (hI x hx) (by have:=hm x hx e;omega)
theorem dC:∀a:Bytes,below a a=false
 |[]=>rfl
 |x :: r=>by simp[below,dC r]
theorem d8:∀{a b c:Bytes},below a b=true->below b c=true->below a c=true
 |[],[],c,h,_=>by simp[below]at h
 |[],y :: s,[],_,h=>by simp[below]at h
 |[],y :: s,z :: u,_,_=>rfl
 |x :: r,[],c,h,_=>by simp[below]at h
 |x :: r,y :: s,[],_,h=>by simp[below]at h
 |x :: r,y :: s,z :: u,h,k=>by
  simp only[below,Bool.or_eq_true,Bool.and_eq_true,decide_eq_true_eq,beq_iff_eq]at *
  rcases h with h|⟨rfl,h⟩
  ·rcases k with k|⟨rfl,k⟩
   ·exact .inl (by omega)
   ·exact .inl h
  ·rcases k with k|⟨rfl,k⟩
   ·exact .inl k
   ·exact .inr ⟨rfl,d8 h k⟩
theorem d9:∀(a b:Bytes),a=b∨below a b=true∨below b a=true
 |[],[]=>.inl rfl
 |[],y :: s=>.inr (.inl rfl)
 |x :: r,[]=>.inr (.inr rfl)
 |x :: r,y :: s=>by
  simp only[below,Bool.or_eq_true,Bool.and_eq_true,decide_eq_true_eq,beq_iff_eq,List.cons.injEq]
  rcases Nat.lt_trichotomy x y with h|h|h
  ·exact .inr (.inl (.inl h))
  ·rcases d9 r s with e|e|e
   ·exact .inl ⟨h,e⟩
   ·exact .inr (.inl (.inr ⟨h,e⟩))
   ·exact .inr (.inr (.inr ⟨h.symm,e⟩))
  ·exact .inr (.inr (.inl h))
theorem rF {a b:Bytes}(h:below a b=true):below b a=false:=by
 cases e:below b a with
 |false=>rfl
 |true=>have:=d8 h e;rw[dC]at this;cases this
abbrev bv {α:Type}(f:α->Bytes)(l:List α):Prop:=l.Pairwise fun a b=>below (f a) (f b)=true
theorem gM {α:Type}{f:α->Bytes}:∀{l m:List α},bv f l->bv f m->(∀x,x∈l↔x∈m)->l=m
 |[],[],_,_,_=>rfl
 |[],y :: s,_,_,h=>by have:=(h y).mpr (by simp);cases this
 |x :: r,[],_,_,h=>by have:=(h x).mp (by simp);cases this
 |x :: r,y :: s,hl,hm,h=>by
  have hl':=List.pairwise_cons.mp hl
  have hm':=List.pairwise_cons.mp hm
  have e:x=y:=by
   have h1:=(h x).mp (by simp)
   have h2:=(h y).mpr (by simp)
   rcases List.mem_cons.mp h1 with e|e
   ·exact e
   ·rcases List.mem_cons.mp h2 with e'|e'
    ·exact e'.symm
    ·have a:=hl'.1 y e'
     have b:=hm'.1 x e
     rw[rF a]at b;cases b
  subst e
  congr 1
  refine gM hl'.2 hm'.2 fun z=>?_
  have hz:=h z
  constructor
  ·intro hz'
   rcases List.mem_cons.mp (hz.mp (by simp[hz'])) with e|e
   ·subst e
    have:=hl'.1 z hz'
    rw[dC]at this;cases this
   ·exact e
  ·intro hz'
   rcases List.mem_cons.mp (hz.mpr (by simp[hz'])) with e|e
   ·subst e
    have:=hm'.1 z hz'
    rw[dC]at this;cases this
   ·exact e
theorem j1 {α:Type}{f:α->Bytes}{l:List α}(h:bv f l):l.Nodup:=by
 refine List.Pairwise.imp (fun {a b} hab e=>?_) h
 subst e
 rw[dC]at hab;cases hab
theorem mem_insertName {n:Bytes}:∀{l:List Bytes} {x:Bytes},x∈insertName n l↔x=n∨x∈l
 |[],x=>by simp[insertName]
 |y :: r,x=>by
  unfold insertName
  split
  ·rename_i h;subst h;simp
  ·split
   ·simp
   ·simp[mem_insertName (l:=r)]
    constructor
    ·rintro (h|h|h)<;>simp[h]
    ·rintro (h|h|h)<;>simp[h]
theorem gz {n:Bytes}:∀{l:List Bytes},bv id l->bv id (insertName n l)
 |[],_=>by simp[insertName,bv]
 |y :: r,h=>by
  have h':=List.pairwise_cons.mp h
  unfold insertName
  split
  ·exact h
  ·rename_i h1
   split
   ·rename_i h2
    refine List.pairwise_cons.mpr ⟨fun z hz=>?_,h⟩
    rcases List.mem_cons.mp hz with e|e
    ·subst e;exact h2
    ·exact d8 h2 (h'.1 z e)
   ·rename_i h2
    refine List.pairwise_cons.mpr ⟨fun z hz=>?_,gz h'.2⟩
    rcases mem_insertName.mp hz with e|e
    ·subst e
     rcases d9 z y with e|e|e
     ·exact absurd e h1
     ·exact absurd e h2
     ·exact e
    ·exact h'.1 z e
theorem eZ:∀(ns:List Bytes)(l:List Bytes),bv id l->bv id (ns.foldl (fun l n=>insertName n l) l)/\∀x,x∈ns.foldl (fun l n=>insertName n l) l↔x∈l∨x∈ns
 |[],l,h=>⟨h,fun x=>by simp⟩
 |n :: ns,l,h=>by
  obtain⟨h1,h2⟩:=eZ ns (insertName n l) (gz h)
  refine⟨h1,fun x=>?_⟩
  rw[List.foldl_cons,h2,mem_insertName]
  simp only[List.mem_cons]
  constructor
  ·rintro ((h|h)|h)<;>simp[h]
  ·rintro (h|h|h)<;>simp[h]
def b7 (c:Case):List Bytes:=((c.laws++c.rules).flatMap Row.atoms)++c.rules.map Row.name
theorem e8 (c:Case):bv id c.atoms:=(eZ (b7 c) [] (by simp[bv])).1
theorem mem_atoms {c:Case}{x:Bytes}:x∈c.atoms↔x∈b7 c:=by
 have:x∈c.atoms↔x∈[]∨x∈b7 c:=(eZ (b7 c) [] (by simp[bv])).2 x
 rw[this]
 simp
theorem d0 (c:Case):c.atoms.Nodup:=j1 (e8 c)
theorem fM (r:Row):∀l:List Row,(insertRow r l).Perm (r :: l)
 |[]=>by simp[insertRow]
 |x :: l=>by
  unfold insertRow
  split
  ·exact List.Perm.refl _
  ·exact ((fM r l).cons x).trans (List.Perm.swap r x l)
theorem ij (r:Row):∀{l:List Row},bv Row.name l->(∀x∈l,x.name≠r.name)->bv Row.name (insertRow r l)
 |[],_,_=>by simp[insertRow,bv]
 |x :: l,h,hn=>by
  have h':=List.pairwise_cons.mp h
  unfold insertRow
  split
  ·rename_i h2
   refine List.pairwise_cons.mpr ⟨fun z hz=>?_,h⟩
   rcases List.mem_cons.mp hz with e|e
   ·subst e;exact h2
   ·exact d8 h2 (h'.1 z e)
  ·rename_i h2
   refine List.pairwise_cons.mpr ⟨fun z hz=>?_,ij r h'.2 fun y hy=>hn y (by simp[hy])⟩
   rcases List.mem_cons.mp ((fM r l).mem_iff.mp hz) with e|e
   ·subst e
    rcases d9 z.name x.name with e|e|e
    ·exact absurd e.symm (hn x (by simp))
    ·exact absurd e h2
    ·exact e
   ·exact h'.1 z e
theorem fK:∀(rs l:List Row),bv Row.name l->((rs++l).map Row.name).Nodup->bv Row.name (rs.foldl (fun l r=>insertRow r l) l)/\(rs.foldl (fun l r=>insertRow r l) l).Perm (rs++l)
 |[],l,h,_=>⟨h,List.Perm.refl _⟩
 |r :: rs,l,h,hn=>by
  have hr:∀x∈l,x.name≠r.name:=fun x hx e=>by
   rw[List.cons_append,List.map_cons,List.nodup_cons]at hn
   exact hn.1 (by rw[List.mem_map];exact⟨x,by simp[hx],e⟩)
  have p:(rs++insertRow r l).Perm (r :: rs++l):=by
   refine ((fM r l).append_left rs).trans ?_
   exact List.perm_middle
  obtain⟨h1,h2⟩:=fK rs (insertRow r l) (ij r h hr) ((p.map Row.name).nodup_iff.mpr hn)
  exact⟨h1,h2.trans p⟩
inductive TC (w:Weighs):Bytes->Bytes->Prop
 |one {x y:Bytes}:(x,y)∈w->TC w x y
 |more {x y z:Bytes}:(x,y)∈w->TC w y z->TC w x z
theorem TC.trans {w:Weighs}{x y z:Bytes}(a:TC w x y)(b:TC w y z):TC w x z:=by
 induction a with
 |one h=>exact .more h b
 |more h _ ih=>exact .more h (ih b)
theorem TC.mono {w v:Weighs}(h:∀p∈w,p∈v){x y:Bytes}(a:TC w x y):TC v x y:=by
 induction a with
 |one k=>exact .one (h _ k)
 |more k _ ih=>exact .more (h _ k) ih
theorem TC.src {w:Weighs}{x y:Bytes}(a:TC w x y):∃z,(x,z)∈w:=by
 cases a with
 |one k=>exact⟨_,k⟩
 |more k _=>exact⟨_,k⟩
theorem TC.tgt {w:Weighs}{x y:Bytes}(a:TC w x y):∃z,(z,y)∈w:=by
 induction a with
 |one k=>exact⟨_,k⟩
 |more _ _ ih=>exact ih
def bx (w:Weighs)(l:List Bytes):List Bytes:=w.foldl (fun (r:List Bytes) (x:Bytes×Bytes)=>if r.contains x.1=true/\r.contains x.2=false then x.2 :: r else r) l
theorem pW {v w:Weighs}:∀{l:List Bytes},(∀p∈v,p∈w)->∀y,y∈bx v l->y∈l∨∃x∈l,TC w x y:=by
 induction v with
 |nil=>intro l _ y h;exact .inl h
 |cons p v ih=>
  intro l hv y h
  have h':y∈bx v (if l.contains p.1=true/\l.contains p.2=false then p.2 :: l else l):=h
  split at h'
  ·rename_i hc
   have h1:p.1∈l:=by simpa using hc.1
   have hp:TC w p.1 p.2:=.one (hv p (by simp))
   rcases ih (fun q hq=>hv q (by simp[hq])) y h' with h2|⟨x,hx,h2⟩
   ·rcases List.mem_cons.mp h2 with e|e
    ·subst e;exact .inr ⟨p.1,h1,hp⟩
    ·exact .inl e
   ·rcases List.mem_cons.mp hx with e|e
    ·subst e;exact .inr ⟨p.1,h1,hp.trans h2⟩
    ·exact .inr ⟨x,e,h2⟩
  ·exact ih (fun q hq=>hv q (by simp[hq])) y h'
theorem jC {v:Weighs}:∀{l:List Bytes} {y:Bytes},y∈l->y∈bx v l:=by
 induction v with
 |nil=>intro l y h;exact h
 |cons p v ih=>
  intro l y h
  refine ih (l:=if l.contains p.1=true/\l.contains p.2=false then p.2 :: l else l) ?_
  split
  ·simp[h]
  ·exact h
theorem wR {v:Weighs}:∀{l:List Bytes},l.length<=(bx v l).length:=by
 induction v with
 |nil=>intro l;exact Nat.le_refl _
 |cons p v ih=>
  intro l
  refine Nat.le_trans ?_ (ih (l:=if l.contains p.1=true/\l.contains p.2=false then p.2 :: l else l))
  split<;>simp
theorem yf {v:Weighs}:∀{l:List Bytes},(bx v l).length=l.length->bx v l=l/\∀p∈v,p.1∈l->p.2∈l:=by
 induction v with
 |nil=>intro l _;exact⟨rfl,fun p h=>nomatch h⟩
 |cons p v ih=>
  intro l h
  have h':(bx v (if l.contains p.1=true/\l.contains p.2=false then p.2 :: l else l)).length=l.length:=h
  show bx v (if l.contains p.1=true/\l.contains p.2=false then p.2 :: l else l)=l/\_
  split at h'
  ·have:=wR (v:=v) (l:=p.2 :: l)
   rw[h']at this
   simp at this
   omega
  ·rename_i hc
   obtain⟨e1,e2⟩:=ih h'
   rw[if_neg hc]
   refine⟨e1,fun q hq hq1=>?_⟩
   rcases List.mem_cons.mp hq with e|e
   ·subst e
    apply Decidable.byContradiction
    intro hn
    exact hc ⟨by simpa using hq1,by simpa using hn⟩
   ·exact e2 q e hq1
def ee (w:Weighs)(l:List Bytes):Nat:=(w.filter fun p=>!l.contains p.2).length
theorem wP {w:Weighs}{l m:List Bytes}(h:∀y,y∈l->y∈m):ee w m<=ee w l:=by
 unfold ee
 induction w with
 |nil=>simp
 |cons p w ih=>
  simp only[List.filter_cons]
  by_cases a:p.2∈l
  ·have b:=h _ a
   simp[a,b]
   simpa using ih
  ·by_cases b:p.2∈m
   ·simp[a,b]
    have:=ih
    simp at this
    omega
   ·simp[a,b]
    simpa using ih
theorem xu {w:Weighs}{l m:List Bytes}(h:∀y,y∈l->y∈m){p:Bytes×Bytes}(hp:p∈w)(hl:¬p.2∈l)(hm:p.2∈m):ee w m<ee w l:=by
 induction w with
 |nil=>cases hp
 |cons q w ih=>
  have hw:=wP (w:=w) h
  unfold ee at *
  simp only[List.filter_cons]
  rcases List.mem_cons.mp hp with e|e
  ·subst e
   simp[hl,hm]
   simp at hw
   omega
  ·have:=ih e
   by_cases a:q.2∈l
   ·have b:=h _ a
    simp[a,b]
    simpa using this
   ·by_cases b:q.2∈m
    ·simp[a,b]
     simp at this
     omega
    ·simp[a,b]
     simpa using this
theorem uT {w:Weighs}{l:List Bytes}(h:(bx w l).length≠l.length):ee w (bx w l)<ee w l:=by
 have:∃p∈w,¬p.2∈l/\p.2∈bx w l:=by
  have key:∀(v:Weighs)(l:List Bytes),(bx v l).length≠l.length->∃p∈v,¬p.2∈l/\p.2∈bx v l:=by
   intro v
   induction v with
   |nil=>intro l h;exact absurd rfl h
   |cons p v ih=>
    intro l h
    have e:bx (p :: v) l=bx v (if l.contains p.1=true/\l.contains p.2=false then p.2 :: l else l):=rfl
    by_cases hc:l.contains p.1=true/\l.contains p.2=false
    ·rw[if_pos hc]at e
     exact⟨p,by simp,by simpa using hc.2,by rw[e];exact jC (by simp)⟩
    ·rw[if_neg hc]at e
     rw[e]at h
     obtain⟨q,h1,h2,h3⟩:=ih l h
     exact⟨q,by simp[h1],h2,by rw[e];exact h3⟩
  exact key w l h
 obtain⟨p,h1,h2,h3⟩:=this
 exact xu (fun y hy=>jC hy) h1 h2 h3
theorem iM {w:Weighs}:∀(f:Nat)(l:List Bytes),ee w l<=f->∀y,y∈onFrom w f l↔y∈l∨∃x∈l,TC w x y:=by
 have closed:∀l:List Bytes,(∀p∈w,p.1∈l->p.2∈l)->∀y,y∈l↔y∈l∨∃x∈l,TC w x y:=by
  intro l hc y
  constructor
  ·exact .inl
  ·rintro (h|⟨x,hx,h⟩)
   ·exact h
   ·induction h with
    |one k=>exact hc _ k hx
    |more k _ ih=>exact ih (hc _ k hx)
 intro f
 induction f with
 |zero=>
  intro l h y
  show y∈l↔_
  refine closed l (fun p hp hp1=>?_) y
  apply Decidable.byContradiction
  intro hn
  have:(w.filter fun p=>!l.contains p.2)≠[]:=List.ne_nil_of_mem (List.mem_filter.mpr ⟨hp,by simpa using hn⟩)
  have:=List.length_pos_iff.mpr this
  unfold ee at h
  omega
 |succ f ih=>
  intro l h y
  have e:onFrom w (f+1) l=if (bx w l).length=l.length then l else onFrom w f (bx w l):=rfl
  rw[e]
  split
  ·rename_i hl
   exact closed l (yf hl).2 y
  ·rename_i hl
   have:=uT hl
   rw[ih (bx w l) (by omega) y]
   constructor
   ·rintro (k|⟨x,hx,k⟩)
    ·exact pW (fun p hp=>hp) y k
    ·rcases pW (fun p hp=>hp) x hx with z|⟨u,hu,z⟩
     ·exact .inr ⟨x,z,k⟩
     ·exact .inr ⟨u,hu,z.trans k⟩
   ·rintro (k|⟨x,hx,k⟩)
    ·exact .inl (jC k)
    ·exact .inr ⟨x,jC hx,k⟩
theorem outweighs_iff {w:Weighs}{x y:Bytes}:outweighs w x y=true↔TC w x y:=by
 have hf:∀l,ee w l<=w.length+1:=fun l=>by
  unfold ee
  have:=List.length_filter_le (fun p=>!l.contains p.2) w
  omega
 unfold outweighs
 rw[List.any_eq_true]
 constructor
 ·rintro⟨⟨a,b⟩,hz,h⟩
  simp only[Bool.and_eq_true,beq_iff_eq,List.contains_iff_mem]at h
  obtain⟨rfl,h⟩:=h
  rcases (iM _ [b] (hf _) y).mp h with k|⟨u,hu,k⟩
  ·simp at k;subst k;exact .one hz
  ·simp at hu;subst hu;exact .more hz k
 ·intro h
  cases h with
  |one k=>exact⟨(x,y),k,by simp only[Bool.and_eq_true,beq_iff_eq,List.contains_iff_mem];exact⟨trivial,(iM _ [y] (hf _) y).mpr (.inl (by simp))⟩⟩
  |more k t=>exact⟨_,k,by simp only[Bool.and_eq_true,beq_iff_eq,List.contains_iff_mem];exact⟨trivial,(iM _ _ (hf _) y).mpr (.inr ⟨_,by simp,t⟩)⟩⟩
theorem goesRound_iff {w:Weighs}:goesRound w=true↔∃x,TC w x x:=by
 unfold goesRound
 rw[List.any_eq_true]
 constructor
 ·rintro⟨z,_,h⟩;exact⟨z.1,outweighs_iff.mp h⟩
 ·rintro⟨x,h⟩
  obtain⟨y,hy⟩:=h.src
  exact⟨(x,y),hy,outweighs_iff.mpr h⟩
theorem TC_snoc {w:Weighs}{x y a b:Bytes}:TC (w++[(x,y)]) a b↔TC w a b∨((a=x∨TC w a x)/\(b=y∨TC w y b))∨False:=by
 rw[or_false]
 constructor
 ·intro h
  induction h with
  |one k=>
   rename_i p q
   rcases List.mem_append.mp k with k|k
   ·exact .inl (.one k)
   ·simp at k
    obtain⟨rfl,rfl⟩:=k
    exact .inr ⟨.inl rfl,.inl rfl⟩
  |more k t ih=>
   rename_i p q r
   rcases List.mem_append.mp k with k'|k
   ·rcases ih with ih|⟨h1,h2⟩
    ·exact .inl (.more k' ih)
    ·refine .inr ⟨.inr ?_,h2⟩
     rcases h1 with rfl|h1
     ·exact .one k'
     ·exact .more k' h1
   ·simp at k
    obtain⟨rfl,rfl⟩:=k
    rcases ih with ih|⟨h1,h2⟩
    ·exact .inr ⟨.inl rfl,.inr ih⟩
    ·exact .inr ⟨.inl rfl,h2⟩
 ·have up:∀{a b},TC w a b->TC (w++[(x,y)]) a b:=fun h=>h.mono (by simp +contextual)
  have mid:TC (w++[(x,y)]) x y:=.one (by simp)
  rintro (h|⟨h1,h2⟩)
  ·exact up h
  ·have l:TC (w++[(x,y)]) a y:=by
    rcases h1 with rfl|h1
    ·exact mid
    ·exact (up h1).trans mid
   rcases h2 with rfl|h2
   ·exact l
   ·exact l.trans (up h2)
theorem m6 {w:Weighs}{x y:Bytes}(h:goesRound w=false):goesRound (w++[(x,y)])=true↔x=y∨TC w y x:=by
 have hn:∀z,¬TC w z z:=fun z hz=>by
  have:=goesRound_iff.mpr ⟨z,hz⟩
  rw[h]at this;cases this
 rw[goesRound_iff]
 constructor
 ·rintro⟨z,hz⟩
  rcases TC_snoc.mp hz with k|⟨h1,h2⟩|k
  ·exact absurd k (hn z)
  ·rcases h1 with rfl|h1
   ·rcases h2 with rfl|h2
    ·exact .inl rfl
    ·exact .inr h2
   ·rcases h2 with rfl|h2
    ·exact .inr h1
    ·exact .inr (h2.trans h1)
  ·cases k
 ·rintro (rfl|k)
  ·exact⟨x,.one (by simp)⟩
  ·exact⟨x,TC_snoc.mpr (.inr (.inl ⟨.inl rfl,.inr k⟩))⟩
inductive Dr {κ:Type}(S:List (List κ×κ)):κ->Prop
 |mk {b:List κ} {h:κ}:(b,h)∈S->(∀x,x∈b->Dr S x)->Dr S h
theorem Dr.mono {κ:Type}{S T:List (List κ×κ)}(e:∀r∈S,r∈T){k:κ}(h:Dr S k):Dr T k:=by
 induction h with
 |mk hr _ ih=>exact .mk (e _ hr) ih
theorem Dr.congr {κ:Type}{S T:List (List κ×κ)}(e:∀r,r∈S↔r∈T){k:κ}:Dr S k↔Dr T k:=⟨Dr.mono fun r h=>(e r).mp h,Dr.mono fun r h=>(e r).mpr h⟩
theorem Dr.head {κ:Type}{S:List (List κ×κ)}{k:κ}(h:Dr S k):k∈S.map (·.2):=by
 cases h with
 |mk hr _=>exact List.mem_map.mpr ⟨_,hr,rfl⟩
theorem pC {α β:Type}{S:List (List α×α)}{f:α->β}(P:α->Prop)(hS:∀r∈S,(∀x∈r.1,P x)/\P r.2)(inj:∀x y,P x->P y->f x=f y->x=y){k:α}(hk:P k):
  Dr (S.map fun r=>(r.1.map f,f r.2)) (f k)↔Dr S k:=by
 constructor
 ·have key:∀y,Dr (S.map fun r=>(r.1.map f,f r.2)) y->∃x,P x/\f x=y/\Dr S x:=by
   intro y h
   induction h with
   |mk hr _ ih=>
    rename_i b h
    obtain⟨r,hr',e⟩:=List.mem_map.mp hr
    cases e
    refine⟨r.2,(hS r hr').2,rfl,.mk (b:=r.1) hr' fun x hx=>?_⟩
    obtain⟨x',h1,h2,h3⟩:=ih (f x) (List.mem_map.mpr ⟨x,hx,rfl⟩)
    rw[<-inj x' x h1 ((hS r hr').1 x hx) h2]
    exact h3
  intro h
  obtain⟨x,h1,h2,h3⟩:=key _ h
  rw[<-inj x k h1 hk h2]
  exact h3
 ·intro h
  clear hk
  induction h with
  |mk hr _ ih=>
   rename_i b h _
   refine .mk (b:=b.map f) (List.mem_map.mpr ⟨(b,h),hr,rfl⟩) fun y hy=>?_
   obtain⟨x,hx,rfl⟩:=List.mem_map.mp hy
   exact ih x hx
inductive DerF (l:List (Nat×Nat))(F:Nat):Nat->Prop
 |base {j:Nat}:held F j=true->DerF l F j
 |step {r:Nat×Nat}:r∈l->(∀i,held r.1 i=true->DerF l F i)->DerF l F r.2
def a8 (l:List (Nat×Nat))(F:Nat):Nat:=l.foldl (fun (m:Nat) (r:Nat×Nat)=>if within r.1 m=true then with_ m r.2 else m) F
theorem dB:∀(l:List (Nat×Nat))(F:Nat),within F (a8 l F)=true
 |[],F=>cb F
 |r :: l,F=>by
  refine cg ?_ (dB l (if within r.1 F=true then with_ F r.2 else F))
  split
  ·exact lw F r.2
  ·exact cb F
theorem iE {l:List (Nat×Nat)}{F:Nat}:∀(v:List (Nat×Nat))(G:Nat),(∀r∈v,r∈l)->(∀j,held G j=true->DerF l F j)->∀j,held (a8 v G) j=true->DerF l F j
 |[],G,_,hG=>hG
 |r :: v,G,hv,hG=>by
  refine iE v (if within r.1 G=true then with_ G r.2 else G) (fun q hq=>hv q (by simp[hq])) fun j hj=>?_
  split at hj
  ·rename_i hw
   rw[bG]at hj
   simp at hj
   rcases hj with hj|hj
   ·exact hG j hj
   ·subst hj
    exact .step (hv r (by simp)) fun i hi=>hG i ((ax _ _).mp hw i hi)
  ·exact hG j hj
theorem kx:∀(l:List (Nat×Nat))(F:Nat),a8 l F=F->∀r∈l,within r.1 F=true->held F r.2=true
 |[],F,_=>fun r h=>nomatch h
 |r :: l,F,h=>by
  have h1:within F (if within r.1 F=true then with_ F r.2 else F)=true:=by
   split
   ·exact lw F r.2
   ·exact cb F
  have h2:within (if within r.1 F=true then with_ F r.2 else F) F=true:=by
   have:=dB l (if within r.1 F=true then with_ F r.2 else F)
   have e:a8 (r :: l) F=a8 l (if within r.1 F=true then with_ F r.2 else F):=rfl
   rw[<-e,h]at this
   exact this
  have e1:=mf h1 h2
  have e:a8 l F=F:=by
   have e:a8 (r :: l) F=a8 l (if within r.1 F=true then with_ F r.2 else F):=rfl
   rw[<-e1,h]at e
   exact e.symm
  intro q hq hw
  rcases List.mem_cons.mp hq with z|z
  ·subst z
   rw[if_pos hw]at e1
   rw[e1,bG]
   simp
  ·exact kx l F e q z hw
theorem mQ {l:List (Nat×Nat)}{F G:Nat}(h:∀r∈l,within r.1 G=true->held G r.2=true)(hF:within F G=true){j:Nat}(d:DerF l F j):held G j=true:=by
 induction d with
 |base hj=>exact (ax _ _).mp hF _ hj
 |step hr _ ih=>exact h _ hr ((ax _ _).mpr ih)
def fZ (l:List (Nat×Nat))(F:Nat):Nat:=(l.filter fun r=>!held F r.2).length
theorem xp {l:List (Nat×Nat)}{F G:Nat}(h:within F G=true):fZ l G<=fZ l F:=by
 unfold fZ
 induction l with
 |nil=>simp
 |cons q l ih=>
  simp only[List.filter_cons]
  cases a:held F q.2 with
  |true=>rw[(ax _ _).mp h _ a];simpa using ih
  |false=>
   cases b:held G q.2 with
   |true=>simp;omega
   |false=>simp;omega
theorem pV {l:List (Nat×Nat)}{F G:Nat}(h:within F G=true){r:Nat×Nat}(hr:r∈l)(h1:held F r.2=false)(h2:held G r.2=true):fZ l G<fZ l F:=by
 induction l with
 |nil=>cases hr
 |cons q l ih=>
  have hw:=xp (l:=l) h
  unfold fZ at *
  rcases List.mem_cons.mp hr with e|e
  ·subst e
   simp only[List.filter_cons,h1,h2]
   simp
   omega
  ·have:=ih e
   simp only[List.filter_cons]
   cases a:held F q.2 with
   |true=>rw[(ax _ _).mp h _ a];simpa using this
   |false=>
    cases b:held G q.2 with
    |true=>simp;omega
    |false=>simp;omega
theorem km:∀(l:List (Nat×Nat))(F:Nat),a8 l F≠F->∃r∈l,held F r.2=false/\held (a8 l F) r.2=true
 |[],F,h=>absurd rfl h
 |r :: l,F,h=>by
  have e:a8 (r :: l) F=a8 l (if within r.1 F=true then with_ F r.2 else F):=rfl
  by_cases hc:within r.1 F=true/\held F r.2=false
  ·refine⟨r,by simp,hc.2,?_⟩
   rw[e,if_pos hc.1]
   refine (ax _ _).mp (dB l _) _ ?_
   rw[bG];simp
  ·have e2:(if within r.1 F=true then with_ F r.2 else F)=F:=by
    split
    ·rename_i hw
     cases a:held F r.2 with
     |true=>exact vf a
     |false=>exact absurd ⟨hw,a⟩ hc
    ·rfl
   rw[e2]at e
   rw[e]at h ⊢
   obtain⟨q,h1,h2,h3⟩:=km l F h
   exact⟨q,by simp[h1],h2,h3⟩
theorem jc (l:List (Nat×Nat)):∀(f F:Nat),closeFrom l f F=bA (a8 l) f F
 |0,F=>rfl
 |f+1,F=>by
  have e:closeFrom l (f+1) F=if a8 l F=F then F else closeFrom l f (a8 l F):=rfl
  rw[e,jc l f]
  rfl
theorem mN {l:List (Nat×Nat)}{f F:Nat}(hf:l.length<=f)(j:Nat):held (closeFrom l f F) j=true↔DerF l F j:=by
 rw[jc]
 obtain⟨h1,h2⟩:=qI (g:=a8 l) (fun G=>within F G=true/\∀j,held G j=true->DerF l F j) (fZ l) (fun G h=>⟨cg h.1 (dB l G),iE l G (fun _ h=>h) h.2⟩)
  (fun G _ hne=>by
   obtain⟨r,a,b,c⟩:=km l G hne
   exact pV (dB l G) a b c) f F ⟨cb F,fun j h=>.base h⟩ (Nat.le_trans (List.length_filter_le _ _) hf)
 exact⟨h2.2 j,fun d=>mQ (kx l _ h1) h2.1 d⟩
theorem yu {l:List (Nat×Nat)}{F:Nat}{S:List (List Nat×Nat)}(h1:∀r∈l,∃b,(b,r.2)∈S/\∀i,held r.1 i=true↔i∈b)(h2:∀j,held F j=true->([],j)∈S)
  (h3:∀b h,(b,h)∈S->(b=[]/\held F h=true)∨∃m,(m,h)∈l/\∀i,held m i=true↔i∈b)(j:Nat):DerF l F j↔Dr S j:=by
 constructor
 ·intro h
  induction h with
  |base hj=>exact .mk (h2 _ hj) fun x hx=>nomatch hx
  |step hr _ ih=>
   obtain⟨b,hb,e⟩:=h1 _ hr
   exact .mk hb fun x hx=>ih x ((e x).mpr hx)
 ·intro h
  induction h with
  |mk hr _ ih=>
   rcases h3 _ _ hr with ⟨_,hF⟩|⟨m,hm,e⟩
   ·exact .base hF
   ·exact .step (r:=(m,_)) hm fun i hi=>ih i ((e i).mp hi)
theorem findIdx?_mem {a:List Bytes}{x:Bytes}(h:x∈a):∃i,a.findIdx? (fun n=>n==x)=some i/\a[i]?=some x:=by
 induction a with
 |nil=>cases h
 |cons y r ih=>
  rw[List.findIdx?_cons]
  by_cases e:y=x
  ·subst e;exact⟨0,by simp,rfl⟩
  ·rcases List.mem_cons.mp h with z|z
   ·exact absurd z.symm e
   ·obtain⟨i,h1,h2⟩:=ih z
    refine⟨i+1,?_,h2⟩
    have:(y==x)=false:=by simpa using e
    rw[this,h1]
    rfl
theorem kK (c:Case){a:List Bytes}{l:Lit}(h:l.atom∈a):∃i,a[i]?=some l.atom/\c.lit a l=2*i+(if l.no=true then 1 else 0):=by
 obtain⟨i,h1,h2⟩:=findIdx?_mem h
 exact⟨i,h2,by unfold Case.lit;rw[h1];rfl⟩
theorem ym (c:Case){a:List Bytes}{l m:Lit}(hl:l.atom∈a)(hm:m.atom∈a)(e:c.lit a l=c.lit a m):l=m:=by
 obtain⟨i,h1,h2⟩:=kK c hl
 obtain⟨j,h3,h4⟩:=kK c hm
 rw[h2,h4]at e
 obtain⟨x,b⟩:=l
 obtain⟨y,d⟩:=m
 cases b<;>cases d<;>simp at e h1 h3
 ·have:i=j:=by omega
  subst this
  rw[h1]at h3;cases h3;rfl
 ·omega
 ·omega
 ·have:i=j:=by omega
  subst this
  rw[h1]at h3;cases h3;rfl
theorem f8 (c:Case){a:List Bytes}{l:Lit}(h:l.atom∈a):c.lit a l<2*a.length:=by
 obtain⟨i,h1,h2⟩:=kK c h
 have:=(List.getElem?_eq_some_iff.mp h1).1
 rw[h2]
 split<;>omega
def bZ (c:Case)(S:Nat):List (List Lit×Lit):=
 ((c.rules.zipIdx.filter fun x=>held S x.2).map fun x=>([],⟨x.1.name,false⟩))++c.laws.map (fun r=>(r.body,r.head))++((c.rules.zipIdx.filter fun x=>held S x.2).map fun x=>(x.1.body,x.1.head))
theorem cB {c:Case}{r:Row}(h:r∈c.laws∨r∈c.rules):(∀l∈r.body,l.atom∈c.atoms)/\r.head.atom∈c.atoms:=by
 have hr:r∈c.laws++c.rules:=List.mem_append.mpr h
 constructor
 ·intro l hl
  refine mem_atoms.mpr (List.mem_append.mpr (.inl (List.mem_flatMap.mpr ⟨r,hr,?_⟩)))
  simp only[Row.atoms,List.mem_cons,List.mem_map]
  exact .inr ⟨l,hl,rfl⟩
 ·refine mem_atoms.mpr (List.mem_append.mpr (.inl (List.mem_flatMap.mpr ⟨r,hr,?_⟩)))
  simp[Row.atoms]
theorem iy {c:Case}{r:Row}(h:r∈c.rules):r.name∈c.atoms:=mem_atoms.mpr (List.mem_append.mpr (.inr (List.mem_map.mpr ⟨r,h,rfl⟩)))
def dg (c:Case)(a:List Bytes)(r:Row):Nat:=r.body.foldl (fun (m:Nat) (l:Lit)=>with_ m (c.lit a l)) 0
theorem dj (c:Case)(a:List Bytes)(r:Row)(i:Nat):held (dg c a r) i=true↔i∈r.body.map (c.lit a):=by
 unfold dg
 rw[ck,bh,Bool.false_or,List.any_eq_true,List.mem_map]
 constructor
 ·rintro⟨l,h1,h2⟩;exact⟨l,h1,of_decide_eq_true h2⟩
 ·rintro⟨l,h1,h2⟩;exact⟨l,h1,decide_eq_true h2⟩
theorem cj (c:Case):c.numbered=⟨c.atoms.length,c.laws.map (fun r=>(dg c c.atoms r,c.lit c.atoms r.head)),c.rules.map fun r=>(c.lit c.atoms ⟨r.name,false⟩,dg c c.atoms r,c.lit c.atoms r.head)⟩:=rfl
theorem j0 {c:Case}{x:Row×Nat}(h:x∈c.rules.zipIdx):x.1∈c.rules:=by
 obtain⟨r,i⟩:=x
 have:=List.mem_zipIdx h
 simp at this
 rw[this.2]
 exact List.getElem_mem _
theorem uk {c:Case}{S:Nat}:∀r∈bZ c S,(∀x∈r.1,x.atom∈c.atoms)/\r.2.atom∈c.atoms:=by
 intro r hr
 simp only[bZ,List.mem_append,List.mem_map]at hr
 rcases hr with (⟨x,hx,rfl⟩|⟨x,hx,rfl⟩)|⟨x,hx,rfl⟩
 ·exact⟨(fun x hx=>nomatch hx),iy (j0 (List.mem_filter.mp hx).1)⟩
 ·exact cB (.inl hx)
 ·exact cB (.inr (j0 (List.mem_filter.mp hx).1))
theorem fR {c:Case}{S:Nat}{l:Lit}(hl:l.atom∈c.atoms):held (c.numbered.follows S) (c.lit c.atoms l)=true↔Dr (bZ c S) l:=by
 rw[<-pC (S:=bZ c S) (f:=c.lit c.atoms) (fun x=>x.atom∈c.atoms) uk (fun x y hx hy e=>ym c hx hy e) hl]
 have hz:(c.rules.map fun r=>(c.lit c.atoms ⟨r.name,false⟩,dg c c.atoms r,c.lit c.atoms r.head)).zipIdx=c.rules.zipIdx.map fun x=>((c.lit c.atoms ⟨x.1.name,false⟩,dg c c.atoms x.1,c.lit c.atoms x.1.head),x.2):=by
  rw[List.zipIdx_map]
  rfl
 unfold Numbered.follows
 rw[cj]
 simp only[hz,List.filter_map,List.map_map,List.foldl_map]
 rw[mN (by simp)]
 refine yu ?_ ?_ ?_ _
 ·intro r hr
  rcases List.mem_append.mp hr with h|h
  ·obtain⟨x,hx,rfl⟩:=List.mem_map.mp h
   refine⟨x.body.map (c.lit c.atoms),?_,fun i=>dj c _ x i⟩
   refine List.mem_map.mpr ⟨(x.body,x.head),?_,rfl⟩
   simp only[bZ,List.mem_append,List.mem_map]
   exact .inl (.inr ⟨x,hx,rfl⟩)
  ·obtain⟨x,hx,rfl⟩:=List.mem_map.mp h
   refine⟨x.1.body.map (c.lit c.atoms),?_,fun i=>dj c _ x.1 i⟩
   refine List.mem_map.mpr ⟨(x.1.body,x.1.head),?_,rfl⟩
   simp only[bZ,List.mem_append,List.mem_map]
   exact .inr ⟨x,hx,rfl⟩
 ·intro j hj
  rw[ck,bh,Bool.false_or,List.any_eq_true]at hj
  obtain⟨x,hx,e⟩:=hj
  have e:=of_decide_eq_true e
  refine List.mem_map.mpr ⟨([],⟨x.1.name,false⟩),?_,?_⟩
  ·simp only[bZ,List.mem_append,List.mem_map]
   exact .inl (.inl ⟨x,hx,rfl⟩)
  ·show ([],_)=_
   rw[<-e];rfl
 ·intro b h hm
  obtain⟨r,hr,e⟩:=List.mem_map.mp hm
  cases e
  simp only[bZ,List.mem_append,List.mem_map]at hr
  rcases hr with (⟨x,hx,rfl⟩|⟨x,hx,rfl⟩)|⟨x,hx,rfl⟩
  ·refine .inl ⟨rfl,?_⟩
   rw[ck,bh,Bool.false_or,List.any_eq_true]
   exact⟨x,hx,decide_eq_true rfl⟩
  ·exact .inr ⟨dg c c.atoms x,List.mem_append.mpr (.inl (List.mem_map.mpr ⟨x,hx,rfl⟩)),fun i=>dj c _ x i⟩
  ·exact .inr ⟨dg c c.atoms x.1,List.mem_append.mpr (.inr (List.mem_map.mpr ⟨x,hx,rfl⟩)),fun i=>dj c _ x.1 i⟩
theorem vB {α:Type}{l:List α}(nd:l.Nodup){i j:Nat}(hi:i<l.length)(hj:j<l.length):l[i]=l[j]↔i=j:=by
 constructor
 ·intro e
  rcases Nat.lt_trichotomy i j with h|h|h
  ·exact absurd e ((List.pairwise_iff_getElem.mp nd) i j hi hj h)
  ·exact h
  ·exact absurd e.symm ((List.pairwise_iff_getElem.mp nd) j i hj hi h)
 ·intro e;subst e;rfl
theorem nS {c:Case}{S:Nat}:c.numbered.clash S=true↔∃a,a∈c.atoms/\Dr (bZ c S) ⟨a,false⟩/\Dr (bZ c S) ⟨a,true⟩:=by
 have nd:=d0 c
 have lt:∀(i:Nat)(a:Bytes)(b:Bool),c.atoms[i]?=some a->c.lit c.atoms ⟨a,b⟩=2*i+(if b=true then 1 else 0):=by
  intro i a b hi
  obtain⟨j,h1,h2⟩:=kK c (a:=c.atoms) (l:=⟨a,b⟩) (List.mem_of_getElem? hi)
  have:j=i:=by
   have hj:=(List.getElem?_eq_some_iff.mp h1)
   have hi:=(List.getElem?_eq_some_iff.mp hi)
   obtain⟨hj1,hj2⟩:=hj
   obtain⟨hi1,hi2⟩:=hi
   have hj2:c.atoms[j]=a:=hj2
   exact (vB nd hj1 hi1).mp (hj2.trans hi2.symm)
  rw[h2,this]
 unfold Numbered.clash
 show ((List.range c.atoms.length).any fun a=>held (c.numbered.follows S) (2*a)&&held (c.numbered.follows S) (2*a+1))=true↔_
 rw[List.any_eq_true]
 constructor
 ·rintro⟨i,hi,h⟩
  have hi:i<c.atoms.length:=by simpa using hi
  rw[Bool.and_eq_true]at h
  have ha:c.atoms[i]?=some c.atoms[i]:=by simp[hi]
  have hm:=List.mem_of_getElem? ha
  refine⟨c.atoms[i],hm,(fR (l:=⟨_,false⟩) hm).mp ?_,(fR (l:=⟨_,true⟩) hm).mp ?_⟩
  ·rw[lt i _ _ ha];simpa using h.1
  ·rw[lt i _ _ ha];simpa using h.2
 ·rintro⟨a,hm,h1,h2⟩
  obtain⟨i,hi⟩:=List.getElem?_of_mem hm
  refine⟨i,by simpa using (List.getElem?_eq_some_iff.mp hi).1,?_⟩
  have k1:=(fR (l:=⟨_,false⟩) hm).mpr h1
  have k2:=(fR (l:=⟨_,true⟩) hm).mpr h2
  rw[lt i _ _ hi]at k1 k2
  simp at k1 k2
  simp[k1,k2]
end My
namespace My
abbrev B:=List Nat
def LB:Nat:=9000
def eF:B:=[97,98,99,100,101,102,103,104,105,106,107,108,109,110,111,112,113,114,115,116,117,118,119,120,121,122]
def mB:B:=eF++[48,49,50,51,52,53,54,55,56,57,45]
def lSIGNS:B:=mB++[32,126,58,44,61,62]
theorem oM {L:B}{p:Nat->Bool}(h1:∀c,c<128->decide (c∈L)=p c)(h2:∀x∈L,x<128)(h3:∀c,p c=true->c<128)(c:Nat):decide (c∈L)=p c:=by
 by_cases h:c<128
 ·exact h1 c h
 ·have a:decide (c∈L)=false:=decide_eq_false fun m=>h (h2 c m)
  have b:p c=false:=by
   cases e:p c with
   |false=>rfl
   |true=>exact absurd (h3 c e) h
  rw[a,b]
theorem iG (c:Nat):decide (c∈eF)=Mo.isSmall c:=
 oM (by decide +kernel) (by decide +kernel) (fun c h=>by simp[Mo.isSmall]at h;omega) c
def dh (c:Nat):Bool:=Mo.isSmall c||(Mo.isDigit c||c==45)
theorem kF (c:Nat):decide (c∈mB)=dh c:=
 oM (by decide +kernel) (by decide +kernel) (fun c h=>by simp[dh,Mo.isSmall,Mo.isDigit]at h;omega) c
theorem ca (b:B):Mo.isName b=(decide (1<=b.length)&&(decide (b.length<=15)&&(Mo.isSmall (b.headD 0)&&b.all dh))):=rfl
def fix (c:Nat):Nat:=if c∈lSIGNS then c else 63
theorem gK (l:B):Mo.wordsOf l≠[]:=by
 cases l with
 |nil=>simp[Mo.wordsOf]
 |cons c r=>
  unfold Mo.wordsOf
  split
  ·simp
  ·split<;>simp
theorem ld:∀l:B,(Mo.wordsOf l).length<=l.length+1
 |[]=>by simp[Mo.wordsOf]
 |c :: r=>by
  have ih:=ld r
  unfold Mo.wordsOf
  split
  ·simp
   exact ih
  ·split
   ·simp
   ·rename_i w l e
    rw[e]at ih
    simp at ih ⊢
    omega
theorem fS:∀(l w:B),w∈Mo.wordsOf l->w.length<=l.length
 |[],w,h=>by
  simp[Mo.wordsOf]at h
  subst h
  simp
 |c :: r,w,h=>by
  unfold Mo.wordsOf at h
  split at h
  ·rcases List.mem_cons.mp h with e|e
   ·subst e;simp
   ·have:=fS r w e
    simp
    omega
  ·split at h
   ·simp at h
    subst h
    simp
   ·rename_i w' l e
    rcases List.mem_cons.mp h with z|z
    ·have:=fS r w' (by rw[e];simp)
     subst z
     simp
     omega
    ·have:=fS r w (by rw[e];simp[z])
     simp
     omega
theorem cf {α:Type}[DecidableEq α]:∀{l m:List α},l.Nodup->(∀x∈l,x∈m)->l.length<=m.length
 |[],m,_,_=>Nat.zero_le _
 |a :: r,m,nd,h=>by
  have nd':=List.nodup_cons.mp nd
  have ha:a∈m:=h a (by simp)
  have:r.length<=(m.erase a).length:=cf nd'.2 fun x hx=>by
   have hne:x≠a:=fun e=>nd'.1 (e▸hx)
   exact (List.mem_erase_of_ne hne).mpr (h x (by simp[hx]))
  rw[List.length_erase_of_mem ha]at this
  have:0<m.length:=List.length_pos_of_mem ha
  simp
  omega
def pk (b:B):B:=if b.head?=some 126 then b.tail else b
def aS (l:Mo.Lit):B:=if l.no=true then 126 :: l.atom else l.atom
theorem vI {b:B}(h:Mo.isName b=true):∃c r,b=c :: r/\Mo.isSmall c=true:=by
 cases b with
 |nil=>simp[Mo.isName]at h
 |cons c r=>
  rw[ca]at h
  simp only[Bool.and_eq_true]at h
  exact⟨c,r,rfl,h.2.2.1⟩
theorem cs {b:B}(h:Mo.isName b=true):¬b.head?=some 126:=by
 obtain⟨c,r,rfl,hc⟩:=vI h
 intro e
 have:c=126:=Option.some.inj e
 subst this
 revert hc
 decide
theorem qO {b:B}(h:Mo.isName b=true):b.length<=15:=by
 rw[ca]at h
 simp only[Bool.and_eq_true,decide_eq_true_eq]at h
 exact h.2.1
theorem jg {l m:Mo.Lit}(hl:Mo.isName l.atom=true)(hm:Mo.isName m.atom=true)(e:aS l=aS m):l=m:=by
 obtain⟨a,x⟩:=l
 obtain⟨b,y⟩:=m
 unfold aS at e
 cases x<;>cases y<;>simp only[if_true,if_false,Bool.false_eq_true]at e
 ·rw[e]
 ·exact absurd (by rw[e];rfl) (cs hl)
 ·exact absurd (by rw[<-e];rfl) (cs hm)
 ·rw[(List.cons.inj e).2]
theorem oS {l:Mo.Lit}(hl:Mo.isName l.atom=true):pk (aS l)=l.atom:=by
 obtain⟨a,x⟩:=l
 unfold pk aS
 cases x
 ·simp only[if_false,Bool.false_eq_true]
  rw[if_neg (cs hl)]
 ·simp
theorem tW {b:B}{l:Mo.Lit}(h:Mo.litOf b=some l):aS l=b/\Mo.isName l.atom=true:=by
 unfold Mo.litOf at h
 split at h
 ·rename_i r
  split at h
  ·rename_i hn
   cases h
   exact⟨by simp[aS],hn⟩
  ·cases h
 ·split at h
  ·rename_i hn
   cases h
   exact⟨by simp[aS],hn⟩
  ·cases h
theorem lC {l:Mo.Lit}(hl:Mo.isName l.atom=true):(aS l).length<=16:=by
 have:=qO hl
 unfold aS
 split<;>simp<;>omega
structure GoodR (r:Mo.Row):Prop where
 name:Mo.isName r.name=true
 body:∀l∈r.body,Mo.isName l.atom=true
 head:Mo.isName r.head.atom=true
 few:r.body.length<=6
theorem j5:∀{ls ms:List Mo.Lit},(∀l∈ls,Mo.isName l.atom=true)->(∀l∈ms,Mo.isName l.atom=true)->ls.map aS=ms.map aS->ls=ms
 |[],[],_,_,_=>rfl
 |[],_ :: _,_,_,h=>by simp at h
 |_ :: _,[],_,_,h=>by simp at h
 |l :: ls,m :: ms,hl,hm,h=>by
  rw[List.map_cons,List.map_cons]at h
  have h':=List.cons.inj h
  rw[jg (hl l (by simp)) (hm m (by simp)) h'.1,j5 (fun x hx=>hl x (by simp[hx])) (fun x hx=>hm x (by simp[hx])) h'.2]
theorem uw (b:B):(Mo.litOf b).isSome=if b.head?=some 126 then Mo.isName b.tail else Mo.isName b:=by
 unfold Mo.litOf
 split
 ·rename_i r
  simp
  split<;>simp_all
 ·rename_i h
  have:¬b.head?=some 126:=by
   intro e
   cases b with
   |nil=>cases e
   |cons c r=>
    simp at e
    subst e
    exact h r rfl
  rw[if_neg this]
  split<;>simp_all
def bd (t:B)(i:Nat):Nat:=i+((t.drop i).takeWhile (· != 10)).length
def a7:List B->Option (List B)
 |[]=>some []
 |[w]=>if (Mo.litOf w).isSome=true then some [w] else none
 |w :: x :: r=>if w.getLast?=some 44/\(Mo.litOf w.dropLast).isSome=true then (a7 (x :: r)).map (w.dropLast :: ·) else none
theorem kT {b:Bool}(h:(!b)=true):¬b=true:=by cases b<;>simp_all
theorem kQ {b:Bool}(h:¬(!b)=true):b=true:=by cases b<;>simp_all
def cF (arrow : B) (ws : List B) : Option (B × List B × B) :=
  if 4 ≤ ws.length ∧ ws.length ≤ 10 then
    if (ws.getD 1 []).getLast? = some 58 ∧ Mo.isName (ws.getD 1 []).dropLast = true then
      if ws.getD (ws.length - 2) [] = arrow ∧ (Mo.litOf (ws.getD (ws.length - 1) [])).isSome = true then
        (a7 ((ws.drop 2).take (ws.length - 4))).map fun ls => ((ws.getD 1 []).dropLast, ls, ws.getD (ws.length - 1) [])
      else none
    else none
  else none
def ia (ws:List B):Option (B×B):=
 if ws.length=4/\ws.getD 2 []=[62] then
  if Mo.isName (ws.getD 1 [])=true/\Mo.isName (ws.getD 3 [])=true then some (ws.getD 1 [],ws.getD 3 []) else none
 else none
end My
namespace My
open Mo
theorem md {c d:Nat}(hd:d∈lSIGNS)(h63:d≠63):fix c=d↔c=d:=by
 unfold fix
 split
 ·exact Iff.rfl
 ·rename_i h
  constructor
  ·intro e;exact absurd e.symm h63
  ·intro e;subst e;exact absurd hd h
theorem ze (c:Nat):dh (fix c)=dh c:=by
 unfold fix
 split
 ·rfl
 ·rename_i h
  have:¬c∈mB:=fun z=>h (List.mem_append.mpr (.inl z))
  have e:=kF c
  rw[decide_eq_false this]at e
  rw[<-e]
  decide +kernel
theorem uK (c:Nat):isSmall (fix c)=isSmall c:=by
 unfold fix
 split
 ·rfl
 ·rename_i h
  have:¬c∈eF:=fun z=>h (List.mem_append.mpr (.inl (List.mem_append.mpr (.inl z))))
  have e:=iG c
  rw[decide_eq_false this]at e
  rw[<-e]
  decide +kernel
theorem xg {b:B}(h:b.all dh=true):b.map fix=b:=by
 induction b with
 |nil=>rfl
 |cons c r ih=>
  rw[List.all_cons,Bool.and_eq_true]at h
  rw[List.map_cons,ih h.2]
  congr 1
  unfold fix
  rw[if_pos]
  have:=kF c
  rw[h.1]at this
  exact List.mem_append.mpr (.inl (of_decide_eq_true this))
theorem yt (b:B):(b.map fix).all dh=b.all dh:=by
 rw[List.all_map]
 congr 1
 funext c
 exact ze c
theorem gL (b:B):isName (b.map fix)=isName b:=by
 rw[ca,ca,List.length_map,yt]
 cases b with
 |nil=>rfl
 |cons c r=>simp only[List.map_cons,List.headD_cons,uK]
theorem d5 {b:B}(h:isName b=true):b.map fix=b:=by
 rw[ca]at h
 simp only[Bool.and_eq_true]at h
 exact xg h.2.2.2
theorem kr (b:B):litOf (b.map fix)=litOf b:=by
 cases b with
 |nil=>rfl
 |cons c r=>
  by_cases e:c=126
  ·subst e
   have h:fix 126=126:=by decide +kernel
   rw[List.map_cons,h]
   show (if isName (r.map fix)=true then some (Lit.mk (r.map fix) true) else none)=(if isName r=true then some (Lit.mk r true) else none)
   rw[gL]
   split
   ·rename_i hn;rw[d5 hn]
   ·rfl
  ·have e2:¬fix c=126:=fun z=>e ((md (by decide +kernel) (by decide)).mp z)
   have a:∀(d:Nat)(s:B),¬d=126->litOf (d :: s)=if isName (d :: s)=true then some ⟨d :: s,false⟩ else none:=by
    intro d s hd
    unfold litOf
    split
    ·rename_i h;cases h;exact absurd rfl hd
    ·rfl
   rw[List.map_cons,a _ _ e2,a _ _ e,<-List.map_cons,gL]
   split
   ·rename_i hn;rw[d5 hn]
   ·rfl
theorem nF:∀l:B,wordsOf (l.map fix)=(wordsOf l).map fun w=>w.map fix
 |[]=>rfl
 |c :: r=>by
  have ih:=nF r
  by_cases e:c=32
  ·subst e
   have h:fix 32=32:=by decide +kernel
   rw[List.map_cons,h]
   show [] :: wordsOf (r.map fix)=([] :: wordsOf r).map _
   rw[ih];rfl
  ·have e2:¬fix c=32:=fun z=>e ((md (by decide +kernel) (by decide)).mp z)
   have a:∀(d:Nat)(s:B),¬d=32->wordsOf (d :: s)=match wordsOf s with|[]=>[[d]]|w :: l=>(d :: w) :: l:=by
    intro d s hd
    conv=>lhs;unfold wordsOf
    rw[if_neg hd]
    rfl
   rw[List.map_cons,a _ _ e2,a _ _ e,ih]
   cases hw:wordsOf r with
   |nil=>rfl
   |cons w l=>rfl
theorem fG {b d:B}(hd:∀x∈d,x∈lSIGNS)(h63:¬63∈d):b.map fix=d↔b=d:=by
 induction b generalizing d with
 |nil=>simp
 |cons c r ih=>
  cases d with
  |nil=>simp
  |cons x s=>
   simp only[List.map_cons,List.cons.injEq]
   rw[md (hd x (by simp)) (fun e=>h63 (by simp[e])),ih (fun y hy=>hd y (by simp[hy])) (fun z=>h63 (by simp[z]))]
theorem qk {b:B}{x:Nat}(hx:x∈lSIGNS)(h63:x≠63):(b.map fix).getLast?=some x↔b.getLast?=some x:=by
 rw[List.getLast?_map]
 cases e:b.getLast? with
 |none=>simp
 |some y=>simp only[Option.map_some,Option.some.injEq];exact md hx h63
theorem mX {ar:B}(hd:∀x∈ar,x∈lSIGNS)(h63:¬63∈ar):∀r:List B,bodyIn ar (r.map fun w=>w.map fix)=bodyIn ar r
 |[]=>rfl
 |[w]=>rfl
 |[w,h]=>by
  have e:=fG (b:=w) hd h63
  simp only[List.map_cons,List.map_nil,bodyIn,kr]
  by_cases a:w=ar
  ·rw[if_pos (e.mpr a),if_pos a]
  ·rw[if_neg (fun z=>a (e.mp z)),if_neg a]
 |w :: x :: y :: r=>by
  have e:=fG (b:=x) hd h63
  have ih:=mX hd h63 (x :: y :: r)
  simp only[List.map_cons]at ih
  have unf:∀(w x y:B)(r:List B),bodyIn ar (w :: x :: y :: r)=if x=ar then (match y :: r with
   |[h]=>(match litOf w,litOf h with
    |some l,some m=>some ([l],m)
    |_,_=>none)
   |_=>none)
  else if w.getLast?=some 44 then (match litOf w.dropLast,bodyIn ar (x :: y :: r) with
   |some l,some z=>if z.1=[] then none else some (l :: z.1,z.2)
   |_,_=>none)
  else none:=fun _ _ _ _=>rfl
  simp only[List.map_cons]
  rw[unf,unf,ih]
  have ed:(w.map fix).dropLast=w.dropLast.map fix:=by rw[List.map_dropLast]
  by_cases a:x=ar
  ·rw[if_pos (e.mpr a),if_pos a]
   cases r with
   |nil=>simp only[List.map_nil,kr]
   |cons z r=>rfl
  ·rw[if_neg (fun z=>a (e.mp z)),if_neg a]
   have el:=qk (b:=w) (x:=44) (by decide +kernel) (by decide)
   by_cases b:w.getLast?=some 44
   ·rw[if_pos (el.mpr b),if_pos b,ed,kr]
   ·rw[if_neg (fun z=>b (el.mp z)),if_neg b]
theorem ot {ar:B}(hd:∀x∈ar,x∈lSIGNS)(h63:¬63∈ar)(n:B)(r:List B):rowIn ar (n.map fix) (r.map fun w=>w.map fix)=rowIn ar n r:=by
 have el:=qk (b:=n) (x:=58) (by decide +kernel) (by decide)
 have ed:(n.map fix).dropLast=n.dropLast.map fix:=by rw[List.map_dropLast]
 unfold rowIn
 rw[mX hd h63,ed,gL]
 by_cases h:n.getLast?=some 58/\isName n.dropLast=true
 ·rw[if_pos ⟨el.mpr h.1,h.2⟩,if_pos h,d5 h.2]
 ·rw[if_neg (fun z=>h ⟨el.mp z.1,z.2⟩),if_neg h]
theorem pL:ascii "law"=[108,97,119]:=by decide +kernel
theorem nw:ascii "rule"=[114,117,108,101]:=by decide +kernel
theorem lE:ascii "weigh"=[119,101,105,103,104]:=by decide +kernel
theorem mn:ascii "->"=[45,62]:=by decide +kernel
theorem mz:ascii "=>"=[61,62]:=by decide +kernel
def dc (ws:List B):Option Line:=match ws with
 |w :: n :: r=>if w=ascii "law" then (rowIn (ascii "->") n r).map Line.law else if w=ascii "rule" then (rowIn (ascii "=>") n r).map Line.rule
  else if w=ascii "weigh" then (match r with
   |[g,y]=>if g=[62]/\isName n=true/\isName y=true then some (.weigh n y) else none
   |_=>none)
  else none
 |_=>none
theorem vm (ws:List B):dc (ws.map fun w=>w.map fix)=dc ws:=by
 cases ws with
 |nil=>rfl
 |cons w s=>
  cases s with
  |nil=>rfl
  |cons n r=>
   simp only[List.map_cons,dc]
   have e1:=fG (b:=w) (d:=ascii "law") (by rw[pL];decide +kernel) (by rw[pL];decide +kernel)
   have e2:=fG (b:=w) (d:=ascii "rule") (by rw[nw];decide +kernel) (by rw[nw];decide +kernel)
   have e3:=fG (b:=w) (d:=ascii "weigh") (by rw[lE];decide +kernel) (by rw[lE];decide +kernel)
   rw[ot (by rw[mn];decide +kernel) (by rw[mn];decide +kernel),ot (by rw[mz];decide +kernel) (by rw[mz];decide +kernel)]
   simp only[e1,e2,e3]
   have e4:(match r.map (fun w=>w.map fix) with
     |[g,y]=>if g=[62]/\isName (n.map fix)=true/\isName y=true then some (Line.weigh (n.map fix) y) else none
     |_=>none)=(match r with
     |[g,y]=>if g=[62]/\isName n=true/\isName y=true then some (Line.weigh n y) else none
     |_=>none):=by
    match r with
    |[]=>rfl
    |[a]=>rfl
    |[g,y]=>
     simp only[List.map_cons,List.map_nil,gL]
     have e5:=fG (b:=g) (d:=[62]) (by decide +kernel) (by decide +kernel)
     by_cases h:g=[62]/\isName n=true/\isName y=true
     ·rw[if_pos ⟨e5.mpr h.1,h.2⟩,if_pos h,d5 h.2.1,d5 h.2.2]
     ·rw[if_neg (fun z=>h ⟨e5.mp z.1,z.2⟩),if_neg h]
    |a :: b :: c :: d=>rfl
   split
   ·rfl
   split
   ·rfl
   split
   ·exact e4
   ·rfl
theorem jx (b:B):lineIn b=dc (wordsOf (b.map fix)):=by rw[nF,vm];rfl
def gp (b:B):Lit:=(litOf b).getD ⟨[],false⟩
theorem j6 {b:B}(h:(litOf b).isSome=true):aS (gp b)=b/\isName (gp b).atom=true:=by
 obtain⟨l,e⟩:=Option.isSome_iff_exists.mp h
 have:=tW e
 unfold gp
 rw[e]
 exact this
theorem kW {b:B}(h:(litOf b).isSome=true):litOf b=some (gp b):=by
 obtain⟨l,e⟩:=Option.isSome_iff_exists.mp h
 unfold gp
 rw[e]
 rfl
theorem gI {b:B}(h:¬(litOf b).isSome=true):litOf b=none:=by
 cases e:litOf b with
 |none=>rfl
 |some l=>rw[e]at h;exact absurd rfl h
theorem gH:∀{ws ls:List B},a7 ws=some ls->ls.length=ws.length
 |[],ls,h=>by cases h;rfl
 |[w],ls,h=>by
  simp only[a7]at h
  split at h
  ·cases h;rfl
  ·cases h
 |w :: x :: r,ls,h=>by
  simp only[a7]at h
  split at h
  ·obtain⟨m,e,rfl⟩:=Option.map_eq_some_iff.mp h
   have:=gH e
   simp[this]
  ·cases h
theorem lq:∀{ws ls:List B},a7 ws=some ls->∀x∈ls,(litOf x).isSome=true
 |[],ls,h,x,hx=>by cases h;cases hx
 |[w],ls,h,x,hx=>by
  simp only[a7]at h
  split at h
  ·cases h
   simp at hx
   subst hx
   assumption
  ·cases h
 |w :: y :: r,ls,h,x,hx=>by
  simp only[a7]at h
  split at h
  ·rename_i hw
   obtain⟨m,e,rfl⟩:=Option.map_eq_some_iff.mp h
   rcases List.mem_cons.mp hx with z|z
   ·subst z;exact hw.2
   ·exact lq e x z
  ·cases h
theorem oB {ar:B}(h1:ar.getLast?≠some 44)(h2:litOf ar=none)(a h:B):∀b:List B,
  bodyIn ar (b++[a,h])=if a=ar/\(litOf h).isSome=true then (a7 b).map fun ls=>(ls.map gp,gp h) else none
 |[]=>by
  show (if a=ar then (litOf h).map fun l=>([],l) else none)=_
  by_cases e:a=ar
  ·rw[if_pos e]
   by_cases b:(litOf h).isSome=true
   ·rw[if_pos (And.intro e b),kW b];rfl
   ·rw[if_neg (fun z:a=ar/\(litOf h).isSome=true=>b z.2),gI b];rfl
  ·rw[if_neg e,if_neg (fun z:a=ar/\(litOf h).isSome=true=>e z.1)]
 |[w]=>by
  show (if a=ar then (match litOf w,litOf h with
    |some l,some m=>some ([l],m)
    |_,_=>none) else if w.getLast?=some 44 then (match litOf w.dropLast,bodyIn ar [a,h] with
   |some l,some z=>if z.1=[] then none else some (l :: z.1,z.2)
   |_,_=>none) else none)=_
  by_cases e:a=ar
  ·rw[if_pos e]
   by_cases b:(litOf h).isSome=true
   ·rw[if_pos (And.intro e b),kW b]
    simp only[a7]
    by_cases d:(litOf w).isSome=true
    ·rw[if_pos d,kW d];rfl
    ·rw[if_neg d,gI d];rfl
   ·rw[if_neg (fun z:a=ar/\(litOf h).isSome=true=>b z.2),gI b]
    cases litOf w<;>rfl
  ·rw[if_neg e,if_neg (fun z:a=ar/\(litOf h).isSome=true=>e z.1)]
   have:bodyIn ar [a,h]=none:=by
    show (if a=ar then (litOf h).map fun l=>([],l) else none)=_
    rw[if_neg e]
   rw[this]
   split
   ·cases litOf w.dropLast<;>rfl
   ·rfl
 |w :: x :: tl=>by
  have ih:=oB h1 h2 a h (x :: tl)
  obtain⟨y,z,r,hr⟩:∃y z r,tl++[a,h]=y :: z :: r:=by
   match tl with
   |[]=>exact⟨a,h,[],rfl⟩
   |[q]=>exact⟨q,a,[h],rfl⟩
   |q :: s :: u=>exact⟨q,s,u++[a,h],rfl⟩
  have unf:bodyIn ar (w :: x :: tl++[a,h])=if x=ar then none
  else if w.getLast?=some 44 then (match litOf w.dropLast,bodyIn ar (x :: tl++[a,h]) with
   |some l,some z=>if z.1=[] then none else some (l :: z.1,z.2)
   |_,_=>none)
  else none:=by
   rw[List.cons_append,List.cons_append,hr]
   rfl
  rw[unf,ih]
  by_cases e:x=ar
  ·rw[if_pos e]
   have bn:a7 (x :: tl)=none:=by
    subst e
    cases tl with
    |nil=>simp[a7,h2]
    |cons u v=>simp[a7,h1]
   have bn2:a7 (w :: x :: tl)=none:=by
    simp only[a7]
    rw[bn]
    split<;>rfl
   rw[bn2]
   split<;>rfl
  ·rw[if_neg e]
   by_cases c:a=ar/\(litOf h).isSome=true
   ·rw[if_pos c,if_pos c]
    simp only[a7]
    by_cases d:w.getLast?=some 44
    ·rw[if_pos d]
     by_cases e:(litOf w.dropLast).isSome=true
     ·rw[if_pos (And.intro d e),kW e]
      cases hb:a7 (x :: tl) with
      |none=>rfl
      |some ls=>
       have:=gH hb
       have hne:ls.map gp≠[]:=by
        intro z
        have:=congrArg List.length z
        simp at this
        subst this
        simp at *
       simp only[Option.map_some]
       rw[if_neg hne]
       rfl
     ·rw[if_neg (fun z:w.getLast?=some 44/\(litOf w.dropLast).isSome=true=>e z.2),gI e]
      rfl
    ·rw[if_neg d,if_neg (fun z:w.getLast?=some 44/\(litOf w.dropLast).isSome=true=>d z.1)]
     rfl
   ·rw[if_neg c,if_neg c]
    split
    ·cases litOf w.dropLast<;>rfl
    ·rfl
def kJ (x:B×List B×B):Row:=⟨x.1,x.2.1.map gp,gp x.2.2⟩
theorem vK:∀(r:List B),2<=r.length->r=r.take (r.length-2)++[r.getD (r.length-2) [],r.getD (r.length-1) []]
 |[],h=>by simp at h
 |[a],h=>by simp at h
 |[a,b],_=>rfl
 |a :: b :: c :: r,_=>by
  have ih:=vK (b :: c :: r) (by simp)
  have g2:(a :: b :: c :: r).length-2=((b :: c :: r).length-2)+1:=by simp
  have g1:(a :: b :: c :: r).length-1=((b :: c :: r).length-1)+1:=by simp
  rw[g2,g1,List.take_succ_cons,List.getD_cons_succ,List.getD_cons_succ,List.cons_append,<-ih]
theorem mh {ar:B}(h1:ar.getLast?≠some 44)(h2:litOf ar=none)(w n:B)(r:List B):(cF ar (w :: n :: r)).map kJ=rowIn ar n r:=by
 unfold cF rowIn
 have l0:(w :: n :: r).length=r.length+2:=by simp
 have d1:(w :: n :: r).getD 1 []=n:=rfl
 rw[l0,d1]
 by_cases hn:n.getLast?=some 58/\isName n.dropLast=true
 ·rw[if_pos hn,if_pos hn]
  by_cases h3:2<=r.length
  ·have e1:(w :: n :: r).getD (r.length+2-2) []=r.getD (r.length-2) []:=by
    have:r.length+2-2=(r.length-2)+1+1:=by omega
    rw[this];rfl
   have e2:(w :: n :: r).getD (r.length+2-1) []=r.getD (r.length-1) []:=by
    have:r.length+2-1=(r.length-1)+1+1:=by omega
    rw[this];rfl
   have e3:((w :: n :: r).drop 2).take (r.length+2-4)=r.take (r.length-2):=by
    have:r.length+2-4=r.length-2:=by omega
    rw[this];rfl
   have eb:=oB h1 h2 (r.getD (r.length-2) []) (r.getD (r.length-1) []) (r.take (r.length-2))
   rw[<-vK r h3]at eb
   rw[e1,e2,e3,eb]
   by_cases h4:r.getD (r.length-2) []=ar/\(litOf (r.getD (r.length-1) [])).isSome=true
   ·rw[if_pos h4,if_pos h4]
    cases hb:a7 (r.take (r.length-2)) with
    |none=>
     split<;>rfl
    |some ls=>
     have:=gH hb
     rw[List.length_take]at this
     simp only[Option.map_some,Option.bind_some,List.length_map]
     have hB:BODY=6:=rfl
     by_cases h5:ls.length<=BODY
     ·rw[if_pos h5,if_pos (by omega)];rfl
     ·rw[if_neg h5,if_neg (by omega)];rfl
   ·rw[if_neg h4,if_neg h4]
    split<;>rfl
  ·have:bodyIn ar r=none:=by
    match r,h3 with
    |[],_=>rfl
    |[a],_=>rfl
    |a :: b :: c,h3=>exact absurd (by simp) h3
   rw[this,if_neg (by omega)]
   rfl
 ·rw[if_neg hn,if_neg hn]
  split<;>rfl
theorem lc {ar n h:B}{ws ls:List B}(e:cF ar ws=some (n,ls,h)):GoodR (kJ (n,ls,h))/\ls=(kJ (n,ls,h)).body.map aS/\h=aS (kJ (n,ls,h)).head:=by
 unfold cF at e
 split at e
 ·rename_i h1
  split at e
  ·rename_i h2
   split at e
   ·rename_i h3
    obtain⟨m,hb,z⟩:=Option.map_eq_some_iff.mp e
    cases z
    have hl:=lq hb
    have hlen:=gH hb
    rw[List.length_take,List.length_drop]at hlen
    have hh:=j6 h3.2
    refine⟨⟨h2.2,?_,hh.2,?_⟩,?_,hh.1.symm⟩
    ·intro l hl'
     obtain⟨x,hx,rfl⟩:=List.mem_map.mp hl'
     exact (j6 (hl x hx)).2
    ·show (ls.map gp).length<=6
     rw[List.length_map];omega
    ·show ls=(ls.map gp).map aS
     rw[List.map_map]
     conv=>lhs;rw[<-List.map_id ls]
     exact List.map_congr_left fun x hx=>(j6 (hl x hx)).1.symm
   ·cases e
  ·cases e
 ·cases e
theorem fg {ar:B}{ws:List B}(h:ws.length<2):cF ar ws=none:=by
 unfold cF
 rw[if_neg (by omega)]
theorem vk {ws:List B} (h:ws.getD 0 []=ascii "law"):dc ws=(cF (ascii "->") ws).map fun x=>Line.law (kJ x):=by
 match ws,h with
 |[],h=>rw[fg (by simp)];rfl
 |[w],h=>rw[fg (by simp)];rfl
 |w :: n :: r,h=>
  have h:w=ascii "law":=h
  have e:=mh (ar:=ascii "->") (by rw[mn];decide) (by rw[mn];decide +kernel) w n r
  simp only[dc]
  rw[if_pos h,<-e,Option.map_map]
  rfl
theorem sZ {ws:List B} (h0:¬ws.getD 0 []=ascii "law") (h:ws.getD 0 []=ascii "rule"):dc ws=(cF (ascii "=>") ws).map fun x=>Line.rule (kJ x):=by
 match ws,h with
 |[],h=>rw[fg (by simp)];rfl
 |[w],h=>rw[fg (by simp)];rfl
 |w :: n :: r,h=>
  have h:w=ascii "rule":=h
  have h0:¬w=ascii "law":=h0
  have e:=mh (ar:=ascii "=>") (by rw[mz];decide) (by rw[mz];decide +kernel) w n r
  simp only[dc]
  rw[if_neg h0,if_pos h,<-e,Option.map_map]
  rfl
theorem rh {ws:List B} (h0:¬ws.getD 0 []=ascii "law") (h1:¬ws.getD 0 []=ascii "rule") (h:ws.getD 0 []=ascii "weigh"):dc ws=(ia ws).map fun x=>Line.weigh x.1 x.2:=by
 match ws,h with
 |[],h=>rfl
 |[w],h=>rfl
 |w :: n :: r,h=>
  have h:w=ascii "weigh":=h
  have h0:¬w=ascii "law":=h0
  have h1:¬w=ascii "rule":=h1
  simp only[dc]
  rw[if_neg h0,if_neg h1,if_pos h]
  unfold ia
  match r with
  |[]=>rfl
  |[a]=>rfl
  |[g,y]=>
   by_cases a:g=[62]
   ·by_cases b:isName n=true/\isName y=true
    ·simp[a,b]
    ·simp[a,b]
   ·simp[a]
  |a :: b :: c :: d=>
   simp
theorem tF {ws:List B} (h0:¬ws.getD 0 []=ascii "law") (h1:¬ws.getD 0 []=ascii "rule") (h2:¬ws.getD 0 []=ascii "weigh"):dc ws=none:=by
 match ws with
 |[]=>rfl
 |[w]=>rfl
 |w :: n :: r=>
  have h0:¬w=ascii "law":=h0
  have h1:¬w=ascii "rule":=h1
  have h2:¬w=ascii "weigh":=h2
  simp only[dc]
  rw[if_neg h0,if_neg h1,if_neg h2]
def dP (c:Case)(t:B):Option Case:=match readFrom c 0 (linesOf t).1 with
 |.error _=>none
 |.ok x=>if (linesOf t).2=[] then some x.1 else none
def okC:Except Fault (Case×Nat)->Option Case
 |.error _=>none
 |.ok x=>some x.1
theorem iZ:∀(ls:List B)(c:Case)(p q:Nat),okC (readFrom c p ls)=okC (readFrom c q ls)
 |[],c,p,q=>rfl
 |b :: r,c,p,q=>by
  unfold readFrom
  cases lineIn b with
  |none=>rfl
  |some l=>
   simp only
   cases wrong c l with
   |some k=>rfl
   |none=>exact iZ r _ _ _
theorem lG (c:Case)(t:B):dP c t=if (linesOf t).2=[] then okC (readFrom c 0 (linesOf t).1) else none:=by
 unfold dP
 cases readFrom c 0 (linesOf t).1 with
 |error e=>simp[okC]
 |ok x=>simp[okC]
theorem g9 (c:Nat)(r:B):linesOf (c :: r)=if c=10 then ([] :: (linesOf r).1,(linesOf r).2) else match (linesOf r).1 with
   |[]=>([],c :: (linesOf r).2)
   |l :: m=>((c :: l) :: m,(linesOf r).2):=rfl
theorem mt:∀(l rest:B),¬10∈l->linesOf (l++10 :: rest)=(l :: (linesOf rest).1,(linesOf rest).2)
 |[],rest,_=>by
  show linesOf (10 :: rest)=_
  rw[g9,if_pos rfl]
 |c :: l,rest,h=>by
  have ih:=mt l rest (fun z=>h (by simp[z]))
  have hc:¬c=10:=fun z=>h (by simp[z])
  rw[List.cons_append,g9,if_neg hc,ih]
theorem mF:∀(l:B),¬10∈l->linesOf l=([],l)
 |[],_=>rfl
 |c :: l,h=>by
  have ih:=mF l (fun z=>h (by simp[z]))
  have hc:¬c=10:=fun z=>h (by simp[z])
  rw[g9,if_neg hc,ih]
theorem uQ (c:Case):dP c []=some c:=rfl
theorem sO (c:Case){l:B}(h:¬10∈l)(hn:l≠[]):dP c l=none:=by
 rw[lG,mF l h]
 simp[hn]
theorem js (c:Case){l rest:B}(h:¬10∈l):dP c (l++10 :: rest)=match lineIn l with
  |none=>none
  |some x=>match wrong c x with
   |some _=>none
   |none=>dP (c.add x) rest:=by
 rw[lG,mt l rest h]
 simp only
 cases e:lineIn l with
 |none=>
  simp only
  have:okC (readFrom c 0 (l :: (linesOf rest).1))=none:=by
   unfold readFrom
   rw[e]
   rfl
  rw[this]
  split<;>rfl
 |some x=>
  simp only
  cases e2:wrong c x with
  |some k=>
   simp only
   have:okC (readFrom c 0 (l :: (linesOf rest).1))=none:=by
    unfold readFrom
    rw[e]
    simp only
    rw[e2]
    rfl
   rw[this]
   split<;>rfl
  |none=>
   simp only
   have:okC (readFrom c 0 (l :: (linesOf rest).1))=okC (readFrom (c.add x) 0 (linesOf rest).1):=by
    conv=>lhs;unfold readFrom
    rw[e]
    simp only
    rw[e2]
    exact iZ _ _ _ _
   rw[this,lG]
theorem lf (t:B):(∃f,caseIn t=.error f/\dP Case.none_ t=none)∨∃c,caseIn t=.ok c.form/\dP Case.none_ t=some c:=by
 unfold caseIn readBehind dP
 cases e:readFrom Case.none_ 0 (linesOf t).1 with
 |error f=>exact .inl ⟨f,by simp only[e];rfl,rfl⟩
 |ok x=>
  simp only[e]
  by_cases h:(linesOf t).2=[]
  ·rw[if_pos h,if_pos h]
   exact .inr ⟨x.1,rfl,rfl⟩
  ·rw[if_neg h,if_neg h]
   exact .inl ⟨_,rfl,rfl⟩
theorem tz (t:B)(i:Nat)(h:i<t.length):(bd t i=t.length/\¬10∈t.drop i)∨(bd t i<t.length/\t.drop i=(t.drop i).take (bd t i-i)++10 :: t.drop (bd t i+1)/\¬10∈(t.drop i).take (bd t i-i)):=by
 unfold bd
 have key:∀l:B,((l.takeWhile (· != 10)).length=l.length/\¬10∈l)∨((l.takeWhile (· != 10)).length<l.length/\l=l.take (l.takeWhile (· != 10)).length++10 :: l.drop ((l.takeWhile (· != 10)).length+1)/\¬10∈l.take (l.takeWhile (· != 10)).length):=by
  intro l
  induction l with
  |nil=>exact .inl ⟨rfl,by simp⟩
  |cons c r ih=>
   by_cases e:c=10
   ·subst e
    exact .inr ⟨by simp,by simp,by simp⟩
   ·have hb:(c != 10)=true:=by simpa using e
    rw[List.takeWhile_cons,if_pos hb]
    rcases ih with ⟨h1,h2⟩|⟨h1,h2,h3⟩
    ·exact .inl ⟨by simp[h1],by simp[h2];exact fun z=>e z.symm⟩
    ·refine .inr ⟨by simpa using h1,?_,?_⟩
     ·rw[List.length_cons,List.take_succ_cons,List.cons_append,List.drop_succ_cons,<-h2]
     ·rw[List.length_cons,List.take_succ_cons]
      simp only[List.mem_cons,not_or]
      exact⟨fun z=>e z.symm,h3⟩
 rcases key (t.drop i) with ⟨h1,h2⟩|⟨h1,h2,h3⟩
 ·left
  rw[h1,List.length_drop]
  exact⟨by omega,h2⟩
 ·right
  rw[List.length_drop]at h1
  rw[Nat.add_sub_cancel_left]
  refine⟨by omega,?_,h3⟩
  rw[List.drop_drop]at h2
  exact h2
theorem i3 {α:Type}[DecidableEq α]{l m:List α}(hl:l.Nodup)(hm:m.Nodup)(h:∀x,x∈l↔x∈m):l.length=m.length:=
 Nat.le_antisymm (cf hl fun x hx=>(h x).mp hx) (cf hm fun x hx=>(h x).mpr hx)
structure GoodC (c:Case):Prop where
 rows:∀r,r∈c.laws∨r∈c.rules->GoodR r
 nd:c.names.Nodup
 nr:goesRound c.weighs=false
 wr:∀p∈c.weighs,p.1∈c.rules.map Row.name/\p.2∈c.rules.map Row.name
 nl:c.laws.length<=64
 nu:c.rules.length<=10
 na:c.atoms.length<=64
theorem vY:GoodC Case.none_:=⟨(by rintro r (h|h)<;>cases h),List.nodup_nil,rfl,(fun p h=>by cases h),by decide,by decide,by decide⟩
theorem eR (c:Case)(n:B):c.names.contains n=true↔n∈c.laws.map Row.name∨n∈c.rules.map Row.name:=by
 unfold Case.names
 rw[List.contains_iff_mem,List.map_append,List.mem_append]
theorem sw {c:Case}{r:Row}{x:B}:x∈b7 (c.add (.law r))↔x∈b7 c∨x∈r.atoms:=by
 simp only[b7,Case.add,List.mem_append,List.mem_flatMap,List.mem_map,List.mem_singleton]
 constructor
 ·rintro (⟨y,(h|h)|h,hx⟩|h)
  ·exact .inl (.inl ⟨y,.inl h,hx⟩)
  ·subst h;exact .inr hx
  ·exact .inl (.inl ⟨y,.inr h,hx⟩)
  ·exact .inl (.inr h)
 ·rintro ((⟨y,h|h,hx⟩|h)|h)
  ·exact .inl ⟨y,.inl (.inl h),hx⟩
  ·exact .inl ⟨y,.inr h,hx⟩
  ·exact .inr h
  ·exact .inl ⟨r,.inl (.inr rfl),h⟩
theorem qW {c:Case}{r:Row}{x:B}:x∈b7 (c.add (.rule r))↔x∈b7 c∨x∈r.atoms∨x=r.name:=by
 simp only[b7,Case.add,List.mem_append,List.mem_flatMap,List.mem_map,List.mem_singleton]
 constructor
 ·rintro (⟨y,h|(h|h),hx⟩|⟨y,h|h,hx⟩)
  ·exact .inl (.inl ⟨y,.inl h,hx⟩)
  ·exact .inl (.inl ⟨y,.inr h,hx⟩)
  ·subst h;exact .inr (.inl hx)
  ·exact .inl (.inr ⟨y,h,hx⟩)
  ·subst h;exact .inr (.inr hx.symm)
 ·rintro ((⟨y,h|h,hx⟩|⟨y,h,hx⟩)|(h|h))
  ·exact .inl ⟨y,.inl h,hx⟩
  ·exact .inl ⟨y,.inr (.inl h),hx⟩
  ·exact .inr ⟨y,.inl h,hx⟩
  ·exact .inl ⟨r,.inr (.inr rfl),h⟩
  ·exact .inr ⟨r,.inr rfl,h.symm⟩
theorem wO {c:Case}{r:Row}(g:GoodC c)(gr:GoodR r)(h:wrong c (.law r)=none):GoodC (c.add (.law r)):=by
 simp only[wrong]at h
 split at h
 ·cases h
 rename_i h1
 split at h
 ·cases h
 split at h
 ·cases h
 rename_i h3
 have hn:¬r.name∈c.names:=by simpa using h1
 simp only[LAWS,ATOMS,not_or,Nat.not_lt]at h3
 refine⟨?_,?_,g.nr,g.wr,h3.1,g.nu,h3.2⟩
 ·intro s hs
  simp only[Case.add,List.mem_append,List.mem_singleton]at hs
  rcases hs with (hs|hs)|hs
  ·exact g.rows s (.inl hs)
  ·subst hs;exact gr
  ·exact g.rows s (.inr hs)
 ·have nd:=g.nd
  simp only[Case.names,Case.add,List.map_append,List.map_cons,List.map_nil]at nd hn ⊢
  rw[List.append_assoc]
  refine (List.perm_middle.symm.nodup_iff).mp ?_
  exact List.nodup_cons.mpr ⟨by simpa using hn,nd⟩
theorem vT {c:Case}{r:Row}(g:GoodC c)(gr:GoodR r)(h:wrong c (.rule r)=none):GoodC (c.add (.rule r)):=by
 simp only[wrong]at h
 split at h
 ·cases h
 rename_i h1
 split at h
 ·cases h
 split at h
 ·cases h
 rename_i h3
 have hn:¬r.name∈c.names:=by simpa using h1
 simp only[RULES,ATOMS,not_or,Nat.not_lt]at h3
 refine⟨?_,?_,g.nr,?_,g.nl,h3.1,h3.2⟩
 ·intro s hs
  simp only[Case.add,List.mem_append,List.mem_singleton]at hs
  rcases hs with hs|(hs|hs)
  ·exact g.rows s (.inl hs)
  ·exact g.rows s (.inr hs)
  ·subst hs;exact gr
 ·have nd:=g.nd
  simp only[Case.names,Case.add,List.map_append,List.map_cons,List.map_nil]at nd hn ⊢
  rw[<-List.append_assoc]
  refine (List.perm_middle.symm.nodup_iff).mp ?_
  rw[List.append_nil]
  exact List.nodup_cons.mpr ⟨by simpa using hn,nd⟩
 ·intro p hp
  have:=g.wr p hp
  simp only[Case.add,List.map_append,List.mem_append]
  exact⟨.inl this.1,.inl this.2⟩
theorem iI {c:Case}{n:B}:(c.ruleNo n).isNone=true↔¬n∈c.rules.map Row.name:=by
 unfold Case.ruleNo
 rw[Option.isNone_iff_eq_none,List.findIdx?_eq_none_iff]
 simp only[List.mem_map,not_exists,not_and]
 constructor
 ·intro h r hr e
  have:=h r hr
  simp[e]at this
 ·intro h r hr
  have:=h r hr
  simpa using this
theorem ub {c:Case}{x y:B}(g:GoodC c)(h:wrong c (.weigh x y)=none):GoodC (c.add (.weigh x y)):=by
 simp only[wrong]at h
 split at h
 ·cases h
 rename_i h1
 split at h
 ·cases h
 rename_i h2
 rw[not_or,iI,iI,Decidable.not_not,Decidable.not_not]at h1
 refine⟨g.rows,g.nd,(by show goesRound (c.weighs++[(x,y)])=false;simpa using h2),?_,g.nl,g.nu,g.na⟩
 intro p hp
 rcases List.mem_append.mp hp with hp|hp
 ·exact g.wr p hp
 ·simp at hp
  subst hp
  exact h1
def cY (l:List Row):List (List Lit×Lit):=l.map fun r=>(r.body,r.head)
theorem qA (c:Case):bZ c 0=cY c.laws:=by
 unfold bZ
 have:(c.rules.zipIdx.filter fun x=>held 0 x.2)=[]:=by
  rw[List.filter_eq_nil_iff]
  intro x _
  rw[bh]
  decide
 rw[this]
 simp[cY]
theorem tu {c:Case}:c.numbered.clash 0=true↔∃a,Dr (cY c.laws) ⟨a,false⟩/\Dr (cY c.laws) ⟨a,true⟩:=by
 rw[nS,qA]
 constructor
 ·rintro⟨a,_,h⟩;exact⟨a,h⟩
 ·rintro⟨a,h1,h2⟩
  refine⟨a,?_,h1,h2⟩
  have:=h1.head
  simp only[cY,List.map_map,List.mem_map]at this
  obtain⟨r,hr,e⟩:=this
  have:=(cB (c:=c) (.inl hr)).2
  have e:r.head=⟨a,false⟩:=e
  rw[e]at this
  exact this
def cJ (l:List Row):List (List B×B):=l.map fun r=>(r.body.map aS,aS r.head)
theorem jl {l:List Row}(g:∀r∈l,GoodR r){x:Lit}(hx:isName x.atom=true):Dr (cJ l) (aS x)↔Dr (cY l) x:=by
 have:=pC (S:=cY l) (f:=aS) (fun x=>isName x.atom=true) (fun r hr=>by
  obtain⟨s,hs,rfl⟩:=List.mem_map.mp hr
  exact⟨(g s hs).body,(g s hs).head⟩) (fun x y hx hy e=>jg hx hy e) hx
 rw[<-this]
 unfold cJ cY
 rw[List.map_map]
 rfl
theorem uc {l:List Row}(g:∀r∈l,GoodR r):(∃t,Dr (cJ l) t/\Dr (cJ l) (126 :: t))↔∃a,Dr (cY l) ⟨a,false⟩/\Dr (cY l) ⟨a,true⟩:=by
 have hd:∀t,Dr (cJ l) t->∃x:Lit,isName x.atom=true/\t=aS x:=by
  intro t h
  have:=h.head
  simp only[cJ,List.map_map,List.mem_map]at this
  obtain⟨r,hr,e⟩:=this
  exact⟨r.head,(g r hr).head,e.symm⟩
 constructor
 ·rintro⟨t,h1,h2⟩
  obtain⟨x,hx,rfl⟩:=hd t h1
  obtain⟨y,hy,e⟩:=hd _ h2
  have hxn:x.no=false:=by
   cases e2:x.no with
   |false=>rfl
   |true=>
    exfalso
    have:aS x=126 :: x.atom:=by unfold aS;rw[if_pos e2]
    rw[this]at e
    unfold aS at e
    split at e
    ·have e:=(List.cons.inj e).2
     exact cs hy (by rw[<-e];rfl)
    ·exact cs hy (by rw[<-e];rfl)
  have ex:aS x=x.atom:=by unfold aS;rw[hxn];simp
  have e2:(126 :: aS x)=aS ⟨x.atom,true⟩:=by rw[ex];simp[aS]
  rw[e2]at h2
  obtain⟨a,b⟩:=x
  cases hxn
  exact⟨a,(jl g hx).mp h1,(jl (x:=⟨a,true⟩) g hx).mp h2⟩
 ·rintro⟨a,h1,h2⟩
  have hn:isName a=true:=by
   have:=h1.head
   simp only[cY,List.map_map,List.mem_map]at this
   obtain⟨r,hr,e⟩:=this
   have e:r.head=⟨a,false⟩:=e
   have:=(g r hr).head
   rw[e]at this
   exact this
  refine⟨a,?_,?_⟩
  ·have:=(jl (x:=⟨a,false⟩) g hn).mpr h1
   simpa[aS] using this
  ·have:=(jl (x:=⟨a,true⟩) g hn).mpr h2
   simpa[aS] using this
theorem nT {c:Case}(g:GoodC c):bv Row.name c.form.laws/\c.form.laws.Perm c.laws:=by
 have:=fK c.laws [] (by simp[bv]) (by
  have nd:=g.nd
  unfold Case.names at nd
  rw[List.map_append]at nd
  rw[List.append_nil]
  exact (List.nodup_append.mp nd).1)
 rw[List.append_nil]at this
 exact this
theorem mE {c:Case}(g:GoodC c):bv Row.name c.form.rules/\c.form.rules.Perm c.rules:=by
 have:=fK c.rules [] (by simp[bv]) (by
  have nd:=g.nd
  unfold Case.names at nd
  rw[List.map_append]at nd
  rw[List.append_nil]
  exact (List.nodup_append.mp nd).2.1)
 rw[List.append_nil]at this
 exact this
theorem ui {c:Case}(g:GoodC c):c.form.atoms=c.atoms:=by
 refine gM (e8 _) (e8 _) fun x=>?_
 rw[mem_atoms,mem_atoms]
 have p1:=(nT g).2
 have p2:=(mE g).2
 unfold b7
 simp only[List.mem_append,List.mem_flatMap,List.mem_map,p1.mem_iff,p2.mem_iff]
theorem mM {α:Type}{f:α->B}{l:List α}(h:bv f l):bv id (l.map f):=List.pairwise_map.mpr h
theorem il {l:List B}{m:List Row}(hl:bv id l)(hm:bv Row.name m)(h:∀x,x∈l↔x∈m.map Row.name):l=m.map Row.name:=gM hl (mM hm) h
structure PS where
 kind:Nat
 number:Nat
 body:List Nat
 lit:Nat
def nums (c:Case)(r:Row):List Nat:=r.body.map (c.lit c.atoms)
def members (c:Case)(S:Nat):List Nat:=membersOf c.rules.length S
def jk (c:Case)(n:Nat):PS:=⟨0,n,[],c.lit c.atoms ⟨(c.rules.getD n ⟨[],[],⟨[],false⟩⟩).name,false⟩⟩
def jy (c:Case)(n:Nat):PS:=let r:=c.laws.getD n ⟨[],[],⟨[],false⟩⟩;⟨1,n,nums c r,c.lit c.atoms r.head⟩
def jw (c:Case)(n:Nat):PS:=let r:=c.rules.getD n ⟨[],[],⟨[],false⟩⟩;⟨2,n,nums c r,c.lit c.atoms r.head⟩
def aq (c:Case)(S:Nat):List PS:=(members c S).map (jk c)++((List.range c.laws.length).map (jy c)++(members c S).map (jw c))
def fY (p:PS):Step:=⟨p.kind,p.number⟩
theorem kf (c:Case)(S:Nat):c.numbered.steps S=(aq c S).map fY:=by
 unfold Numbered.steps aq members membersOf
 rw[cj]
 simp only[List.length_map,List.map_append,List.map_map]
 rfl
def bg (l:List Nat):Nat:=l.foldl (fun m i=>with_ m i) 0
theorem aY (l:List Nat)(i:Nat):held (bg l) i=true↔i∈l:=by
 unfold bg
 rw[ck (f:=fun i=>i),bh,Bool.false_or,List.any_eq_true]
 constructor
 ·rintro⟨x,hx,e⟩
  have e:=of_decide_eq_true e
  subst e;exact hx
 ·intro h;exact⟨i,h,decide_eq_true rfl⟩
theorem dl (c:Case)(r:Row):dg c c.atoms r=bg (nums c r):=by
 refine bF fun i=>Bool.eq_iff_iff.mpr ?_
 rw[dj,aY]
 rfl
theorem lU {c:Case}{S:Nat}{p:PS}(h:p∈aq c S):c.numbered.yields S (fY p)=some (p.lit,bg p.body):=by
 unfold aq at h
 simp only[List.mem_append,List.mem_map,members,mem_members,List.mem_range]at h
 unfold Numbered.yields
 rcases h with ⟨n,⟨h1,h2⟩,rfl⟩|⟨n,h1,rfl⟩|⟨n,⟨h1,h2⟩,rfl⟩
 ·simp only[fY,jk,cj,h2,if_true,List.getElem?_map,List.getElem?_eq_getElem h1,Option.map_some]
  simp[h1,bg]
 ·simp only[fY,jy,cj,List.getElem?_map,List.getElem?_eq_getElem h1,Option.map_some]
  simp[h1,dl]
 ·simp only[fY,jw,cj,h2,if_true,List.getElem?_map,List.getElem?_eq_getElem h1,Option.map_some]
  simp[h1,dl]
def aE (P:List PS):Nat->Nat->Bool
 |0,_=>false
 |n+1,l=>aE P n l||P.any fun s=>decide (s.lit=l)&&s.body.all (aE P n)
theorem cA (P:List PS)(n l:Nat):aE P (n+1) l=(aE P n l||P.any fun s=>decide (s.lit=l)&&s.body.all (aE P n)):=rfl
theorem gf {P:List PS}{n m l:Nat}(h:aE P n l=true)(hm:n<=m):aE P m l=true:=by
 induction m with
 |zero=>
  have:n=0:=by omega
  subst this;exact h
 |succ m ih=>
  by_cases e:n=m+1
  ·subst e;exact h
  ·rw[cA,ih (by omega)];rfl
def IsRN (P:List PS)(l n:Nat):Prop:=aE P n l=true/\∀m,m<n->aE P m l=false
theorem IsRN.uniq {P:List PS}{l m n:Nat}(a:IsRN P l m)(b:IsRN P l n):m=n:=by
 rcases Nat.lt_trichotomy m n with h|h|h
 ·have:=b.2 m h;rw[a.1]at this;cases this
 ·exact h
 ·have:=a.2 n h;rw[b.1]at this;cases this
theorem IsRN.of {P:List PS}{l n:Nat}(h:aE P n l=true):∃m,m<=n/\IsRN P l m:=by
 induction n with
 |zero=>cases h
 |succ n ih=>
  cases e:aE P n l with
  |true=>
   obtain⟨m,h1,h2⟩:=ih e
   exact⟨m,by omega,h2⟩
  |false=>
   refine⟨n+1,Nat.le_refl _,h,fun m hm=>?_⟩
   cases e2:aE P m l with
   |false=>rfl
   |true=>rw[gf e2 (by omega)]at e;cases e
theorem IsRN.pos {P:List PS}{l n:Nat}(h:IsRN P l n):1<=n:=by
 cases n with
 |zero=>cases h.1
 |succ n=>omega
def ip (k:Numbered)(S R:Nat):Nat:=(k.steps S).foldl (fun (m:Nat) (x:Step)=>match k.yields S x with
   |some (h,b)=>if within b R=true then with_ m h else m
   |none=>m) R
theorem uh {c:Case}{S R n:Nat}(hR:∀l,held R l=aE (aq c S) n l)(l:Nat):held (ip c.numbered S R) l=aE (aq c S) (n+1) l:=by
 have gen:∀(P:List PS)(m:Nat),(∀p∈P,p∈aq c S)->held ((P.map fY).foldl (fun (m:Nat) (x:Step)=>match c.numbered.yields S x with
   |some (h,b)=>if within b R=true then with_ m h else m
   |none=>m) m) l=(held m l||P.any fun s=>decide (s.lit=l)&&s.body.all (aE (aq c S) n)):=by
  intro P
  induction P with
  |nil=>intro m _;simp
  |cons p P ih=>
   intro m hP
   rw[List.map_cons,List.foldl_cons,ih _ (fun q hq=>hP q (by simp[hq])),lU (hP p (by simp)),List.any_cons,<-Bool.or_assoc]
   congr 1
   have hw:within (bg p.body) R=p.body.all (aE (aq c S) n):=by
    rw[Bool.eq_iff_iff,ax,List.all_eq_true]
    constructor
    ·intro h x hx
     rw[<-hR];exact h x ((aY _ _).mpr hx)
    ·intro h x hx
     rw[hR];exact h x ((aY _ _).mp hx)
   simp only[hw]
   cases p.body.all (aE (aq c S) n) with
   |false=>simp
   |true=>simp[bG]
 unfold ip
 rw[kf,gen _ _ (fun _ h=>h),hR,cA]
def bD (c:Case)(S:Nat):Nat->Nat
 |0=>0
 |n+1=>ip c.numbered S (bD c S n)
theorem cO (c:Case)(S:Nat):∀n l,held (bD c S n) l=aE (aq c S) n l
 |0,l=>bh l
 |n+1,l=>uh (cO c S n) l
theorem o5 (k:Numbered)(S f R:Nat):k.roundsFrom S (f+1) R=if ip k S R=R then [] else ip k S R :: k.roundsFrom S f (ip k S R):=rfl
theorem pG {c:Case}{S:Nat}{p:PS}(h:p∈aq c S):p.lit<2*c.atoms.length:=by
 unfold aq at h
 simp only[List.mem_append,List.mem_map,members,mem_members,List.mem_range]at h
 rcases h with ⟨n,⟨h1,h2⟩,rfl⟩|⟨n,h1,rfl⟩|⟨n,⟨h1,h2⟩,rfl⟩
 ·refine f8 c ?_
  have:c.rules.getD n ⟨[],[],⟨[],false⟩⟩∈c.rules:=by simp[h1]
  exact iy this
 ·have:c.laws.getD n ⟨[],[],⟨[],false⟩⟩∈c.laws:=by simp[h1]
  exact f8 c (cB (.inl this)).2
 ·have:c.rules.getD n ⟨[],[],⟨[],false⟩⟩∈c.rules:=by simp[h1]
  exact f8 c (cB (.inr this)).2
theorem ou {c:Case}{S:Nat}{p:PS}(h:p∈aq c S):∀x∈p.body,x<2*c.atoms.length:=by
 unfold aq at h
 simp only[List.mem_append,List.mem_map,members,mem_members,List.mem_range]at h
 rcases h with ⟨n,⟨h1,h2⟩,rfl⟩|⟨n,h1,rfl⟩|⟨n,⟨h1,h2⟩,rfl⟩
 ·intro x hx;cases hx
 ·have:c.laws.getD n ⟨[],[],⟨[],false⟩⟩∈c.laws:=by simp[h1]
  intro x hx
  obtain⟨l,hl,rfl⟩:=List.mem_map.mp hx
  exact f8 c ((cB (.inl this)).1 l hl)
 ·have:c.rules.getD n ⟨[],[],⟨[],false⟩⟩∈c.rules:=by simp[h1]
  intro x hx
  obtain⟨l,hl,rfl⟩:=List.mem_map.mp hx
  exact f8 c ((cB (.inr this)).1 l hl)
theorem mU {P:List PS}:∀{n l:Nat},aE P n l=true->∃p∈P,p.lit=l
 |n+1,l,h=>by
  rw[cA,Bool.or_eq_true]at h
  rcases h with h|h
  ·exact mU h
  ·rw[List.any_eq_true]at h
   obtain⟨p,hp,h⟩:=h
   rw[Bool.and_eq_true]at h
   exact⟨p,hp,of_decide_eq_true h.1⟩
theorem rC {P:List PS}{n:Nat}(h:∀l,aE P (n+1) l=aE P n l):∀m,n<=m->∀l,aE P m l=aE P n l:=by
 intro m
 induction m with
 |zero=>
  intro hm l
  have:n=0:=by omega
  subst this;rfl
 |succ m ih=>
  intro hm l
  by_cases e:n=m+1
  ·subst e;rfl
  ·have hr:aE P m=aE P n:=funext (ih (by omega))
   rw[<-h l,cA,hr,<-cA]
def cV (b R:Nat):Nat:=((List.range b).filter fun i=>!held R i).length
theorem lS {b R Q:Nat}(h:within R Q=true){i:Nat}(hi:i<b)(h1:held R i=false)(h2:held Q i=true):cV b Q<cV b R:=by
 unfold cV
 have gen:∀(L:List Nat),((L.filter fun i=>!held Q i).length<=(L.filter fun i=>!held R i).length)/\(i∈L->(L.filter fun i=>!held Q i).length<(L.filter fun i=>!held R i).length):=by
  intro L
  induction L with
  |nil=>exact⟨Nat.le_refl _,fun z=>nomatch z⟩
  |cons x L ih=>
   simp only[List.filter_cons]
   cases a:held R x with
   |true=>
    have b:=(ax _ _).mp h x a
    rw[b]
    refine⟨by simpa using ih.1,fun z=>?_⟩
    rcases List.mem_cons.mp z with e|e
    ·subst e;rw[h1]at a;cases a
    ·simpa using ih.2 e
   |false=>
    cases b:held Q x with
    |true=>
     simp
     exact⟨by omega,fun _=>by omega⟩
    |false=>
     simp
     refine⟨ih.1,fun z=>?_⟩
     rcases z with e|e
     ·subst e;rw[h2]at b;cases b
     ·exact ih.2 e
 exact (gen _).2 (by simp[hi])
theorem lx (c:Case)(S n:Nat):within (bD c S n) (bD c S (n+1))=true:=(ax _ _).mpr fun i hi=>by
 rw[cO]at hi ⊢
 exact gf hi (by omega)
theorem wy {c:Case}{S n:Nat}(h:bD c S (n+1)≠bD c S n):cV (2*c.atoms.length) (bD c S (n+1))<cV (2*c.atoms.length) (bD c S n):=by
 have:∃i,held (bD c S n) i=false/\held (bD c S (n+1)) i=true:=by
  apply Classical.byContradiction
  intro hn
  refine h (bF fun i=>?_)
  cases a:held (bD c S n) i with
  |true=>rw[(ax _ _).mp (lx c S n) i a]
  |false=>
   cases b:held (bD c S (n+1)) i with
   |false=>rfl
   |true=>exact absurd ⟨i,a,b⟩ hn
 obtain⟨i,h1,h2⟩:=this
 refine lS (lx c S n) ?_ h1 h2
 rw[cO]at h2
 obtain⟨p,hp,e⟩:=mU h2
 rw[<-e];exact pG hp
theorem rZ {c:Case}{S:Nat}:∀(f n:Nat),cV (2*c.atoms.length) (bD c S n)<f->∃m,n<=m/\(c.numbered.roundsFrom S f (bD c S n))=(List.range (m-n)).map (fun i=>bD c S (n+i+1))/\bD c S (m+1)=bD c S m/\∀i,n<=i->i<m->bD c S (i+1)≠bD c S i:=by
 intro f
 induction f with
 |zero=>intro n h;omega
 |succ f ih=>
  intro n h
  rw[o5]
  by_cases e:bD c S (n+1)=bD c S n
  ·have e':ip c.numbered S (bD c S n)=bD c S n:=e
   rw[if_pos e']
   exact⟨n,Nat.le_refl _,by simp,e,fun i h1 h2=>by omega⟩
  ·have e':¬ip c.numbered S (bD c S n)=bD c S n:=e
   rw[if_neg e']
   obtain⟨m,h1,h2,h3,h4⟩:=ih (n+1) (by have:=wy e;omega)
   refine⟨m,by omega,?_,h3,fun i hi1 hi2=>?_⟩
   ·have:m-n=(m-(n+1))+1:=by omega
    rw[this,List.range_succ_eq_map,List.map_cons,List.map_map]
    show bD c S (n+1) :: c.numbered.roundsFrom S f (bD c S (n+1))=_
    rw[h2]
    congr 1
    refine List.map_congr_left fun i _=>?_
    show bD c S (n+1+i+1)=bD c S (n+(i+1)+1)
    congr 1
    omega
   ·by_cases z:i=n
    ·subst z;exact e
    ·exact h4 i (by omega) hi2
theorem j3 (c:Case)(S:Nat):∃m,c.numbered.rounds S=(List.range m).map (fun i=>bD c S (i+1))/\∀n,m<=n->∀l,aE (aq c S) n l=aE (aq c S) m l:=by
 have h:=rZ (c:=c) (S:=S) (2*c.atoms.length+1) 0 (by
  unfold cV
  have:=List.length_filter_le (fun i=>!held (bD c S 0) i) (List.range (2*c.atoms.length))
  rw[List.length_range]at this
  omega)
 obtain⟨m,_,h2,h3,_⟩:=h
 refine⟨m,?_,rC fun l=>?_⟩
 ·show c.numbered.roundsFrom S (2*c.atoms.length+1) 0=_
  rw[show (0:Nat)=bD c S 0 from rfl,h2]
  simp
 ·rw[<-cO,<-cO,h3]
theorem round_some {c:Case}{S l n:Nat}:c.numbered.round S l=some n↔IsRN (aq c S) l n:=by
 obtain⟨m,h1,h2⟩:=j3 c S
 unfold Numbered.round
 rw[h1,List.findIdx?_map]
 constructor
 ·intro h
  obtain⟨i,hi,rfl⟩:=Option.map_eq_some_iff.mp h
  rw[List.findIdx?_eq_some_iff_getElem]at hi
  obtain⟨hl,hp,hb⟩:=hi
  simp only[List.getElem_range,Function.comp,cO]at hp hb
  refine⟨hp,fun j hj=>?_⟩
  cases j with
  |zero=>rfl
  |succ j=>
   have:=hb j (by omega)
   simpa using this
 ·intro h
  obtain⟨j,rfl⟩:∃j,n=j+1:=⟨n-1,by have:=h.pos;omega⟩
  have hjm:j<m:=by
   apply Decidable.byContradiction
   intro hn
   have:=h2 (j+1) (by omega) l
   rw[h.1]at this
   have z:=h.2 m (by omega)
   rw[z]at this;cases this
  refine Option.map_eq_some_iff.mpr ⟨j,?_,rfl⟩
  rw[List.findIdx?_eq_some_iff_getElem]
  refine⟨by simpa using hjm,?_,fun i hi=>?_⟩
  ·simp only[List.getElem_range,Function.comp,cO]
   exact h.1
  ·simp only[List.getElem_range,Function.comp,cO]
   rw[h.2 (i+1) (by omega)]
   decide
theorem round_none {c:Case}{S l:Nat}:c.numbered.round S l=none↔∀n,aE (aq c S) n l=false:=by
 constructor
 ·intro h n
  cases e:aE (aq c S) n l with
  |false=>rfl
  |true=>
   obtain⟨m,_,hm⟩:=IsRN.of e
   rw[round_some.mpr hm]at h;cases h
 ·intro h
  cases e:c.numbered.round S l with
  |none=>rfl
  |some n=>
   have:=(round_some.mp e).1
   rw[h n]at this;cases this
theorem vO {c:Case}{S l n:Nat}(h:IsRN (aq c S) l n):(if n<=1 then 0 else (c.numbered.rounds S).getD (n-2) 0)=bD c S (n-1):=by
 have hp:=h.pos
 split
 ·have:n=1:=by omega
  subst this;rfl
 ·obtain⟨m,h1,h2⟩:=j3 c S
  have hjm:n-2<m:=by
   apply Decidable.byContradiction
   intro hn
   have:=h2 n (by omega) l
   rw[h.1]at this
   have z:=h.2 m (by omega)
   rw[z]at this;cases this
  rw[h1]
  have:(List.range m)[n-2]?=some (n-2):=by simp[hjm]
  rw[List.getD_eq_getElem?_getD,List.getElem?_map,this]
  show bD c S (n-2+1)=_
  congr 1
  omega
def told (P:List PS)(x n:Nat):Option PS:=P.find? fun p=>decide (p.lit=x)&&p.body.all (aE P (n-1))
theorem mi {c:Case}{S R:Nat}{x n:Nat}(hR:∀l,held R l=aE (aq c S) n l):∀(P:List PS),(∀p∈P,p∈aq c S)->
  (P.map fY).find? (fun (y:Step)=>match c.numbered.yields S y with|some (h,b)=>h==x&&within b R|none=>false)=(P.find? fun p=>decide (p.lit=x)&&p.body.all (aE (aq c S) n)).map fY
 |[],_=>rfl
 |p :: P,hP=>by
  have ih:=mi (x:=x) hR P (fun q hq=>hP q (by simp[hq]))
  rw[List.map_cons,List.find?_cons,List.find?_cons,lU (hP p (by simp)),ih]
  have hw:within (bg p.body) R=p.body.all (aE (aq c S) n):=by
   rw[Bool.eq_iff_iff,ax,List.all_eq_true]
   constructor
   ·intro h x hx
    rw[<-hR];exact h x ((aY _ _).mpr hx)
   ·intro h x hx
    rw[hR];exact h x ((aY _ _).mp hx)
  have hb:(p.lit==x&&within (bg p.body) R)=(decide (p.lit=x)&&p.body.all (aE (aq c S) n)):=by
   rw[hw]
   congr 1
  simp only[hb]
  cases (decide (p.lit=x)&&p.body.all (aE (aq c S) n))<;>rfl
theorem le {c:Case}{S x n:Nat}(h:IsRN (aq c S) x n):c.numbered.stepOf S x=(told (aq c S) x n).map fY:=by
 unfold Numbered.stepOf
 rw[round_some.mpr h]
 simp only
 rw[vO h,kf]
 exact mi (cO c S (n-1)) _ fun _ h=>h
theorem rq {c:Case}{S x:Nat}(h:∀n,aE (aq c S) n x=false):c.numbered.stepOf S x=none:=by
 unfold Numbered.stepOf
 rw[round_none.mpr h]
theorem sq {P:List PS}{x n:Nat}(h:IsRN P x n):∃p,told P x n=some p:=by
 obtain⟨j,rfl⟩:∃j,n=j+1:=⟨n-1,by have:=h.pos;omega⟩
 have h1:=h.1
 rw[cA,h.2 j (by omega),Bool.false_or,List.any_eq_true]at h1
 obtain⟨p,hp,hb⟩:=h1
 unfold told
 cases e:P.find? fun p=>decide (p.lit=x)&&p.body.all (aE P (j+1-1)) with
 |some q=>exact⟨q,rfl⟩
 |none=>
  rw[List.find?_eq_none]at e
  exact absurd hb (e p hp)
theorem eI {P:List PS}{x n:Nat}{p:PS}(h:told P x n=some p):p∈P/\p.lit=x/\∀y∈p.body,aE P (n-1) y=true:=by
 unfold told at h
 have h1:=List.mem_of_find?_eq_some h
 have h2:=List.find?_some h
 simp only[Bool.and_eq_true,decide_eq_true_eq,List.all_eq_true]at h2
 exact⟨h1,h2.1,h2.2⟩
inductive Need (P:List PS)(l:Nat):Nat->Prop
 |self:Need P l l
 |body {x n y:Nat} {p:PS}:Need P l x->IsRN P x n->told P x n=some p->y∈p.body->Need P l y
theorem mI {P:List PS}{l n x:Nat}(h:IsRN P l n)(k:Need P l x):∃m,IsRN P x m:=by
 induction k with
 |self=>exact⟨n,h⟩
 |body _ _ t hy _=>
  obtain⟨m,_,hm⟩:=IsRN.of ((eI t).2.2 _ hy)
  exact⟨m,hm⟩
theorem sn {c:Case}{S l x:Nat}(hl:l<2*c.atoms.length)(k:Need (aq c S) l x):x<2*c.atoms.length:=by
 induction k with
 |self=>exact hl
 |body _ _ t hy _=>exact ou (eI t).1 _ hy
def gA (k:Numbered)(S N:Nat):Nat:=(membersOf (2*k.atoms) N).foldl (fun (m l:Nat)=>match (k.stepOf S l).bind (k.yields S) with
   |some (_,b)=>m|||b
   |none=>m) N
theorem jP (k:Numbered)(S:Nat):∀f N,k.needFrom S f N=bA (gA k S) f N
 |0,N=>rfl
 |f+1,N=>by
  have e:k.needFrom S (f+1) N=if gA k S N=N then N else k.needFrom S f (gA k S N):=rfl
  rw[e,jP k S f]
  rfl
theorem turnN_held {c:Case}{S N j:Nat}:held (gA c.numbered S N) j=true↔held N j=true∨∃x n p,x<2*c.atoms.length/\held N x=true/\IsRN (aq c S) x n/\told (aq c S) x n=some p/\j∈p.body:=by
 have gen:∀(L:List Nat)(m:Nat),held (L.foldl (fun (m l:Nat)=>match (c.numbered.stepOf S l).bind (c.numbered.yields S) with
   |some (_,b)=>m|||b
   |none=>m) m) j=true↔held m j=true∨∃x n p,x∈L/\IsRN (aq c S) x n/\told (aq c S) x n=some p/\j∈p.body:=by
  intro L
  induction L with
  |nil=>intro m;simp
  |cons x L ih=>
   intro m
   rw[List.foldl_cons,ih]
   have one:held (match (c.numbered.stepOf S x).bind (c.numbered.yields S) with
     |some (_,b)=>m|||b
     |none=>m) j=true↔held m j=true∨∃n p,IsRN (aq c S) x n/\told (aq c S) x n=some p/\j∈p.body:=by
    by_cases hx:∃n,IsRN (aq c S) x n
    ·obtain⟨n,hn⟩:=hx
     obtain⟨p,hp⟩:=sq hn
     rw[le hn,hp,Option.map_some,Option.bind_some,lU (eI hp).1]
     simp only
     rw[gU,Bool.or_eq_true,aY]
     constructor
     ·rintro (h|h)
      ·exact .inl h
      ·exact .inr ⟨n,p,hn,hp,h⟩
     ·rintro (h|⟨n',p',hn',hp',h⟩)
      ·exact .inl h
      ·rw[hn'.uniq hn]at hp'
       rw[hp]at hp';cases hp'
       exact .inr h
    ·have:∀n,aE (aq c S) n x=false:=fun n=>by
      cases e:aE (aq c S) n x with
      |false=>rfl
      |true=>
       obtain⟨m,_,hm⟩:=IsRN.of e
       exact absurd ⟨m,hm⟩ hx
     rw[rq this]
     show held m j=true↔_
     constructor
     ·exact .inl
     ·rintro (h|⟨n,p,hn,_⟩)
      ·exact h
      ·exact absurd ⟨n,hn⟩ hx
   rw[one]
   simp only[List.mem_cons]
   constructor
   ·rintro ((h|⟨n,p,h⟩)|⟨y,n,p,hy,h⟩)
    ·exact .inl h
    ·exact .inr ⟨x,n,p,.inl rfl,h⟩
    ·exact .inr ⟨y,n,p,.inr hy,h⟩
   ·rintro (h|⟨y,n,p,hy|hy,h⟩)
    ·exact .inl (.inl h)
    ·subst hy;exact .inl (.inr ⟨n,p,h⟩)
    ·exact .inr ⟨y,n,p,hy,h⟩
 unfold gA
 rw[gen]
 have:c.numbered.atoms=c.atoms.length:=rfl
 simp only[mem_members,this]
 constructor
 ·rintro (h|⟨x,n,p,⟨h1,h2⟩,h⟩)
  ·exact .inl h
  ·exact .inr ⟨x,n,p,h1,h2,h⟩
 ·rintro (h|⟨x,n,p,h1,h2,h⟩)
  ·exact .inl h
  ·exact .inr ⟨x,n,p,⟨h1,h2⟩,h⟩
theorem nJ {c:Case}{S l:Nat}(hl:l<2*c.atoms.length)(j:Nat):held (c.numbered.needFrom S (2*c.numbered.atoms+1) (with_ 0 l)) j=true↔Need (aq c S) l j:=by
 rw[jP]
 have hA:c.numbered.atoms=c.atoms.length:=rfl
 have mono:∀N,within N (gA c.numbered S N)=true:=fun N=>(ax _ _).mpr fun i hi=>turnN_held.mpr (.inl hi)
 have h0:∀j,held (with_ 0 l) j=true->Need (aq c S) l j:=fun j hj=>by
  rw[bG,bh,Bool.false_or]at hj
  have:=of_decide_eq_true hj
  subst this;exact .self
 obtain⟨h1,h2⟩:=qI (g:=gA c.numbered S) (fun N=>held N l=true/\∀j,held N j=true->Need (aq c S) l j) (cV (2*c.atoms.length)) (fun N h=>⟨(ax _ _).mp (mono N) _ h.1,fun j hj=>by
   rcases turnN_held.mp hj with z|⟨x,n,p,_,hx,hn,hp,hj⟩
   ·exact h.2 j z
   ·exact .body (h.2 x hx) hn hp hj⟩)
  (fun N hN hne=>by
   have:∃i,held N i=false/\held (gA c.numbered S N) i=true:=by
    apply Classical.byContradiction
    intro hn
    refine hne (bF fun i=>?_)
    cases a:held N i with
    |true=>rw[(ax _ _).mp (mono N) i a]
    |false=>
     cases b:held (gA c.numbered S N) i with
     |false=>rfl
     |true=>exact absurd ⟨i,a,b⟩ hn
   obtain⟨i,a,b⟩:=this
   refine lS (mono N) ?_ a b
   rcases turnN_held.mp b with z|⟨x,n,p,_,hx,hn,hp,hj⟩
   ·rw[a]at z;cases z
   ·exact ou (eI hp).1 _ hj) (2*c.numbered.atoms+1) (with_ 0 l) ⟨by rw[bG];simp,h0⟩ (by
   rw[hA]
   unfold cV
   have:=List.length_filter_le (fun i=>!held (with_ 0 l) i) (List.range (2*c.atoms.length))
   rw[List.length_range]at this
   omega)
 refine⟨h2.2 j,fun k=>?_⟩
 induction k with
 |self=>exact h2.1
 |body hx hn hp hj ih=>
  rw[<-h1]
  exact turnN_held.mpr (.inr ⟨_,_,_,sn hl hx,ih,hn,hp,hj⟩)
def rnd (c:Case)(S x:Nat):Nat:=(c.numbered.round S x).getD 0
theorem y0 {c:Case}{S x n:Nat}(h:IsRN (aq c S) x n):rnd c S x=n:=by
 unfold rnd
 rw[round_some.mpr h]
 rfl
def cD (r:Nat->Nat)(x y:Nat):Prop:=r x<r y∨(r x=r y/\x<y)
theorem lg {r:Nat->Nat}:∀{l m:List Nat},l.Pairwise (cD r)->m.Pairwise (cD r)->(∀x,x∈l↔x∈m)->l=m
 |[],[],_,_,_=>rfl
 |[],y :: s,_,_,h=>by have:=(h y).mpr (by simp);cases this
 |x :: t,[],_,_,h=>by have:=(h x).mp (by simp);cases this
 |x :: t,y :: s,hl,hm,h=>by
  have hl':=List.pairwise_cons.mp hl
  have hm':=List.pairwise_cons.mp hm
  have e:x=y:=by
   have h1:=(h x).mp (by simp)
   have h2:=(h y).mpr (by simp)
   rcases List.mem_cons.mp h1 with e|e
   ·exact e
   ·rcases List.mem_cons.mp h2 with e'|e'
    ·exact e'.symm
    ·have a:=hl'.1 y e'
     have b:=hm'.1 x e
     unfold cD at a b
     omega
  subst e
  congr 1
  refine lg hl'.2 hm'.2 fun z=>?_
  have hz:=h z
  constructor
  ·intro hz'
   rcases List.mem_cons.mp (hz.mp (by simp[hz'])) with e|e
   ·subst e
    have:=hl'.1 z hz'
    unfold cD at this
    omega
   ·exact e
  ·intro hz'
   rcases List.mem_cons.mp (hz.mpr (by simp[hz'])) with e|e
   ·subst e
    have:=hm'.1 z hz'
    unfold cD at this
    omega
   ·exact e
theorem iF {r:Nat->Nat}{m:Nat}{g:Nat->List Nat}(h1:∀i,(g i).Pairwise (cD r))(h2:∀i x,x∈g i->r x=i+1):((List.range m).flatMap g).Pairwise (cD r):=by
 induction m with
 |zero=>simp
 |succ m ih=>
  rw[List.range_succ,List.flatMap_append,List.pairwise_append]
  refine⟨ih,by simpa using h1 m,fun x hx y hy=>?_⟩
  simp only[List.mem_flatMap,List.mem_range]at hx
  simp only[List.flatMap_cons,List.flatMap_nil,List.append_nil]at hy
  obtain⟨i,hi,hx⟩:=hx
  have a:=h2 i x hx
  have b:=h2 m y hy
  exact .inl (by omega)
theorem l4 (f:Nat->Nat)(m:Nat):((List.range m).map f).zipIdx=(List.range m).map fun i=>(f i,i):=by
 apply List.ext_getElem?
 intro i
 rw[List.getElem?_zipIdx,List.getElem?_map,List.getElem?_map]
 by_cases h:i<m
 ·simp[h]
 ·simp[h]
theorem rY {c:Case}{S l n:Nat}(h:IsRN (aq c S) l n)(hl:l<2*c.atoms.length)(D:List Nat)(hD:D.Pairwise (cD (rnd c S)))(hm:∀x,x∈D↔Need (aq c S) l x):
  c.numbered.derive S l=some (D.filterMap (c.numbered.stepOf S)):=by
 have hA:c.numbered.atoms=c.atoms.length:=rfl
 unfold Numbered.derive
 rw[round_some.mpr h]
 simp only[Option.isNone_some,Bool.false_eq_true,if_false]
 obtain⟨m,h1,h2⟩:=j3 c S
 rw[h1,l4,List.flatMap_map]
 congr 1
 rw[<-List.filterMap_flatMap]
 congr 1
 refine lg (r:=rnd c S) ?_ hD fun x=>?_
 ·refine iF (fun i=>?_) fun i x hx=>?_
  ·refine List.pairwise_iff_getElem.mpr ?_
   intro a b ha hb hab
   have hs:((membersOf (2*c.numbered.atoms) (c.numbered.needFrom S (2*c.numbered.atoms+1) (with_ 0 l))).filter fun m=>c.numbered.round S m==some (i+1)).Pairwise (·<·):=by
    refine List.Pairwise.filter _ ?_
    unfold membersOf
    exact List.Pairwise.filter _ List.pairwise_lt_range
   have hlt:=(List.pairwise_iff_getElem.mp hs) a b ha hb hab
   have ra:=List.getElem_mem ha
   have rb:=List.getElem_mem hb
   rw[List.mem_filter]at ra rb
   have ra:=ra.2
   have rb:=rb.2
   simp only[beq_iff_eq]at ra rb
   refine .inr ⟨?_,hlt⟩
   unfold rnd
   rw[ra,rb]
  ·rw[List.mem_filter]at hx
   have:=hx.2
   simp only[beq_iff_eq]at this
   unfold rnd
   rw[this]
   rfl
 ·rw[hm x]
  simp only[List.mem_flatMap,List.mem_range,List.mem_filter,mem_members,beq_iff_eq]
  constructor
  ·rintro⟨i,hi,⟨_,hN⟩,_⟩
   exact (nJ hl x).mp hN
  ·intro k
   obtain⟨q,hq⟩:=mI h k
   have hp:=hq.pos
   refine⟨q-1,?_,⟨by rw[hA];exact sn hl k,(nJ hl x).mpr k⟩,?_⟩
   ·apply Decidable.byContradiction
    intro hn
    have:=h2 q (by omega) x
    rw[hq.1]at this
    have z:=hq.2 m (by omega)
    rw[z]at this;cases this
   ·rw[round_some.mpr hq]
    congr 1
    omega
theorem iT {p:B×B}:∀{l:Weighs} {x:B×B},x∈insertPair p l↔x=p∨x∈l
 |[],x=>by simp[insertPair]
 |y :: r,x=>by
  unfold insertPair
  split
  ·rename_i h;subst h;simp
  ·split
   ·simp
   ·simp[iT (l:=r)]
    constructor
    ·rintro (h|h|h)<;>simp[h]
    ·rintro (h|h|h)<;>simp[h]
theorem fm:∀(ps l:Weighs)(x:B×B),x∈ps.foldl (fun l p=>insertPair p l) l↔x∈l∨x∈ps
 |[],l,x=>by simp
 |p :: ps,l,x=>by
  rw[List.foldl_cons,fm ps,iT,List.mem_cons]
  constructor
  ·rintro ((h|h)|h)<;>simp[h]
  ·rintro (h|h|h)<;>simp[h]
theorem mem_formWeighs {ns:List B}{w:Weighs}{x y:B}:(x,y)∈formWeighs ns w↔(x,y)∈w/\¬∃z∈ns,TC w x z/\TC w z y:=by
 unfold formWeighs
 rw[fm,List.mem_filter]
 simp only[List.not_mem_nil,false_or,Bool.not_eq_true',List.any_eq_false,Bool.and_eq_true,outweighs_iff]
 constructor
 ·rintro⟨h1,h2⟩
  exact⟨h1,fun ⟨z,hz,h⟩=>h2 z hz h⟩
 ·rintro⟨h1,h2⟩
  exact⟨h1,fun z hz h=>h2 ⟨z,hz,h⟩⟩
theorem jK {α:Type}{p q:α->Bool}{l:List α}(h:∀x,p x=true->q x=true){a:α}(ha:a∈l)(h1:p a=false)(h2:q a=true):(l.filter p).length<(l.filter q).length:=by
 have gen:∀(L:List α),((L.filter p).length<=(L.filter q).length)/\(a∈L->(L.filter p).length<(L.filter q).length):=by
  intro L
  induction L with
  |nil=>exact⟨Nat.le_refl _,fun z=>nomatch z⟩
  |cons x L ih=>
   simp only[List.filter_cons]
   cases e:p x with
   |true=>
    rw[h x e]
    refine⟨by simpa using ih.1,fun z=>?_⟩
    rcases List.mem_cons.mp z with e'|e'
    ·subst e';rw[h1]at e;cases e
    ·simpa using ih.2 e'
   |false=>
    cases b:q x with
    |true=>simp;exact⟨by omega,fun _=>by omega⟩
    |false=>
     simp
     refine⟨ih.1,fun z=>?_⟩
     rcases z with e'|e'
     ·subst e';rw[h2]at b;cases b
     ·exact ih.2 e'
 exact (gen l).2 ha
theorem xH {ns:List B}{w:Weighs}(hr:∀x,¬TC w x x)(hn:∀p∈w,p.2∈ns){x y:B}:TC (formWeighs ns w) x y↔TC w x y:=by
 constructor
 ·exact TC.mono fun p hp=>(mem_formWeighs (x:=p.1) (y:=p.2)).mp hp |>.1
 ·have gen:∀(n:Nat)(x y:B),(ns.filter fun z=>outweighs w x z&&outweighs w z y).length<=n->TC w x y->TC (formWeighs ns w) x y:=by
   intro n
   induction n with
   |zero=>
    intro x y hl h
    have none:¬∃z∈ns,TC w x z/\TC w z y:=by
     rintro⟨z,hz,h1,h2⟩
     have:z∈ns.filter fun z=>outweighs w x z&&outweighs w z y:=List.mem_filter.mpr ⟨hz,by rw[outweighs_iff.mpr h1,outweighs_iff.mpr h2];rfl⟩
     have:=List.length_pos_of_mem this
     omega
    refine .one (mem_formWeighs.mpr ⟨?_,none⟩)
    cases h with
    |one k=>exact k
    |more k t=>exact absurd ⟨_,hn _ k,.one k,t⟩ none
   |succ n ih=>
    intro x y hl h
    by_cases hz:∃z∈ns,TC w x z/\TC w z y
    ·obtain⟨z,hz,h1,h2⟩:=hz
     have l1:(ns.filter fun u=>outweighs w x u&&outweighs w u z).length<(ns.filter fun u=>outweighs w x u&&outweighs w u y).length:=by
      refine jK (fun u hu=>?_) hz ?_ ?_
      ·rw[Bool.and_eq_true,outweighs_iff,outweighs_iff]at hu ⊢
       exact⟨hu.1,hu.2.trans h2⟩
      ·cases e:(outweighs w x z&&outweighs w z z) with
       |false=>rfl
       |true=>
        rw[Bool.and_eq_true,outweighs_iff,outweighs_iff]at e
        exact absurd e.2 (hr z)
      ·rw[outweighs_iff.mpr h1,outweighs_iff.mpr h2];rfl
     have l2:(ns.filter fun u=>outweighs w z u&&outweighs w u y).length<(ns.filter fun u=>outweighs w x u&&outweighs w u y).length:=by
      refine jK (fun u hu=>?_) hz ?_ ?_
      ·rw[Bool.and_eq_true,outweighs_iff,outweighs_iff]at hu ⊢
       exact⟨h1.trans hu.1,hu.2⟩
      ·cases e:(outweighs w z z&&outweighs w z y) with
       |false=>rfl
       |true=>
        rw[Bool.and_eq_true,outweighs_iff,outweighs_iff]at e
        exact absurd e.1 (hr z)
      ·rw[outweighs_iff.mpr h1,outweighs_iff.mpr h2];rfl
     exact (ih x z (by omega) h1).trans (ih z y (by omega) h2)
    ·refine .one (mem_formWeighs.mpr ⟨?_,hz⟩)
     cases h with
     |one k=>exact k
     |more k t=>exact absurd ⟨_,hn _ k,.one k,t⟩ hz
  exact gen _ x y (Nat.le_refl _)
theorem qo {c:Case}(g:GoodC c):∀x,¬TC c.weighs x x:=fun x h=>by
 have:=goesRound_iff.mpr ⟨x,h⟩
 rw[g.nr]at this;cases this
theorem lr {c:Case}(g:GoodC c){x y:B}:outweighs c.form.weighs x y=true↔TC c.weighs x y:=by
 rw[outweighs_iff]
 exact xH (ns:=c.rules.map Row.name) (qo g) fun p hp=>(g.wr p hp).2
theorem kL {c:Case}{S T:Nat}(h:∀i,i<c.rules.length->held S i=true->held T i=true):∀r∈bZ c S,r∈bZ c T:=by
 have hz:∀x,(x∈c.rules.zipIdx.filter fun x=>held S x.2)->x∈c.rules.zipIdx.filter fun x=>held T x.2:=fun x hx=>by
  rw[List.mem_filter]at hx ⊢
  refine⟨hx.1,h _ ?_ hx.2⟩
  obtain⟨r,i⟩:=x
  have:=List.mem_zipIdx hx.1
  simp at this
  exact this.1
 intro r hr
 simp only[bZ,List.mem_append,List.mem_map]at hr ⊢
 rcases hr with (⟨x,hx,e⟩|hx)|⟨x,hx,e⟩
 ·exact .inl (.inl ⟨x,hz x hx,e⟩)
 ·exact .inl (.inr hx)
 ·exact .inr ⟨x,hz x hx,e⟩
theorem sU {c:Case}{S T:Nat}(h:∀i,i<c.rules.length->held S i=true->held T i=true)(hc:c.numbered.clash S=true):c.numbered.clash T=true:=by
 rw[nS]at hc ⊢
 obtain⟨a,h1,h2,h3⟩:=hc
 exact⟨a,h1,h2.mono (kL h),h3.mono (kL h)⟩
theorem qe {c:Case}{S T:Nat}(h:within S T=true)(hc:c.numbered.clash S=true):c.numbered.clash T=true:=sU (fun i _ hi=>(ax _ _).mp h i hi) hc
theorem eQ {S i:Nat}(h:held S i=true):without S i<S:=by
 unfold without
 rw[if_pos h]
 have:0<2^i:=Nat.two_pow_pos i
 have:2^i<=S:=Nat.ge_two_pow_of_testBit h
 omega
theorem m9 (S i:Nat):within (without S i) S=true:=(ax _ _).mpr fun j h=>by
 rw[c5]at h
 simp at h
 exact h.1
theorem mem_clashes {c:Case}{C:Nat}:C∈c.numbered.clashes↔C<2^c.rules.length/\c.numbered.clash C=true/\∀i,held C i=true->c.numbered.clash (without C i)=false:=by
 have hlen:c.numbered.rules.length=c.rules.length:=by rw[cj];simp
 have ht:∀S,S<2^c.rules.length->(((List.range (2^c.rules.length)).map c.numbered.clash).toArray).getD S false=c.numbered.clash S:=by
  intro S hS
  simp[Array.getD,hS]
 unfold Numbered.clashes
 simp only[hlen,List.mem_filter,List.mem_range]
 constructor
 ·rintro⟨h1,h2⟩
  rw[Bool.and_eq_true,ht C h1,List.all_eq_true]at h2
  refine⟨h1,h2.1,fun i hi=>?_⟩
  have:=h2.2 i (by simpa using gX h1 hi)
  rw[hi,ht _ (Nat.lt_trans (eQ hi) h1)]at this
  simpa using this
 ·rintro⟨h1,h2,h3⟩
  refine⟨h1,?_⟩
  rw[Bool.and_eq_true,ht C h1,List.all_eq_true]
  refine⟨h2,fun i hi=>?_⟩
  cases e:held C i with
  |false=>rfl
  |true=>
   rw[ht _ (Nat.lt_trans (eQ e) h1),h3 i e]
   rfl
structure Cand (c:Case)(under i A:Nat):Prop where
 lt:A<2^c.rules.length
 own:held A i=false
 un:A&&&under=0
 no:c.numbered.clash A=false
 yes:c.numbered.clash (with_ A i)=true
theorem rm {c:Case}:∀(n S:Nat),S<=n->S<2^c.rules.length->c.numbered.clash S=true->∃C,within C S=true/\C∈c.numbered.clashes:=by
 intro n
 induction n with
 |zero=>
  intro S hn hl hc
  have:S=0:=by omega
  subst this
  exact⟨0,cb 0,mem_clashes.mpr ⟨hl,hc,fun i hi=>by rw[bh]at hi;cases hi⟩⟩
 |succ n ih=>
  intro S hn hl hc
  by_cases h:∃i,held S i=true/\c.numbered.clash (without S i)=true
  ·obtain⟨i,h1,h2⟩:=h
   have:=eQ h1
   obtain⟨C,a,b⟩:=ih (without S i) (by omega) (by omega) h2
   exact⟨C,cg a (m9 S i),b⟩
  ·refine⟨S,cb S,mem_clashes.mpr ⟨hl,hc,fun i hi=>?_⟩⟩
   cases e:c.numbered.clash (without S i) with
   |false=>rfl
   |true=>exact absurd ⟨i,hi,e⟩ h
theorem and_zero_iff {A B:Nat}:A&&&B=0↔∀i,held A i=true->held B i=false:=by
 constructor
 ·intro h i hi
  have:=congrArg (fun x=>held x i) h
  simp only[fA,hi,Bool.true_and,bh]at this
  exact this
 ·intro h
  refine bF fun i=>?_
  rw[fA,bh]
  cases e:held A i with
  |false=>rfl
  |true=>rw[h i e];rfl
theorem xM {c:Case}{under:List Nat}{i:Nat}(hi:i<c.rules.length):(seenBy c under).hits.getD i []=((c.numbered.clashes.filter (held · i)).map (without · i)).filter fun A=>A&&&under.getD i 0==0:=by
 show (strikersOf c.rules.length c.numbered.clashes under).getD i []=_
 unfold strikersOf
 rw[List.getD_eq_getElem?_getD,List.getElem?_map]
 simp[hi]
theorem rK {c:Case}{under:List Nat}{T i:Nat}(hi:i<c.rules.length):(seenBy c under).strikes T i=true↔∃A,Cand c (under.getD i 0) i A/\within A T=true:=by
 unfold Seen.strikes
 rw[xM hi,List.any_eq_true]
 constructor
 ·rintro⟨A,hA,hw⟩
  rw[List.mem_filter]at hA
  obtain⟨hA,hu⟩:=hA
  obtain⟨C,hC,rfl⟩:=List.mem_map.mp hA
  rw[List.mem_filter]at hC
  obtain⟨hC,hCi⟩:=hC
  obtain⟨h1,h2,h3⟩:=mem_clashes.mp hC
  refine⟨without C i,⟨Nat.lt_trans (eQ hCi) h1,?_,by simpa using hu,h3 i hCi,?_⟩,hw⟩
  ·rw[c5];simp
  ·have:with_ (without C i) i=C:=bF fun j=>by
    rw[bG,c5]
    by_cases e:i=j
    ·subst e;simp[hCi]
    ·simp[e]
   rw[this];exact h2
 ·rintro⟨A,⟨a1,a2,a3,a4,a5⟩,hw⟩
  have hl:with_ A i<2^c.rules.length:=mO fun j hj=>by
   rw[bG]at hj
   simp at hj
   rcases hj with hj|hj
   ·exact gX a1 hj
   ·omega
  obtain⟨C,hC1,hC2⟩:=rm _ (with_ A i) (Nat.le_refl _) hl a5
  obtain⟨h1,h2,h3⟩:=mem_clashes.mp hC2
  have hCi:held C i=true:=by
   cases e:held C i with
   |true=>rfl
   |false=>
    have:within C A=true:=(ax _ _).mpr fun j hj=>by
     have:=(ax _ _).mp hC1 j hj
     rw[bG]at this
     simp at this
     rcases this with z|z
     ·exact z
     ·subst z;rw[e]at hj;cases hj
    have:=qe this h2
    rw[a4]at this;cases this
  have sub:within (without C i) A=true:=(ax _ _).mpr fun j hj=>by
   rw[c5]at hj
   simp at hj
   have:=(ax _ _).mp hC1 j hj.1
   rw[bG]at this
   simp at this
   rcases this with z|z
   ·exact z
   ·exact absurd z hj.2
  refine⟨without C i,List.mem_filter.mpr ⟨List.mem_map.mpr ⟨C,List.mem_filter.mpr ⟨hC2,hCi⟩,rfl⟩,?_⟩,cg sub hw⟩
  simp only[beq_iff_eq]
  exact and_zero_iff.mpr fun j hj=>and_zero_iff.mp a3 j ((ax _ _).mp sub j hj)
def bR (c:Case)(under i A:Nat):Bool:=(A&&&(2^i|||under)==0)&&(!c.numbered.clash A&&c.numbered.clash (A|||2^i))
theorem oT {c:Case}{under i A:Nat}(hA:A<2^c.rules.length):bR c under i A=true↔Cand c under i A:=by
 unfold bR
 rw[Bool.and_eq_true,Bool.and_eq_true,beq_iff_eq,and_zero_iff]
 constructor
 ·rintro⟨h1,h2,h3⟩
  have hown:held A i=false:=by
   cases e:held A i with
   |false=>rfl
   |true=>
    have:=h1 i e
    rw[gU,ju]at this
    simp at this
  refine⟨hA,hown,and_zero_iff.mpr fun j hj=>?_,by simpa using h2,h3⟩
  have:=h1 j hj
  rw[gU]at this
  simp at this
  exact this.2
 ·rintro⟨h1,h2,h3,h4,h5⟩
  refine⟨fun j hj=>?_,by simp[h4],h5⟩
  rw[gU,ju,and_zero_iff.mp h3 j hj]
  by_cases e:i=j
  ·subst e;rw[h2]at hj;cases hj
  ·simp[e]
def bK (p:Nat->Bool)(f:List Nat)(A:Nat):List Nat:=if p A=true then (if f.any (fun x=>within x A)=true then f else f++[A]) else f
def found (p:Nat->Bool)(L:List Nat):List Nat:=L.foldl (bK p) []
theorem mw (p:Nat->Bool):∀(L f:List Nat)(T:Nat),((L.foldl (bK p) f).any (fun x=>within x T))=true↔(f.any (fun x=>within x T))=true∨∃A∈L,p A=true/\within A T=true
 |[],f,T=>by simp
 |A :: L,f,T=>by
  rw[List.foldl_cons,mw p L]
  have one:((bK p f A).any fun x=>within x T)=true↔(f.any (fun x=>within x T))=true∨(p A=true/\within A T=true):=by
   unfold bK
   by_cases hp:p A=true
   ·rw[if_pos hp]
    by_cases hf:(f.any fun x=>within x A)=true
    ·rw[if_pos hf]
     constructor
     ·exact .inl
     ·rintro (z|⟨_,z⟩)
      ·exact z
      ·rw[List.any_eq_true]at hf ⊢
       obtain⟨x,hx,hw⟩:=hf
       exact⟨x,hx,cg hw z⟩
    ·rw[if_neg hf,List.any_append]
     simp[hp]
   ·rw[if_neg hp]
    simp[hp]
  rw[one]
  simp only[List.mem_cons]
  constructor
  ·rintro ((z|z)|⟨x,hx,z⟩)
   ·exact .inl z
   ·exact .inr ⟨A,.inl rfl,z⟩
   ·exact .inr ⟨x,.inr hx,z⟩
  ·rintro (z|⟨x,hx|hx,z⟩)
   ·exact .inl (.inl z)
   ·subst hx;exact .inl (.inr z)
   ·exact .inr ⟨x,hx,z⟩
theorem om (p:Nat->Bool):∀(L f:List Nat)(x:Nat),x∈L.foldl (bK p) f->x∈f∨(x∈L/\p x=true)
 |[],f,x,h=>.inl h
 |A :: L,f,x,h=>by
  rcases om p L _ x h with z|⟨z,hz⟩
  ·unfold bK at z
   split at z
   ·rename_i hp
    split at z
    ·exact .inl z
    ·rcases List.mem_append.mp z with z|z
     ·exact .inl z
     ·simp at z;subst z;exact .inr ⟨by simp,hp⟩
   ·exact .inl z
  ·exact .inr ⟨by simp[z],hz⟩
def c0 (c:Case)(under i:Nat):List Nat:=found (bR c under i) (List.range (2^c.rules.length))
theorem p7 {c:Case}{under:List Nat}{T i:Nat}(hi:i<c.rules.length):((c0 c (under.getD i 0) i).any fun A=>within A T)=(seenBy c under).strikes T i:=by
 rw[Bool.eq_iff_iff,rK hi]
 unfold c0 found
 rw[mw]
 simp only[List.any_nil,Bool.false_eq_true,false_or,List.mem_range]
 constructor
 ·rintro⟨A,h1,h2,h3⟩;exact⟨A,(oT h1).mp h2,h3⟩
 ·rintro⟨A,h1,h3⟩;exact⟨A,h1.lt,(oT h1.lt).mpr h1,h3⟩
theorem yk {c:Case}{under i A:Nat}(h:A∈c0 c under i):A<2^c.rules.length:=by
 rcases om _ _ _ _ h with z|⟨z,_⟩
 ·cases z
 ·simpa using z
def bS (c:Case)(under:List Nat)(S:Nat):Nat:=maskOf c.rules.length fun i=>(c0 c (under.getD i 0) i).any fun A=>within A S
def bJ (c:Case)(under:List Nat)(S:Nat):Nat:=maskOf c.rules.length fun i=>(c0 c (under.getD i 0) i).all fun A=>A&&&bS c under S != 0
theorem vz (c:Case)(under:List Nat)(S:Nat):bJ c under S=(seenBy c under).defended (seenBy c under).all S:=by
 have hn:(seenBy c under).n=c.rules.length:=rfl
 have hall:∀i,held (seenBy c under).all i=decide (i<c.rules.length):=fun i=>by
  show (2^c.rules.length-1).testBit i=_
  rw[Nat.testBit_two_pow_sub_one]
 refine bF fun i=>?_
 unfold bJ Seen.defended
 simp only[hn]
 rw[cP,cP]
 by_cases hi:i<c.rules.length
 ·simp only[hi,decide_true,Bool.true_and,hall]
  rw[<-p7 hi]
  rw[Bool.eq_iff_iff,List.all_eq_true,Bool.not_eq_true',List.any_eq_false]
  have key:∀A∈c0 c (under.getD i 0) i,((A&&&bS c under S != 0)=true↔¬within A (maskOf c.rules.length fun i=>decide (i<c.rules.length)&&!(seenBy c under).strikes S i)=true):=by
   intro A hA
   have hlt:=yk hA
   rw[bne_iff_ne,Ne,and_zero_iff,ax]
   have one:∀j,held A j=true->(held (bS c under S) j=false↔held (maskOf c.rules.length fun i=>decide (i<c.rules.length)&&!(seenBy c under).strikes S i) j=true):=by
    intro j hj
    have hjn:=gX hlt hj
    unfold bS
    rw[cP,cP,p7 hjn]
    simp[hjn]
   constructor
   ·intro h1 h2
    exact h1 fun j hj=>(one j hj).mpr (h2 j hj)
   ·intro h1 h2
    exact h1 fun j hj=>(one j hj).mp (h2 j hj)
  constructor
  ·intro h A hA;exact (key A hA).mp (h A hA)
  ·intro h A hA;exact (key A hA).mpr (h A hA)
 ·simp[hi]
theorem rg {c:Case}{under:List Nat}{S T:Nat}(h:within S T=true):within (bS c under S) (bS c under T)=true:=(ax _ _).mpr fun i hi=>by
 unfold bS at hi ⊢
 rw[cP]at hi ⊢
 simp only[Bool.and_eq_true,decide_eq_true_eq,List.any_eq_true]at hi ⊢
 obtain⟨h1,A,hA,hw⟩:=hi
 exact⟨h1,A,hA,cg hw h⟩
theorem wC {c:Case}{under:List Nat}{S T:Nat}(h:within S T=true):within (bJ c under S) (bJ c under T)=true:=(ax _ _).mpr fun i hi=>by
 unfold bJ at hi ⊢
 rw[cP]at hi ⊢
 simp only[Bool.and_eq_true,decide_eq_true_eq,List.all_eq_true,bne_iff_ne]at hi ⊢
 refine⟨hi.1,fun A hA=>?_⟩
 have:=hi.2 A hA
 intro z
 apply this
 rw[and_zero_iff]at z ⊢
 intro j hj
 have hz:=z j hj
 cases e:held (bS c under S) j with
 |false=>rfl
 |true=>rw[(ax _ _).mp (rg h) j e]at hz;cases hz
theorem vi (c:Case)(under:List Nat)(S:Nat):bJ c under S<2^c.rules.length:=yl _ _
def aB (c:Case)(under:List Nat)(R:Nat):Nat->Nat
 |0=>0
 |k+1=>bJ c under (aB c under R k)&&&R
theorem kD (c:Case)(under:List Nat)(R k:Nat):within (aB c under R k) (aB c under R (k+1))=true:=by
 induction k with
 |zero=>exact q5 _
 |succ k ih=>
  refine (ax _ _).mpr fun i hi=>?_
  show held (bJ c under (aB c under R (k+1))&&&R) i=true
  have hi:held (bJ c under (aB c under R k)&&&R) i=true:=hi
  rw[fA,Bool.and_eq_true]at hi ⊢
  exact⟨(ax _ _).mp (wC ih) i hi.1,hi.2⟩
theorem u0 {c:Case}{under:List Nat}{R j k:Nat}(h:j<=k):within (aB c under R j) (aB c under R k)=true:=by
 induction k with
 |zero=>
  have:j=0:=by omega
  subst this;exact cb _
 |succ k ih=>
  by_cases e:j=k+1
  ·subst e;exact cb _
  ·exact cg (ih (by omega)) (kD c under R k)
theorem sI (c:Case)(under:List Nat)(R k:Nat):aB c under R k<2^c.rules.length:=by
 cases k with
 |zero=>exact Nat.two_pow_pos _
 |succ k=>exact Nat.lt_of_le_of_lt Nat.and_le_left (vi c under _)
theorem ke {c:Case}{under:List Nat}{R m:Nat}(h:aB c under R (m+1)=aB c under R m):∀k,m<=k->aB c under R k=aB c under R m:=by
 intro k
 induction k with
 |zero=>
  intro hk
  have:m=0:=by omega
  subst this;rfl
 |succ k ih=>
  intro hk
  by_cases e:m=k+1
  ·subst e;rfl
  ·have:=ih (by omega)
   rw[<-h]
   show bJ c under (aB c under R k)&&&R=bJ c under (aB c under R m)&&&R
   rw[this]
theorem oN (c:Case)(under:List Nat)(S f G:Nat):(seenBy c under).inFrom S (f+1) G=if bJ c under G&&&S=G then [] else (bJ c under G&&&S) :: (seenBy c under).inFrom S f (bJ c under G&&&S):=by
 rw[vz]
 rfl
theorem p8 {c:Case}{under:List Nat}{R k:Nat}(h:aB c under R (k+1)≠aB c under R k):cV c.rules.length (aB c under R (k+1))<cV c.rules.length (aB c under R k):=by
 have:∃i,held (aB c under R k) i=false/\held (aB c under R (k+1)) i=true:=by
  apply Classical.byContradiction
  intro hn
  refine h (bF fun i=>?_)
  cases a:held (aB c under R k) i with
  |true=>rw[(ax _ _).mp (kD c under R k) i a]
  |false=>
   cases b:held (aB c under R (k+1)) i with
   |false=>rfl
   |true=>exact absurd ⟨i,a,b⟩ hn
 obtain⟨i,h1,h2⟩:=this
 exact lS (kD c under R k) (gX (sI c under R (k+1)) h2) h1 h2
theorem rj {c:Case}{under:List Nat}{R:Nat}:∀(f k:Nat),cV c.rules.length (aB c under R k)<f->∃m,k<=m/\(seenBy c under).inFrom R f (aB c under R k)=(List.range (m-k)).map (fun i=>aB c under R (k+i+1))/\aB c under R (m+1)=aB c under R m/\∀i,k<=i->i<m->aB c under R (i+1)≠aB c under R i:=by
 intro f
 induction f with
 |zero=>intro k h;omega
 |succ f ih=>
  intro k h
  rw[oN]
  by_cases e:aB c under R (k+1)=aB c under R k
  ·have e':bJ c under (aB c under R k)&&&R=aB c under R k:=e
   rw[if_pos e']
   exact⟨k,Nat.le_refl _,by simp,e,fun i h1 h2=>by omega⟩
  ·have e':¬bJ c under (aB c under R k)&&&R=aB c under R k:=e
   rw[if_neg e']
   obtain⟨m,h1,h2,h3,h4⟩:=ih (k+1) (by have:=p8 e;omega)
   refine⟨m,by omega,?_,h3,fun i hi1 hi2=>?_⟩
   ·have:m-k=(m-(k+1))+1:=by omega
    rw[this,List.range_succ_eq_map,List.map_cons,List.map_map]
    show aB c under R (k+1) :: (seenBy c under).inFrom R f (aB c under R (k+1))=_
    rw[h2]
    congr 1
    refine List.map_congr_left fun i _=>?_
    show aB c under R (k+1+i+1)=aB c under R (k+(i+1)+1)
    congr 1
    omega
   ·by_cases z:i=k
    ·subst z;exact e
    ·exact h4 i (by omega) hi2
theorem oz (c:Case)(under:List Nat)(R:Nat):∃m,(seenBy c under).inFrom R ((seenBy c under).n+1) 0=(List.range m).map (fun i=>aB c under R (i+1))/\aB c under R (m+1)=aB c under R m:=by
 obtain⟨m,_,h2,h3,_⟩:=rj (c:=c) (under:=under) (R:=R) ((seenBy c under).n+1) 0 (by
  unfold cV
  have:=List.length_filter_le (fun i=>!held (aB c under R 0) i) (List.range c.rules.length)
  rw[List.length_range]at this
  show _<c.rules.length+1
  omega)
 refine⟨m,?_,h3⟩
 rw[show (0:Nat)=aB c under R 0 from rfl,h2]
 simp
theorem vQ {c:Case}{under:List Nat}{R m:Nat}:(((List.range m).map fun i=>aB c under R (i+1)).getLast?).getD 0=aB c under R m:=by
 cases m with
 |zero=>rfl
 |succ m=>rw[List.range_succ,List.map_append];simp
def rankIs (c:Case)(under:List Nat)(R i k:Nat):Prop:=(k=0/\∀j,held (aB c under R j) i=false)∨(1<=k/\held (aB c under R k) i=true/\∀j,j<k->held (aB c under R j) i=false)
theorem rankIs.uniq {c:Case}{under:List Nat}{R i j k:Nat}(a:rankIs c under R i j)(b:rankIs c under R i k):j=k:=by
 rcases a with ⟨rfl,a⟩|⟨a1,a2,a3⟩<;>rcases b with ⟨rfl,b⟩|⟨b1,b2,b3⟩
 ·rfl
 ·rw[a k]at b2;cases b2
 ·rw[b j]at a2;cases a2
 ·rcases Nat.lt_trichotomy j k with h|h|h
  ·rw[b3 j h]at a2;cases a2
  ·exact h
  ·rw[a3 k h]at b2;cases b2
theorem vq {c:Case}{under:List Nat}{R m i:Nat}(hm:aB c under R (m+1)=aB c under R m):rankIs c under R i (match ((List.range m).map fun i=>aB c under R (i+1)).findIdx? (held · i) with|some k=>k+1|none=>0):=by
 rw[List.findIdx?_map]
 cases e:(List.range m).findIdx? ((held · i) ∘ fun i=>aB c under R (i+1)) with
 |some k=>
  rw[List.findIdx?_eq_some_iff_getElem]at e
  obtain⟨hl,hp,hb⟩:=e
  simp only[List.getElem_range,Function.comp]at hp hb
  refine .inr ⟨by simp,hp,fun j hj=>?_⟩
  have hj:j<k+1:=hj
  cases j with
  |zero=>exact bh i
  |succ j=>
   have:=hb j (by omega)
   simpa using this
 |none=>
  rw[List.findIdx?_eq_none_iff]at e
  refine .inl ⟨rfl,fun j=>?_⟩
  have all:∀j,j<=m->held (aB c under R j) i=false:=fun j hj=>by
   cases j with
   |zero=>exact bh i
   |succ j=>
    have:=e j (by simp;omega)
    exact this
  by_cases h:j<=m
  ·exact all j h
  ·rw[ke hm j (by omega)];exact all m (Nat.le_refl _)
def cE (c:Case)(under:List Nat)(R:Nat):Nat:=((seenBy c under).inFrom R ((seenBy c under).n+1) 0).getLast?.getD 0
theorem vP {c:Case}{under:List Nat}{R i:Nat}:held (cE c under R) i=true↔∃k,held (aB c under R k) i=true:=by
 obtain⟨m,h1,h2⟩:=oz c under R
 unfold cE
 rw[h1,vQ]
 constructor
 ·intro h;exact⟨m,h⟩
 ·rintro⟨k,hk⟩
  by_cases h:k<=m
  ·exact (ax _ _).mp (u0 h) i hk
  ·rw[ke h2 k (by omega)]at hk;exact hk
theorem tP {c:Case}{under:List Nat}{S:Nat}{l:List Nat}(hl:l.length=c.rules.length)(h:∀i k,l[i]?=some k->rankIs c under S i k):(seenBy c under).leastRanks S=if cE c under S=S then some l else none:=by
 obtain⟨m,h1,h2⟩:=oz c under S
 unfold Seen.leastRanks cE
 simp only
 rw[h1]
 congr 2
 apply List.ext_getElem?
 intro i
 rw[List.getElem?_map]
 by_cases hi:i<c.rules.length
 ·have e:(List.range (seenBy c under).n)[i]?=some i:=by
   show (List.range c.rules.length)[i]?=some i
   simp[hi]
  rw[e]
  have hil:i<l.length:=by omega
  have hx:l[i]?=some l[i]:=by simp[hil]
  rw[hx]
  show some _=some _
  congr 1
  exact (vq h2).uniq (h i _ hx)
 ·have e:(List.range (seenBy c under).n)[i]?=none:=by
   show (List.range c.rules.length)[i]?=none
   simp[hi]
  rw[e,List.getElem?_eq_none (by omega)]
  rfl
theorem jQ (c:Case)(under:List Nat):∀(f G:Nat),(seenBy c under).roundsFrom (seenBy c under).all f G=(seenBy c under).inFrom (seenBy c under).all f G
 |0,G=>rfl
 |f+1,G=>by
  have e:bJ c under G&&&(seenBy c under).all=bJ c under G:=by
   refine bF fun i=>?_
   rw[fA]
   cases h:held (bJ c under G) i with
   |false=>rfl
   |true=>
    have hi:=gX (vi c under G) h
    show (true&&(2^c.rules.length-1).testBit i)=true
    rw[Nat.testBit_two_pow_sub_one]
    simp[hi]
  rw[oN,e]
  have e2:(seenBy c under).roundsFrom (seenBy c under).all (f+1) G=if bJ c under G=G then [] else bJ c under G :: (seenBy c under).roundsFrom (seenBy c under).all f (bJ c under G):=by
   rw[vz];rfl
  rw[e2,jQ c under f]
theorem gi (c:Case)(under:List Nat):(seenBy c under).ground=cE c under (2^c.rules.length-1):=by
 unfold Seen.ground Seen.groundOf Seen.rounds cE
 rw[jQ]
 rfl
def gB (n S T:Nat):Prop:=sizeOfSet n S<sizeOfSet n T∨(sizeOfSet n S=sizeOfSet n T/\S<T)
theorem fV (n:Nat):∀(l:List Nat)(b:Option Nat),∃r,l.foldl (fun (b:Option Nat) (S:Nat)=>match b with
 |none=>some S
 |some T=>if sizeOfSet n S<sizeOfSet n T∨(sizeOfSet n S=sizeOfSet n T/\S<T) then some S else some T) b=r/\(r=none↔b=none/\l=[])/\∀S,r=some S->(b=some S∨S∈l)/\(∀T,b=some T∨T∈l->¬gB n T S)
 |[],b=>⟨b,rfl,by simp,fun S h=>⟨.inl h,fun T hT=>by
   rcases hT with z|z
   ·rw[h]at z;cases z;unfold gB;omega
   ·cases z⟩⟩
 |x :: l,b=>by
  rw[List.foldl_cons]
  cases b with
  |none=>
   obtain⟨r,h1,h2,h3⟩:=fV n l (some x)
   refine⟨r,h1,?_,fun S hS=>?_⟩
   ·rw[h2];simp
   ·obtain⟨a,b⟩:=h3 S hS
    refine⟨?_,fun T hT=>b T ?_⟩
    ·rcases a with z|z
     ·cases z;exact .inr (by simp)
     ·exact .inr (by simp[z])
    ·rcases hT with z|z
     ·cases z
     ·rcases List.mem_cons.mp z with e|e
      ·subst e;exact .inl rfl
      ·exact .inr e
  |some y=>
   simp only
   by_cases hk:sizeOfSet n x<sizeOfSet n y∨(sizeOfSet n x=sizeOfSet n y/\x<y)
   ·rw[if_pos hk]
    obtain⟨r,h1,h2,h3⟩:=fV n l (some x)
    refine⟨r,h1,?_,fun S hS=>?_⟩
    ·rw[h2];simp
    ·obtain⟨a,b⟩:=h3 S hS
     refine⟨?_,fun T hT=>?_⟩
     ·rcases a with z|z
      ·cases z;exact .inr (by simp)
      ·exact .inr (by simp[z])
     ·rcases hT with z|z
      ·cases z
       have:=b x (.inl rfl)
       unfold gB at this ⊢
       omega
      ·rcases List.mem_cons.mp z with e|e
       ·subst e;exact b T (.inl rfl)
       ·exact b T (.inr e)
   ·rw[if_neg hk]
    obtain⟨r,h1,h2,h3⟩:=fV n l (some y)
    refine⟨r,h1,?_,fun S hS=>?_⟩
    ·rw[h2];simp
    ·obtain⟨a,b⟩:=h3 S hS
     refine⟨?_,fun T hT=>?_⟩
     ·rcases a with z|z
      ·exact .inl z
      ·exact .inr (by simp[z])
     ·rcases hT with z|z
      ·exact b T (.inl z)
      ·rcases List.mem_cons.mp z with e|e
       ·subst e
        have:=b y (.inl rfl)
        unfold gB at this ⊢
        omega
       ·exact b T (.inr e)
theorem vU {n:Nat}{l:List Nat}{S:Nat}(h1:S∈l)(h2:∀T∈l,¬gB n T S):fewest n l=some S:=by
 obtain⟨r,e1,e2,e3⟩:=fV n l none
 have e1:fewest n l=r:=e1
 rw[e1]
 cases r with
 |none=>
  have:=(e2.mp rfl).2
  subst this;cases h1
 |some T=>
  obtain⟨a,b⟩:=e3 T rfl
  have hT:T∈l:=by
   rcases a with z|z
   ·cases z
   ·exact z
  have x1:=h2 T hT
  have x2:=b S (.inr h1)
  unfold gB at x1 x2
  congr 1
  omega
theorem mem_every {c:Case}{under:List Nat}{S:Nat}:S∈(seenBy c under).every↔S<2^c.rules.length:=by
 show S∈List.range (2^c.rules.length)↔_
 simp
theorem rc {c:Case}{under:List Nat}{l:Nat}(h:∀S,S<2^c.rules.length->within S (cE c under (2^c.rules.length-1))=true->held (c.numbered.follows S) l=true->cE c under S≠S):(seenBy c under).reason l=none:=by
 unfold Seen.reason
 have:((seenBy c under).every.filter fun S=>within S (seenBy c under).ground&&((seenBy c under).has S l&&((seenBy c under).leastRanks S).isSome))=[]:=by
  rw[List.filter_eq_nil_iff]
  intro S hS
  have hS:S<2^c.rules.length:=mem_every.mp hS
  intro z
  rw[Bool.and_eq_true,Bool.and_eq_true,gi]at z
  obtain⟨z1,z2,z3⟩:=z
  refine h S hS z1 z2 ?_
  unfold Seen.leastRanks at z3
  unfold cE
  simp only at z3
  split at z3
  ·assumption
  ·cases z3
 rw[this]
 rfl
theorem rP {c:Case}{under:List Nat}{l S:Nat}{rs:List Nat}{d:List Step}(hS:S<2^c.rules.length)(h1:within S (cE c under (2^c.rules.length-1))=true)(h2:held (c.numbered.follows S) l=true)(h3:cE c under S=S)
  (h4:∀T,T<2^c.rules.length->within T (cE c under (2^c.rules.length-1))=true->held (c.numbered.follows T) l=true->cE c under T=T->¬gB c.rules.length T S)
  (hl:rs.length=c.rules.length)(hr:∀i k,rs[i]?=some k->rankIs c under S i k)(hd:c.numbered.derive S l=some d):(seenBy c under).reason l=some (S,rs,d):=by
 have hk:∀T,((seenBy c under).leastRanks T).isSome=true↔cE c under T=T:=by
  intro T
  unfold Seen.leastRanks cE
  simp only
  constructor
  ·intro z
   split at z
   ·assumption
   ·cases z
  ·intro z
   rw[if_pos z]
   rfl
 unfold Seen.reason
 have e:fewest (seenBy c under).n ((seenBy c under).every.filter fun S=>within S (seenBy c under).ground&&((seenBy c under).has S l&&((seenBy c under).leastRanks S).isSome))=some S:=by
  refine vU ?_ fun T hT=>?_
  ·rw[List.mem_filter]
   refine⟨mem_every.mpr hS,?_⟩
   rw[Bool.and_eq_true,Bool.and_eq_true,gi]
   exact⟨h1,h2,(hk S).mpr h3⟩
  ·rw[List.mem_filter,Bool.and_eq_true,Bool.and_eq_true,gi]at hT
   obtain⟨t0,t1,t2,t3⟩:=hT
   exact h4 T (mem_every.mp t0) t1 t2 ((hk T).mp t3)
 rw[e]
 simp only
 rw[tP hl hr,if_pos h3]
 have:(seenBy c under).nums.derive S l=some d:=hd
 rw[this]
end My
namespace My
open Mo MoD MoDNeutral
def ff (t:B)(oc:Option Mo.Case):Int:=if 8192<t.length then -1 else match oc with|none=>-6|some _=>0
def dY (l:Nat)(t:B)(oc:Option Mo.Case):Int:=if ff t oc=0/\(∃f,oc=some f/\2*f.atoms.length<=l) then -1 else ff t oc
def cQ (t:B):Option Mo.Case:=match Mo.caseIn t with|.ok c=>some c|.error _=>none
theorem oP {t:B}{oc:Option Mo.Case}(h:ff t oc=0):¬8192<t.length/\∃f,oc=some f:=by
 unfold ff at h
 split at h
 ·omega
 ·rename_i hl
  cases oc with
  |none=>simp at h
  |some f=>exact⟨hl,f,rfl⟩
theorem oO {l:Nat}{t:B}{oc:Option Mo.Case}(h:dY l t oc=0):¬8192<t.length/\∃f,oc=some f/\l<2*f.atoms.length:=by
 unfold dY at h
 split at h
 ·omega
 ·rename_i hn
  obtain⟨h1,f,h2⟩:=oP h
  refine⟨h1,f,h2,?_⟩
  apply Decidable.byContradiction
  intro z
  exact hn ⟨h,f,h2,by omega⟩
theorem w4 {t:B}{g:Seen->Answer}(h:ff t (cQ t)≠0):shown (ofCase t g)=[ff t (cQ t)]:=by
 unfold ofCase ff cQ at *
 have ht:TEXT=8192:=rfl
 rw[ht]
 by_cases hl:8192<t.length
 ·rw[if_pos hl,if_pos hl];rfl
 ·rw[if_neg hl,if_neg hl]at *
  cases e:Mo.caseIn t with
  |error f=>rfl
  |ok c=>rw[e]at h;simp at h
theorem oo {t:B}{g:Seen->Answer}{f:Mo.Case}(h:¬8192<t.length)(hf:cQ t=some f):ofCase t g=g f.seen:=by
 unfold ofCase
 have ht:TEXT=8192:=rfl
 rw[ht,if_neg h]
 unfold cQ at hf
 cases e:Mo.caseIn t with
 |error f=>rw[e]at hf;cases hf
 |ok c=>rw[e]at hf;cases hf;rfl
theorem u4 {l:Nat}{t:B}{b:Seen->Bool}{g:Seen->Answer}(h:dY l t (cQ t)≠0)(hb:∀f:Mo.Case,cQ t=some f->¬l<2*f.atoms.length->b f.seen=false):shown (ofCase t fun s=>bounded (b s) (g s))=[dY l t (cQ t)]:=by
 by_cases hT:ff t (cQ t)=0
 ·obtain⟨h1,f,h2⟩:=oP hT
  have hl:2*f.atoms.length<=l:=by
   apply Decidable.byContradiction
   intro z
   refine h ?_
   unfold dY
   rw[if_neg,hT]
   rintro⟨_,f',e,z'⟩
   rw[h2]at e
   cases e
   exact z z'
  rw[oo h1 h2]
  unfold bounded
  rw[hb f h2 (by omega)]
  have:dY l t (cQ t)=-1:=by
   unfold dY
   exact if_pos ⟨hT,f,h2,hl⟩
  rw[this]
  rfl
 ·rw[w4 hT]
  unfold dY
  rw[if_neg (fun z=>hT z.1)]
theorem Ai {l:Nat}{t:B}{b:Seen->Bool}{g:Seen->Answer}(h:dY l t (cQ t)=0)(hb:∀f:Mo.Case,cQ t=some f->l<2*f.atoms.length->b f.seen=true):∃f,cQ t=some f/\l<2*f.atoms.length/\shown (ofCase t fun s=>bounded (b s) (g s))=shown (g f.seen):=by
 obtain⟨h1,f,h2,h3⟩:=oO h
 refine⟨f,h2,h3,?_⟩
 rw[oo h1 h2]
 unfold bounded
 rw[hb f h2 h3]
 rfl
theorem yn (t:B):nats (t.map fun c:Nat=>(c:Int))=t:=by
 unfold nats
 rw[List.map_map]
 conv=>rhs;rw[<-List.map_id t]
 exact List.map_congr_left fun c _=>Int.toNat_natCast c
theorem tQ (l:Nat)(t:B):PyWqalbt.reason l (t.map fun c:Nat=>(c:Int))=shown (MoD.answer (.reason l t)):=by
 show shown (MoD.answer (.reason ((l:Int)).toNat (nats (t.map fun c:Nat=>(c:Int)))))=_
 rw[yn,Int.toNat_natCast]
end My
set_option maxHeartbeats 4000000
namespace My
open PySem PySem.Spec PyProof.Rows L2
abbrev st (b:B):Str:=⟨b.toArray⟩
theorem gh {a b:B}(h:st a=st b):a=b:=by
 have:=congrArg (fun s:Str=>s.cps.toList) h
 simpa[st] using this
theorem bt (b:B):(st b).length=b.length:=by
 rw[TL.len_tl,TL.tl_mk]
def GV (mg:Str->Option Value)(x:Str)(v:V):Prop:=∃u,mg x=some u/\RelV v u
section
variable {X:Cx}
theorem aQ {x:Str} {v:V} {pos:Pos} (hg:Gl X x) (h:GV X.mg x v) (hd:(x==("__debug__":Str))=false:=by decide):PE X (.Name x pos) (tC v):=by
 obtain⟨u,hm,r⟩:=h
 exact xY hg hm r hd
end
def Cal (P:Program)(w:World)(K:PySem.W.Frag)(mg:Str->Option Value)(base:Heap)(x:Str)(ps:List Str)(k:Nat)(sp:Sp):Prop:=
 ∃f fd,mg x=some (.ref f)/\PySem.W.keepIn K (.ref f)=true/\Binds K fd ps []/\FnOk P w K mg base CX0 k f fd ps sp
theorem ao {X:Cx}{x:Str}{ps:List Str}{k:Nat}{sp:Sp}{p pos:Pos}{e:Expr}{es:List Expr}{t:TA}
  (C:Cal X.prog X.w X.K X.mg X.base x ps k sp) (hr:Room k X.A) (hg:Gl X x) (ha:PA X (e :: es) t) (hdb:(x==("__debug__":Str))=false:=by decide)
  (he:starEach (e :: es) X.env=(false,eval e X.env) :: starEach es X.env:=by rfl) (hpl:(backTo pos (starEach es X.env)).any (·.1)=false:=by rfl) :
  PE X (.Call (.Name x p) (e :: es) [] pos) (px sp [] E0 t):=by
 obtain⟨f,fd,h1,h2,h3,h4⟩:=C
 exact xV h4 hr hg h1 h2 h3 .nil pq ha hdb he hpl
theorem xX {X:Cx}{x:Str}{ps:List Str}{k:Nat}{sp:Sp}{p pos:Pos}
  (C:Cal X.prog X.w X.K X.mg X.base x ps k sp) (hr:Room k X.A) (hg:Gl X x) (hdb:(x==("__debug__":Str))=false:=by decide) :
  PE X (.Call (.Name x p) [] [] pos) (px sp [] E0 ni):=by
 obtain⟨f,fd,h1,h2,h3,h4⟩:=C
 exact wx h4 hr hg h1 h2 h3 .nil pq hdb
def DefAt (K:PySem.W.Frag)(mg:Str->Option Value)(x:Str)(s:Stmt)(ps:List Str):Prop:=
 ∃f fd,mg x=some (.ref f)/\Fun K x x s f fd/\Binds K fd ps []
theorem DefAt.ok {P:Program}{w:World}{K:PySem.W.Frag}{mg:Str->Option Value}{base:Heap}{x:Str}{s:Stmt}{ps N:List Str}{k:Nat}{sp:Sp}
  (D:DefAt K mg x s ps)(S:FnScope N ps (ai s))(len:∀vs H Q E,sp vs H Q E->vs.length=ps.length)
  (hbody:∀(f:Addr)(cdv:Value)(A:Around)(outer:List Env)(s0:Shared)(H:Hp)(vs:List V)(Q:VK)(E:XK),Room k (A.deeper (envOfC x (ai s) s0.heap.objs.size f cdv))->sp vs H Q E->
   ∃t,PSs (jf CX0 P w K mg base N x (ai s) f cdv A outer s0 H E).nox (b8 s) t/\t { nx:=fun _ H'=>Q .non H',rt:=Q } (start N vs) H) :
  Cal P w K mg base x ps (k+1) sp:=by
 obtain⟨f,fd,h1,h2,h3⟩:=D
 exact⟨f,fd,h1,h2.kp,h3,h2.ok S len (hbody f)⟩
theorem Cal.mono {P:Program}{w:World}{K:PySem.W.Frag}{mg:Str->Option Value}{base:Heap}{x:Str}{ps:List Str}{j k:Nat}{sp:Sp}(C:Cal P w K mg base x ps j sp)(h:j<=k):Cal P w K mg base x ps k sp:=by
 obtain⟨f,fd,h1,h2,h3,h4⟩:=C
 exact⟨f,fd,h1,h2,h3,h4.mono h⟩
theorem Cal.imp {P:Program}{w:World}{K:PySem.W.Frag}{mg:Str->Option Value}{base:Heap}{x:Str}{ps:List Str}{k:Nat}{sp sp':Sp}(C:Cal P w K mg base x ps k sp)(h:∀vs H Q E,sp' vs H Q E->sp vs H Q E):Cal P w K mg base x ps k sp':=by
 obtain⟨f,fd,h1,h2,h3,h4⟩:=C
 exact⟨f,fd,h1,h2,h3,h4.imp h⟩
def Mkr (P:Program)(w:World)(K:PySem.W.Frag)(mg:Str->Option Value)(base:Heap)(x:Str)(C:Addr)(ps:List Str)(k:Nat)(sp:Sp):Prop:=
 ∃f fd,mg x=some (.ref C)/\Mk K C f/\Binds K fd ps []/\FnOk P w K mg base CX0 k f fd ps sp
theorem x5 {X:Cx}{x:Str}{C:Addr}{ps:List Str}{k:Nat}{sp:Sp}{p pos:Pos}
  (M:Mkr X.prog X.w X.K X.mg X.base x C ps k sp) (hr:Room (k+1) X.A) (hg:Gl X x) (hdb:(x==("__debug__":Str))=false:=by decide) :
  PE X (.Call (.Name x p) [] [] pos) (xC C sp [] E0 ni):=by
 obtain⟨f,fd,h1,h2,h3,h4⟩:=M
 exact wY h2 h4 hr hg h1 h3 .nil pq hdb
def mkd (H:Hp)(C x dx:Addr)(fs:List (Str×V)):Hp:=upd (upd H dx (.own x)) x (.ins C dx fs)
theorem gj {H:Hp}{C x dx:Addr}{fs:List (Str×V)}:mkd H C x dx fs x=some (.ins C dx fs):=af
theorem cu {H:Hp}{C x dx:Addr}{fs:List (Str×V)}(hx:H x=none)(hd:H dx=none):Same H (mkd H C x dx fs):=fun b o e=>by
 unfold mkd
 rw[ae (aD e hx),ae (aD e hd)]
 exact e
def j9 (C:Addr)(ns:List Str):Sp:=fun vs H Q _=>∃p dx as,vs=.ref p :: as/\as.length=ns.length/\H p=some (.ins C dx [])/\Q .non (upd H p (.ins C dx (ns.zip as)))
def z5 (C:Addr)(ns:List Str)(t:TA):TE:=fun σ H Q=>t σ H fun vs H1=>vs.length=ns.length/\∀x dx,H1 x=none->H1 dx=none->dx≠x->Q (.ref x) (mkd H1 C x dx (ns.zip vs))
theorem ga {X:Cx}{x:Str}{C:Addr}{ns ps:List Str}{k:Nat}{p pos:Pos}{e:Expr}{es:List Expr}{t:TA}
  (M:Mkr X.prog X.w X.K X.mg X.base x C ps k (j9 C ns)) (hr:Room (k+1) X.A) (hg:Gl X x) (ha:PA X (e :: es) t) (hdb:(x==("__debug__":Str))=false:=by decide)
  (he:starEach (e :: es) X.env=(false,eval e X.env) :: starEach es X.env:=by rfl) (hpl:(backTo pos (starEach es X.env)).any (·.1)=false:=by rfl) :
  PE X (.Call (.Name x p) (e :: es) [] pos) (z5 C ns t):=by
 obtain⟨f,fd,h1,h2,h3,h4⟩:=M
 intro pins s σ H Q I h
 refine wpAny_Call_Name_kw (i8 I hg h1 ?_ hdb)
 refine PySem.W.callWith_K (h₀:=X.base) I.ok.mod.kin h2.kp (thn (ha pos pins s σ H _ I h) fun us s1 ⟨vs,H1,I1,r,q1,q2⟩=>⟨I1.kIn,?_⟩) he hpl
 refine qQ (E:=E0) h2 h4 hr h3 .nil pq I1 r fun x dx hx hdx hne=>⟨x,dx,vs,by rw[List.append_nil],q1,af,rfl,?_⟩
 rw[bW]
 exact q2 x dx hx hdx hne
theorem ak {H:Hp}{p:Addr}{o:HO}(h:H p=none):Same H (upd H p o):=fun b u e=>by
 rw[ae (aD e h)]
 exact e
theorem aN {H H':Hp}{p:Addr}{o:HO}(s:Same H H')(h:H p=none):Same H (upd H' p o):=fun b u e=>by
 rw[ae (aD e h)]
 exact s b u e
def ClassAt (K:PySem.W.Frag)(mg:Str->Option Value)(x:Str)(s:Stmt)(C:Addr)(ps:List Str):Prop:=
 ∃f fd,mg x=some (.ref C)/\Mk K C f/\Fun K "__init__" (x++".__init__") s f fd/\Binds K fd ps []
theorem ClassAt.ok {P:Program}{w:World}{K:PySem.W.Frag}{mg:Str->Option Value}{base:Heap}{x:Str}{C:Addr}{s:Stmt}{ps N:List Str}{k:Nat}{sp:Sp}
  (D:ClassAt K mg x s C ps)(S:FnScope N ps (ai s))(len:∀vs H Q E,sp vs H Q E->vs.length=ps.length)
  (hbody:∀(f:Addr)(cdv:Value)(A:Around)(outer:List Env)(s0:Shared)(H:Hp)(vs:List V)(Q:VK)(E:XK),Room k (A.deeper (envOfC (x++".__init__") (ai s) s0.heap.objs.size f cdv))->sp vs H Q E->
   ∃t,PSs (jf CX0 P w K mg base N (x++".__init__") (ai s) f cdv A outer s0 H E).nox (b8 s) t/\t { nx:=fun _ H'=>Q .non H',rt:=Q } (start N vs) H) :
  Mkr P w K mg base x C ps (k+1) sp:=by
 obtain⟨f,fd,h1,h2,h3,h4⟩:=D
 exact⟨f,fd,h1,h2,h4,h3.ok S len (hbody f)⟩
theorem lc_ {sc:Scope}{x:Str}(h:sc.names.lookup x=some .local∨sc.names.lookup x=some .cell:=by first|exact Or.inl rfl|exact Or.inr rfl):Loc sc x:=h
structure Plain (J:It)(n:Nat)(I:Nat->V->Prop)(P:Hp->Prop):Prop where
 go:∀i H,P H->i<n->J.go i H
 stop:∀H,P H->J.stop n H
 yld:∀i H x H',P H->i<n->J.yld i H x H'->H'=H/\I i x
theorem aR {K:PySem.W.Frag}{a:Addr}{xs:List V}:Plain (Itl K a) xs.length (fun i x=>xs[i]?=some x) (fun H=>SqL K H a xs) where
 go:=fun i H h hi=>⟨xs,xs[i],h,by simp[hi]⟩
 stop:=fun H h=>⟨xs,h,Nat.le_refl _⟩
 yld:=fun i H x H' h _ y=>⟨y.1,y.2 xs h⟩
theorem gb {K:PySem.W.Frag}{a:Addr}{xs:List V}:Plain (Itt K a) xs.length (fun i x=>xs[i]?=some x) (fun H=>SqT K H a xs) where
 go:=fun i H h hi=>⟨xs,xs[i],h,by simp[hi]⟩
 stop:=fun H h=>⟨xs,h,Nat.le_refl _⟩
 yld:=fun i H x H' h _ y=>⟨y.1,y.2 xs h⟩
theorem ox {b:B}:Plain (Its (st b)) b.length (fun i x=>∃c,b[i]?=some c/\x=.str (st [c])) (fun _=>True) where
 go:=fun i H _ hi=>(show i<(st b).cps.size by simpa[st] using hi)
 stop:=fun H _=>(show (st b).cps.size<=b.length by simp[st])
 yld:=fun i H x H' _ _ y=>⟨y.1,by
  obtain⟨c,e,r⟩:=y.2
  refine⟨c,?_,r⟩
  simpa[st] using e⟩
theorem jj {d:Addr}{o:Obj}{kvs:List (Key×V)}:Plain (Itk d o kvs) kvs.length (fun i x=>∃k v,kvs[i]?=some (k,v)/\x=kV k) (fun H=>H d=some (.frz o (.dK kvs))) where
 go:=fun i H h hi=>⟨h,hi⟩
 stop:=fun H h=>⟨h,Nat.le_refl _⟩
 yld:=fun i H x H' h _ y=>y
theorem tT {d:Addr}{o:Obj}{kvs:List (Key×V)}:Plain (Itd d o kvs) kvs.length (fun i x=>∃k,kvs[i]?=some (k,x)) (fun H=>H d=some (.frz o (.dK kvs))) where
 go:=fun i H h hi=>⟨h,hi⟩
 stop:=fun H h=>⟨h,Nat.le_refl _⟩
 yld:=fun i H x H' h _ y=>y
theorem d3 {lo:Int}{n:Nat}:Plain (Itr lo n) n (fun i x=>x=.int (lo+i)) (fun _=>True) where
 go:=fun i H _ hi=>hi
 stop:=fun H _=>Nat.le_refl _
 yld:=fun i H x H' _ _ y=>y
theorem cz {J:It}{n:Nat}{I:Nat->V->Prop}{P:Hp->Prop}(pl:Plain J n I P){g:TG}{tb:TS}{D:Ends}{σ:L2.St}{H:Hp}(Pv:Nat->L2.St->Hp->Prop)(h0:Pv 0 σ H)(hl:∀i σ H,i<=n->Pv i σ H->P H)
  (hs:∀i x σ H,i<n->I i x->Pv i σ H->g x σ H fun σ2 H2=>tb { D with nx:=Pv (i+1),ct:=Pv (i+1),bk:=D.nx } σ2 H2)(hd:∀σ H,Pv n σ H->D.nx σ H):
  ∃W:Nat->Nat->L2.St->Hp->Prop,(∃m,W 0 m σ H)/\∀i m σ H,W i m σ H->
   (J.stop i H/\D.nx σ H)∨(J.go i H/\∃N:L2.St->Hp->Prop,(∀σ' H',N σ' H'->∃m',m'<m/\W (i+1) m' σ' H')/\∀x H',J.yld i H x H'->g x σ H' fun σ2 H2=>tb { D with nx:=N,ct:=N,bk:=D.nx } σ2 H2):=by
 refine⟨fun i m σ H=>m=n-i/\i<=n/\Pv i σ H,⟨n,by simp,Nat.zero_le _,h0⟩,?_⟩
 rintro i m σ H ⟨rfl,hi,p⟩
 have q:=hl i σ H hi p
 by_cases hlt:i<n
 ·refine .inr ⟨pl.go i H q hlt,Pv (i+1),fun σ' H' p'=>⟨n-(i+1),by omega,rfl,hlt,p'⟩,fun x H' y=>?_⟩
  obtain⟨e,y2⟩:=pl.yld i H x H' q hlt y
  subst e
  exact hs i x σ _ hlt y2 p
 ·have e:i=n:=by omega
  subst e
  exact .inl ⟨pl.stop H q,hd σ H p⟩
theorem jG {K : PySem.W.Frag} {l : Addr} {xs : List V} {a b : Nat} {tb : TS} {D : Ends} {σ : L2.St} {H : Hp} (Pv : Nat → L2.St → Hp → Prop) (h0 : Pv 0 σ H) (hl : ∀ i σ H, i ≤ xs.length → Pv i σ H → SqL K H l xs)
    (hs : ∀ i x σ H T, xs[i]? = some x → Pv i σ H → H T = none → tb { D with nx := Pv (i + 1), ct := Pv (i + 1), bk := D.nx } ((σ.set a (some (.int (i : Nat)))).set b (some x)) (upd H T (.tup [.int (i : Nat), x])))
    (hd : ∀ σ H, Pv xs.length σ H → D.nx σ H) :
    ∃ W : Nat → Nat → L2.St → Hp → Prop, (∃ m, W 0 m σ H) ∧ ∀ i m σ H, W i m σ H →
      ((Ite K l).stop i H ∧ D.nx σ H) ∨ ((Ite K l).go i H ∧ ∃ N : L2.St → Hp → Prop, (∀ σ' H', N σ' H' → ∃ m', m' < m ∧ W (i + 1) m' σ' H') ∧
        ∀ x H', (Ite K l).yld i H x H' → tO K 2 (ml (fi a) (ml (fi b) wg)) x σ H' fun σ2 H2 => tb { D with nx := N, ct := N, bk := D.nx } σ2 H2) := by
  refine ⟨fun i m σ H => m = xs.length - i ∧ i ≤ xs.length ∧ Pv i σ H, ⟨xs.length, by simp, Nat.zero_le _, h0⟩, ?_⟩
  rintro i m σ H ⟨rfl, hi, p⟩
  have q := hl i σ H hi p
  by_cases hlt : i < xs.length
  · refine .inr ⟨⟨xs, xs[i], q, by simp [hlt]⟩, Pv (i + 1), fun σ' H' p' => ⟨xs.length - (i + 1), by omega, rfl, hlt, p'⟩, fun x H' y => ?_⟩
    obtain ⟨T, x', e, hT, rfl, y⟩ := y
    subst e
    exact ⟨T, _, rfl, SqT.of af, rfl, _, _, rfl, _, _, rfl, rfl, hs i x' σ H T (y xs q) p hT⟩
  · have e : i = xs.length := by omega
    subst e
    exact .inl ⟨⟨xs, q, Nat.le_refl _⟩, hd σ H p⟩
theorem cy {J:It}{n:Nat}{I:Nat->V->Prop}{P:Hp->Prop}(pl:Plain J n I P){g:TG}{tt:TT}{te:TE}{vs:List Nat}{σ:L2.St}{H1:Hp}{D:Addr}{Qd:Hp->Prop}(ys:List V)(hn:ys.length=n)(hz:n<=sizeLine)
  (hD:H1 D=none)(hP:∀H,Same H1 H->P H)
  (hs:∀i x y H,I i x->ys[i]?=some y->Same H1 H->∀R:V->Hp->Prop,(∀H',Same H H'->R y H')->g x (a9 σ vs) H fun σ2 H2=>a9 σ2 vs=a9 σ vs/\tt σ2 H2 fun b H3=>b=true/\te σ2 H3 R)
  (mono:∀σ2 H2 (R R':Bool->Hp->Prop),(∀b H,R b H->R' b H)->tt σ2 H2 R->tt σ2 H2 R')
  (monog:∀x σ2 H2 (R R':L2.St->Hp->Prop),(∀b H,R b H->R' b H)->g x σ2 H2 R->g x σ2 H2 R')
  (hd:∀H,Same H1 H->H D=some (.lst ys)->Qd H):
  ∃W:Nat->Nat->Hp->Prop,(∃m,W 0 m (upd H1 D (.lst [])))/\∀i m H,W i m H->
   (J.stop i H/\Qd H)∨(J.go i H/\∃Nx:Hp->Prop,(∀H',Nx H'->∃m',m'<m/\W (i+1) m' H')/\∀x H',J.yld i H x H'->g x (a9 σ vs) H' fun σ2 H2=>a9 σ2 vs=a9 σ vs/\tt σ2 H2 fun b H3=>
    if b=true then te σ2 H3 fun y H4=>∃acc,H4 D=some (.lst acc)/\acc.length<sizeLine/\Nx (upd H4 D (.lst (acc++[y]))) else Nx H3):=by
 refine⟨fun i m H=>m=n-i/\i<=n/\Same H1 H/\H D=some (.lst (ys.take i)),⟨n,by simp,Nat.zero_le _,ak hD,by rw[af,List.take_zero]⟩,?_⟩
 rintro i m H ⟨rfl,hi,sm,hDi⟩
 have q:=hP H sm
 by_cases hlt:i<n
 ·refine .inr ⟨pl.go i H q hlt,fun H=>i+1<=n/\Same H1 H/\H D=some (.lst (ys.take (i+1))),fun H' p'=>⟨n-(i+1),by omega,rfl,p'⟩,fun x H' y=>?_⟩
  obtain⟨e,y2⟩:=pl.yld i H x H' q hlt y
  subst e
  have hy:ys[i]?=some ys[i]:=by simp[hn,hlt]
  refine monog _ _ _ _ _ (fun σ2 H2 z=>⟨z.1,mono _ _ _ _ (fun b H3 z2=>?_) z.2⟩) (hs i x ys[i] _ y2 hy sm (fun y H4=>∃acc,H4 D=some (.lst acc)/\acc.length<sizeLine/\i+1<=n/\Same H1 (upd H4 D (.lst (acc++[y])))/\upd H4 D (.lst (acc++[y])) D=some (.lst (ys.take (i+1)))) fun H' s'=>?_)
  ·obtain⟨rfl,z2⟩:=z2
   rw[if_pos rfl]
   exact z2
  ·refine⟨ys.take i,s' _ _ hDi,?_,hlt,aN (Same.trans sm s') hD,?_⟩
   ·rw[List.length_take];omega
   ·rw[af,List.take_succ,hy]
    rfl
 ·have e:i=n:=by omega
  subst e
  refine .inl ⟨pl.stop H q,hd H sm ?_⟩
  rw[hDi,List.take_of_length_le (by omega)]
theorem br {i:Nat}:∀x σ2 H2 (R R':L2.St->Hp->Prop),(∀b H,R b H->R' b H)->fi i x σ2 H2 R->fi i x σ2 H2 R':=fun _ _ _ _ _ h z=>h _ _ z
theorem bB:∀σ2 H2 (R R':Bool->Hp->Prop),(∀b H,R b H->R' b H)->tR σ2 H2 R->tR σ2 H2 R':=fun _ _ _ _ h z=>h _ _ z
theorem gN {c:TT}{tb:TS}{D:Ends}{σ:L2.St}{H:Hp}(Pv:L2.St->Hp->Prop)(μ:L2.St->Hp->Nat)(h0:Pv σ H)
  (hs:∀σ H,Pv σ H->c σ H fun b H1=>if b=true then ∃N:L2.St->Hp->Prop,(∀σ' H',N σ' H'->∃m',m'<μ σ H/\m'=μ σ' H'/\Pv σ' H')/\tb { D with nx:=N,ct:=N,bk:=D.nx } σ H1 else D.nx σ H1):uY c tb D σ H:=
 ⟨fun m σ H=>m=μ σ H/\Pv σ H,⟨_,rfl,h0⟩,fun m σ H ⟨e,p⟩=>by subst e;exact hs σ H p⟩
theorem gT {Pv:L2.St->Hp->Prop}{μ:L2.St->Hp->Nat}{n:Nat}:∀σ' H',(Pv σ' H'/\μ σ' H'<n)->∃m',m'<n/\m'=μ σ' H'/\Pv σ' H':=fun _ _ p=>⟨_,p.2,rfl,p.1⟩
theorem sN:LB<=sizeLine:=by decide
theorem dQ {n:Nat}(h:n<=LB):n<=sizeLine:=Nat.le_trans h sN
theorem c6 (s:String)(b:B)(h:s.toList.map Char.toNat=b):(Str.ofString s)=st b:=TL.ext_tl (by rw[TL.tl_ofString,TL.tl_mk,h])
theorem my:(Str.ofString "abcdefghijklmnopqrstuvwxyz")=st eF:=c6 _ _ (by decide +kernel)
theorem wI:(Str.ofString "abcdefghijklmnopqrstuvwxyz0123456789-")=st mB:=c6 _ _ (by decide +kernel)
theorem wJ:(Str.ofString "abcdefghijklmnopqrstuvwxyz0123456789- ~:,=>")=st lSIGNS:=c6 _ _ (by decide +kernel)
theorem e7 (b:B):(st b).cps.toList=b:=by simp[st]
theorem qC (b:B):lO (st b) (some 1) none=st b.tail:=by
 refine TL.ext_tl ?_
 unfold lO
 rw[TL.tl_mk,TL.tl_mk,e7,bt]
 have e1:HT.sIx b.length 0 (some 1)=min 1 b.length:=HT.sIx_nat _ _ 1
 rw[e1,HT.sIx_none,List.take_of_length_le (by rw[List.length_drop];omega)]
 cases b with
 |nil=>rfl
 |cons c r=>
  have:min 1 (c :: r).length=1:=by simp
  rw[this]
  rfl
theorem lW (b:B):lO (st b) none (some (-1))=st b.dropLast:=by
 refine TL.ext_tl ?_
 unfold lO
 rw[TL.tl_mk,TL.tl_mk,e7,bt]
 have e1:HT.sIx b.length b.length (some (-1))=b.length-1:=by
  show (if (-1:Int)<0 then ((-1:Int)+(b.length:Int)).toNat else min (-1:Int).toNat b.length)=_
  rw[if_pos (by decide)]
  omega
 rw[e1,HT.sIx_none,List.drop_zero,Nat.sub_zero,List.dropLast_eq_take]
theorem sJ (b:B)(c i:Nat):Builtin.Str.subAt (st b) (st [c]) i=((b.drop i).take 1==[c]):=by
 unfold Builtin.Str.subAt
 rw[bt]
 show (b.toArray.extract i (i+1)==[c].toArray)=_
 rw[List.extract_toArray]
 have:List.extract b i (i+1)=(b.drop i).take 1:=by
  rw[List.extract_eq_take_drop]
  congr 1
  omega
 rw[this]
 simp
theorem l9 (b:B)(c:Nat):Txt.startswith (st b) (st [c])=decide (b.head?=some c):=by
 unfold Txt.startswith
 rw[bt,bt,sJ]
 cases b with
 |nil=>simp
 |cons x r=>
  simp
  rfl
theorem qP (b:B)(c:Nat):Txt.endswith (st b) (st [c])=decide (b.getLast?=some c):=by
 unfold Txt.endswith
 rw[bt,bt,sJ]
 cases e:b.getLast? with
 |none=>
  have:b=[]:=by simpa using e
  subst this
  simp
 |some x=>
  obtain⟨r,rfl⟩:∃r,b=r++[x]:=⟨b.dropLast,by
   have h:b≠[]:=by intro h;subst h;simp at e
   have:=List.dropLast_concat_getLast h
   rw[List.getLast?_eq_some_getLast h]at e
   rw[<-Option.some.inj e]
   exact this.symm⟩
  simp
  rfl
theorem gd {κ:Type}[DecidableEq κ]{kvs:List (κ×V)}{k:κ}(h:¬k∈kvs.map (·.1)):az kvs k=none:=by
 cases e:az kvs k with
 |none=>rfl
 |some v=>exact absurd (iU e) h
def sgn (c:Nat):Key×V:=(Sum.inl (c:Int),V.str (st [c]))
def dR:List (Key×V):=lSIGNS.map sgn
theorem sgn_mem {l:B}{c:Nat}:(Sum.inl (c:Int):Key)∈(l.map sgn).map (·.1)↔c∈l:=by
 rw[List.map_map,List.mem_map]
 constructor
 ·rintro⟨x,hx,e⟩
  have e:(Sum.inl (x:Int):Key)=Sum.inl (c:Int):=e
  have:=Sum.inl.inj e
  have:x=c:=by omega
  exact this▸hx
 ·intro h
  exact⟨c,h,rfl⟩
theorem sg:∀{l:B} {c:Nat},c∈l->az (l.map sgn) (Sum.inl (c:Int))=some (V.str (st [c]))
 |x :: r,c,h=>by
  by_cases e:x=c
  ·subst e
   exact bL rfl
  ·have n:¬(sgn x).1=Sum.inl (c:Int):=fun z=>e (by
    have:=Sum.inl.inj (show (Sum.inl (x:Int):Key)=Sum.inl (c:Int) from z)
    omega)
   rw[List.map_cons,bM n]
   exact sg (by
    rcases List.mem_cons.mp h with z|z
    ·exact absurd z.symm e
    ·exact z)
theorem wj (c:Nat):(az dR (Sum.inl (c:Int))).getD (V.str (st [63]))=V.str (st [fix c]):=by
 unfold fix
 by_cases h:c∈lSIGNS
 ·rw[if_pos h,dR,sg h]
  rfl
 ·rw[if_neg h,dR,gd (fun z=>h (sgn_mem.mp z))]
  rfl
theorem me:∀l:B,TL.joinL [] (l.map fun c=>[c])=l
 |[]=>rfl
 |[c]=>rfl
 |c :: d :: r=>by
  have ih:=me (d :: r)
  rw[List.map_cons]at ih
  show [c]++([]++TL.joinL [] ([d] :: r.map fun c=>[c]))=_
  rw[ih]
  rfl
theorem kE:∀(l acc:B),TL.spl [32] 0 acc l=(match Mo.wordsOf l with|[]=>[acc]|w :: r=>(acc++w) :: r)
 |[],acc=>by simp[TL.spl_nil,Mo.wordsOf]
 |c :: r,acc=>by
  by_cases h:c=32
  ·subst h
   have:TL.pre [32] (32 :: r)=true:=by simp[TL.pre]
   rw[TL.spl_hit this]
   have e:Mo.wordsOf (32 :: r)=[] :: Mo.wordsOf r:=by simp[Mo.wordsOf]
   rw[e]
   have ih:=kE r []
   show acc :: TL.spl [32] 0 [] r=_
   rw[ih]
   simp only[List.append_nil]
   cases ew:Mo.wordsOf r with
   |nil=>exact absurd ew (gK r)
   |cons w l=>rfl
  ·have:TL.pre [32] (c :: r)=false:=TL.pre_of_head [] r h
   rw[TL.spl_miss this,kE r (acc++[c])]
   have e:Mo.wordsOf (c :: r)=(match Mo.wordsOf r with|[]=>[[c]]|w :: l=>(c :: w) :: l):=by
    conv=>lhs;unfold Mo.wordsOf
    rw[if_neg h]
    rfl
   rw[e]
   cases ew:Mo.wordsOf r with
   |nil=>exact absurd ew (gK r)
   |cons w l=>simp
theorem rk (l:B):Txt.split (st l) (st [32])=(Mo.wordsOf l).map st:=by
 refine TL.map_tl_inj ?_
 rw[TL.split_spl _ _ (by rw[TL.tl_mk];simp) (TL.kind_ok (by simp[st])),TL.tl_mk,TL.tl_mk,kE,List.map_map]
 cases ew:Mo.wordsOf l with
 |nil=>exact absurd ew (gK l)
 |cons w r=>
  show ([]++w) :: r=(w :: r).map (TL.tl ∘ st)
  have:∀r:List B,r.map (TL.tl ∘ st)=r:=fun r=>by
   conv=>rhs;rw[<-List.map_id r]
   exact List.map_congr_left fun x _=>TL.tl_mk x
  rw[this,List.nil_append]
theorem uD (l:B):Txt.join (st []) (l.map fun c=>st [c])=st l:=by
 refine TL.ext_tl ?_
 rw[TL.join_eq,TL.tl_join,TL.tl_mk,TL.tl_mk,List.map_map]
 have:(TL.tl ∘ fun c=>st [c])=fun c=>[c]:=funext fun c=>TL.tl_mk [c]
 rw[this,me]
structure Stp where
 kind:Int
 number:Int
 body:List Key
 lit:Key
def aM (S:List Stp):Nat->Key->Bool
 |0,_=>false
 |n+1,k=>aM S n k||S.any fun s=>decide (s.lit=k)&&s.body.all (aM S n)
theorem fh (S:List Stp)(n:Nat)(k:Key):aM S (n+1) k=(aM S n k||S.any fun s=>decide (s.lit=k)&&s.body.all (aM S n)):=rfl
theorem qV {S:List Stp}{n:Nat}{k:Key}(h:aM S n k=true):aM S (n+1) k=true:=by rw[fh,h];rfl
theorem fQ {S:List Stp}{n m:Nat}{k:Key}(h:aM S n k=true)(hm:n<=m):aM S m k=true:=by
 induction m with
 |zero=>
  have:n=0:=by omega
  subst this;exact h
 |succ m ih=>
  by_cases e:n=m+1
  ·subst e;exact h
  ·exact qV (ih (by omega))
def IsR (S:List Stp)(k:Key)(n:Nat):Prop:=aM S n k=true/\∀m,m<n->aM S m k=false
theorem IsR.uniq {S:List Stp}{k:Key}{m n:Nat}(a:IsR S k m)(b:IsR S k n):m=n:=by
 rcases Nat.lt_trichotomy m n with h|h|h
 ·have:=b.2 m h;rw[a.1]at this;cases this
 ·exact h
 ·have:=a.2 n h;rw[b.1]at this;cases this
def ba (S:List Stp)(R:Key->Bool):List Key:=(S.filter fun s=>!R s.lit&&s.body.all R).map Stp.lit
theorem mem_fresh {S:List Stp}{R:Key->Bool}{k:Key}:k∈ba S R↔R k=false/\(S.any fun s=>decide (s.lit=k)&&s.body.all R)=true:=by
 unfold ba
 rw[List.mem_map,List.any_eq_true]
 constructor
 ·rintro⟨s,hs,rfl⟩
  rw[List.mem_filter]at hs
  have h2:=hs.2
  rw[Bool.and_eq_true,Bool.not_eq_true']at h2
  exact⟨h2.1,s,hs.1,by rw[decide_eq_true rfl,h2.2];rfl⟩
 ·rintro⟨h1,s,hs,h2⟩
  rw[Bool.and_eq_true]at h2
  have e:=of_decide_eq_true h2.1
  subst e
  exact⟨s,List.mem_filter.mpr ⟨hs,by rw[h1,h2.2];rfl⟩,rfl⟩
theorem reach_fresh {S:List Stp}{n:Nat}{k:Key}:aM S (n+1) k=true↔aM S n k=true∨k∈ba S (aM S n):=by
 rw[fh,Bool.or_eq_true,mem_fresh]
 constructor
 ·rintro (h|h)
  ·exact .inl h
  ·cases e:aM S n k with
   |true=>exact .inl rfl
   |false=>exact .inr ⟨rfl,h⟩
 ·rintro (h|h)
  ·exact .inl h
  ·exact .inr h.2
theorem tD {S:List Stp}{n:Nat}(h:ba S (aM S n)=[]):∀m,n<=m->∀k,aM S m k=aM S n k:=by
 intro m
 induction m with
 |zero=>
  intro hm k
  have:n=0:=by omega
  subst this;rfl
 |succ m ih=>
  intro hm k
  by_cases e:n=m+1
  ·subst e;rfl
  ·have ihm:=ih (by omega)
   have hr:aM S m=aM S n:=funext ihm
   cases h1:aM S (m+1) k with
   |true=>
    rcases reach_fresh.mp h1 with h2|h2
    ·rw[<-ihm];exact h2.symm
    ·rw[hr,h]at h2;cases h2
   |false=>
    cases h2:aM S n k with
    |false=>rfl
    |true=>
     rw[<-ihm]at h2
     rw[qV h2]at h1;cases h1
structure Upto (S:List Stp)(n:Nat)(kvs:List (Key×V)):Prop where
 nd:(kvs.map (·.1)).Nodup
 yes:∀k v,az kvs k=some v->∃m:Nat,m<=n/\v=.int m/\IsR S k m
 no:∀k,az kvs k=none->aM S n k=false
structure Rds (S:List Stp)(kvs:List (Key×V)):Prop where
 nd:(kvs.map (·.1)).Nodup
 yes:∀k v,az kvs k=some v->∃m:Nat,v=.int m/\IsR S k m
 no:∀k,az kvs k=none->∀n,aM S n k=false
theorem eL {S:List Stp}:∀{n:Nat} {k:Key},aM S n k=true->k∈S.map Stp.lit
 |n+1,k,h=>by
  rcases reach_fresh.mp h with h|h
  ·exact eL h
  ·unfold ba at h
   obtain⟨s,hs,e⟩:=List.mem_map.mp h
   exact List.mem_map.mpr ⟨s,(List.mem_filter.mp hs).1,e⟩
theorem gR {kvs:List (Key×V)}{k:Key}(h:k∈kvs.map (·.1)):∃v,az kvs k=some v:=by
 cases e:az kvs k with
 |none=>exact absurd h (jv e)
 |some v=>exact⟨v,rfl⟩
theorem Upto.dom {S:List Stp}{n:Nat}{kvs:List (Key×V)}(u:Upto S n kvs):(fun k=>(az kvs k).isSome)=aM S n:=by
 funext k
 cases e:az kvs k with
 |none=>rw[u.no k e];rfl
 |some v=>
  obtain⟨m,hm,_,r⟩:=u.yes k v e
  rw[fQ r.1 hm];rfl
theorem Upto.len {S:List Stp}{n:Nat}{kvs:List (Key×V)}(u:Upto S n kvs):kvs.length<=S.length:=by
 have:=cf u.nd (m:=S.map Stp.lit) fun k hk=>by
  obtain⟨v,e⟩:=gR hk
  obtain⟨m,_,_,r⟩:=u.yes k v e
  exact eL r.1
 simpa using this
theorem Upto.done {S : List Stp} {n : Nat} {kvs : List (Key × V)} (u : Upto S n kvs) (h : ba S (aM S n) = []) : Rds S kvs where
  nd := u.nd
  yes := fun k v e => let ⟨m, _, h1, h2⟩ := u.yes k v e; ⟨m, h1, h2⟩
  no := fun k e m => by
    have h0 := u.no k e
    by_cases hm : n ≤ m
    · rw [tD h m hm]; exact h0
    · cases e2 : aM S m k with
      | false => rfl
      | true =>
        rw [fQ e2 (by omega)] at h0; cases h0
structure Lay (S:List Stp)(n:Nat)(old:List (Key×V))(done:List Key)(kvs:List (Key×V)):Prop where
 nd:(kvs.map (·.1)).Nodup
 hit:∀k,k∈done->az kvs k=some (.int ((n+1:Nat):Int))
 miss:∀k,¬k∈done->az kvs k=az old k
theorem wl {kvs:List (Key×V)}{k:Key}{v:V}(hn:(kvs.map (·.1)).Nodup):((bI kvs k v).map (·.1)).Nodup:=by
 cases e:az kvs k with
 |none=>exact x3 v hn e
 |some u=>
  have hany:(kvs.any fun kv=>decide (kv.1=k))=true:=by rw[dH,e];rfl
  have:bI kvs k v=kvs.map fun kv=>if kv.1=k then (kv.1,v) else kv:=by
   unfold bI
   rw[if_pos hany]
  rw[this,List.map_map]
  have e2:((fun x:Key×V=>x.1) ∘ fun kv=>if kv.1=k then (kv.1,v) else kv)=fun kv=>kv.1:=by
   funext kv
   show (if kv.1=k then (kv.1,v) else kv).1=kv.1
   split<;>rfl
  rw[e2]
  exact hn
theorem Lay.put {S:List Stp}{n:Nat}{old kvs:List (Key×V)}{done:List Key}{k:Key}(l:Lay S n old done kvs):Lay S n old (done++[k]) (bI kvs k (.int ((n+1:Nat):Int))) where
 nd:=wl l.nd
 hit:=fun j hj=>by
  rw[fI]
  by_cases e:j=k
  ·rw[if_pos e]
  ·rw[if_neg e]
   exact l.hit j (by simpa[e] using hj)
 miss:=fun j hj=>by
  have e:¬j=k:=fun e=>hj (by simp[e])
  rw[fI,if_neg e]
  exact l.miss j fun z=>hj (by simp[z])
theorem Lay.upto {S : List Stp} {n : Nat} {old kvs : List (Key × V)} (u : Upto S n old) (l : Lay S n old (ba S (aM S n)) kvs) : Upto S (n + 1) kvs where
  nd := l.nd
  yes := fun k v e => by
    by_cases h : k ∈ ba S (aM S n)
    · rw [l.hit k h] at e
      cases e
      refine ⟨n + 1, Nat.le_refl _, rfl, reach_fresh.mpr (.inr h), fun m hm => ?_⟩
      cases e2 : aM S m k with
      | false => rfl
      | true =>
        have := (mem_fresh.mp h).1
        rw [fQ e2 (by omega)] at this; cases this
    · rw [l.miss k h] at e
      obtain ⟨m, h1, h2⟩ := u.yes k v e
      exact ⟨m, by omega, h2⟩
  no := fun k e => by
    by_cases h : k ∈ ba S (aM S n)
    · rw [l.hit k h] at e; cases e
    · rw [l.miss k h] at e
      cases e2 : aM S (n + 1) k with
      | false => rfl
      | true =>
        rcases reach_fresh.mp e2 with z | z
        · rw [u.no k e] at z; cases z
        · exact absurd z h
theorem Lay.start {S:List Stp}{n:Nat}{kvs:List (Key×V)}(h:(kvs.map (·.1)).Nodup):Lay S n kvs [] kvs:=⟨h,(fun _ h=>nomatch h),fun _ _=>rfl⟩
theorem Lay.len {S:List Stp}{n:Nat}{old kvs:List (Key×V)}{done:List Key}(u:Upto S n old)(l:Lay S n old done kvs)(hd:∀k∈done,k∈ba S (aM S n)):kvs.length<=S.length:=by
 have:=cf l.nd (m:=S.map Stp.lit) fun k hk=>by
  obtain⟨v,e⟩:=gR hk
  by_cases h:k∈done
  ·exact eL (reach_fresh.mpr (.inr (hd k h)))
  ·rw[l.miss k h]at e
   obtain⟨m,_,_,r⟩:=u.yes k v e
   exact eL r.1
 simpa using this
theorem Lay.more {S:List Stp}{n:Nat}{old kvs:List (Key×V)}(u:Upto S n old)(l:Lay S n old (ba S (aM S n)) kvs)(h:ba S (aM S n)≠[]):old.length<kvs.length:=by
 obtain⟨k,hk⟩:=List.exists_mem_of_ne_nil _ h
 have h0:az old k=none:=by
  cases e:az old k with
  |none=>rfl
  |some v=>
   obtain⟨m,hm,_,r⟩:=u.yes k v e
   have:=(mem_fresh.mp hk).1
   rw[fQ r.1 hm]at this;cases this
 have:=cf (l:=k :: old.map (·.1)) (m:=kvs.map (·.1)) (List.nodup_cons.mpr ⟨jv h0,u.nd⟩) fun j hj=>by
  by_cases hf:j∈ba S (aM S n)
  ·exact iU (l.hit j hf)
  ·rcases List.mem_cons.mp hj with e|e
   ·subst e;exact absurd hk hf
   ·obtain⟨v,e⟩:=gR e
    rw[<-l.miss j hf]at e
    exact iU e
 simp at this
 omega
theorem nW (S:List Stp):Upto S 0 []:=⟨by simp,(fun k v e=>nomatch e),fun _ _=>rfl⟩
section
variable {X:Cx}
theorem kq {kvs:List (Key×V)}{vs:List (Key×Value)}{acc:List Value}(kv:KV kvs vs)(hl:acc.length=vs.length)(h:∀(j:Nat)(u:Value),acc[j]?=some u->∃k x,vs[j]?=some (k,x)/\gF k u=true):
  Vals (kvs.map fun z=>kV z.1) acc:=by
 induction kv generalizing acc with
 |nil=>
  cases acc with
  |nil=>exact .nil
  |cons a r=>simp at hl
 |cons r t ih=>
  rename_i p q l1 l2
  cases acc with
  |nil=>simp at hl
  |cons a l=>
   obtain⟨k,x,e,hk⟩:=h 0 a rfl
   simp at e
   refine .cons ?_ (ih (by simpa using hl) fun j u hu=>?_)
   ·show RelV (kV p.1) a
    rw[r.1,e]
    exact pP hk
   ·simpa using h (j+1) u (by simpa using hu)
theorem uN {kvs:List (Key×V)}{vs:List (Key×Value)}(kv:KV kvs vs):Vals (kvs.map (·.2)) (vs.map (·.2)):=by
 induction kv with
 |nil=>exact .nil
 |cons r t ih=>exact .cons r.2 ih
theorem wN {pins:List (Addr×Obj)}{σ:L2.St}{H:Hp}{s:Shared}{h':Heap}{a:Addr}{o:HO}{t':Nat}(I:Inv X pins σ H s)(k:∀b u,s.heap.get? b=some u->h'.get? b=some u)(h0:s.heap.get? a=none)(hn:H a=none)
  (new:ObjOk X.prog X.w (upd H a o) h' a o):Inv X pins σ (upd H a o) { s with heap:=h',toks:=t' }:=by
 have ne:∀{b:Addr} {u:Obj},s.heap.get? b=some u->b≠a:=fun {b u} e z=>by rw[z,h0]at e;cases e
 refine I.un ⟨fun b u q _ _ _=>k b u q,fun b u q _ _ _=>⟨u.slots,k b u q⟩,fun b u q n _=>by rw[ae (ne q)];exact n,fun b u q _=>⟨u,k b u q⟩,fun b xs q=>?_,fun b u xs q=>?_,fun b ps q=>⟨#[],?_⟩⟩ fun b u e=>?_
 ·rw[ae (aD q hn)];exact q
 ·rw[ae (aD q hn)];exact q
 ·rw[ae (aD q hn),q];simp
 ·by_cases hb:b=a
  ·subst hb;rw[af]at e;cases e;exact new
  ·rw[ae hb]at e
   exact (I.hok b u e).stay (fun c v _ q=>k c v q) (fun c q=>by rw[ae (aD q hn)];exact q) fun c xs q=>by rw[ae (aD q hn)];exact q
theorem wD {pins:List (Addr×Obj)}{σ:L2.St}{H:Hp}{s:Shared}{a:Addr}(I:Inv X pins σ H s)(h0:s.heap.get? a=none):H a=none:=by
 cases e:H a with
 |none=>rfl
 |some u=>
  have:∃o,s.heap.get? a=some o:=by
   have x:=I.hok a u e
   cases u with
   |lst xs=>obtain⟨_,_,_,_,e⟩:=x;exact⟨_,e⟩
   |tup xs=>obtain⟨_,_,_,o,e,_⟩:=x;exact⟨_,e⟩
   |dK kvs=>obtain⟨_,_,_,_,o,_,_,e,_⟩:=x;exact⟨_,e⟩
   |dT kvs=>obtain⟨_,_,_,_,o,_,_,e,_⟩:=x;exact⟨_,e⟩
   |set S n=>obtain⟨o,_,_,_,e,_⟩:=x;exact⟨_,e⟩
   |ins C dx fs=>obtain⟨_,_,_,e,_⟩:=x;exact⟨_,e⟩
   |own y=>obtain⟨o,e⟩:=x;exact⟨_,e⟩
   |xd fs=>obtain⟨_,⟨o,_,_,e,_⟩,_⟩:=x;exact⟨_,e⟩
   |rng lo hi=>obtain⟨_,_,_,e⟩:=x;exact⟨_,e⟩
   |frz ob u=>obtain⟨e,_⟩:=x;exact⟨_,e⟩
   |tbl ps=>exact⟨_,x⟩
   |met f y=>exact⟨_,x⟩
   |ext φ=>obtain⟨_,⟨o,e⟩,_⟩:=x;exact⟨_,e⟩
  obtain⟨o,e⟩:=this
  rw[h0]at e;cases e
theorem jM (hc:X.calm=true):c9 X (.type "list") (fun xs H Q=>∃d kvs,xs=[V.ref d]/\H d=some (.dK kvs)/\∀p,H p=none->Q (.ref p) (upd H p (.lst (kvs.map fun z=>kV z.1)))):=by
 intro pins s σ H xs us Q I r h
 obtain⟨d,kvs,rfl,hd,q⟩:=h
 rw[Vals.ref1 r]
 obtain⟨hz,lo,vs,kv,hD⟩:=kR I.hok hd
 obtain⟨ep,hat⟩:=hD.dictAt
 have hl:kvs.length=vs.length:=kv.length
 refine PySem.W.kdl_call (PySem.W.kdl_dict (knd:=bi X.prog X.w) (kvs:=vs) (ep:=ep) lo) (I.ok.hd hc) hat (by rw[<-hl];exact hz) fun h' tk acc c hk hL hacc=>?_
 have hv:Vals (kvs.map fun z=>kV z.1) acc.toList:=kq kv (by rw[Array.length_toList];exact hacc.1) fun j u hu=>hacc.2 j u (by rw[<-Array.getElem?_toList];exact hu)
 refine⟨.ref _,upd H s.heap.objs.size (.lst (kvs.map fun z=>kV z.1)),I.laid (fun b u e=>hk b u e) (Nat.le_refl _) ⟨by rw[List.length_map];exact hz,acc.toList,c,hv,?_⟩,rfl,q _ (I.hok.fresh (Nat.le_refl _))⟩
 simpa using hL
theorem fk (hc:X.calm=true):c9 X (.builtin "sorted") (fun xs H Q=>∃(d:Addr)(kvs:List (Key×V))(ks:List Str),xs=[V.ref d]/\H d=some (.dK kvs)/\kvs.map (·.1)=ks.map Sum.inr/\
  ∀(ys:List Str)(p:Addr),ys.Perm ks->sortedS ys=true->H p=none->Q (.ref p) (upd H p (.lst (ys.map V.str)))):=by
 intro pins s σ H xs us Q I r h
 obtain⟨d,kvs,ks,rfl,hd,hks,q⟩:=h
 rw[Vals.ref1 r]
 obtain⟨hz,lo,vs,kv,hD⟩:=kR I.hok hd
 obtain⟨ep,hat⟩:=hD.dictAt
 have hl:kvs.length=vs.length:=kv.length
 refine Calls.call_function_entry kind_sorted plain_sorted entry_sorted (args_sorted1 _) ?_
 unfold Builtin.«sorted»
 refine wpAny_bind (m:=checkCount "sorted" 1 1 _) (wpAny_pure ?_)
 refine wpAny_bind (PySem.W.kdu_collect (PySem.W.kdl_dict (knd:=bi X.prog X.w) (kvs:=vs) (ep:=ep) lo) (I.ok.hd hc) hat (by rw[<-hl];exact hz) fun h' tk acc hk hacc=>?_)
 have hv:Vals (kvs.map fun z=>kV z.1) acc.toList:=kq kv (by rw[Array.length_toList];exact hacc.1) fun j u hu=>hacc.2 j u (by rw[<-Array.getElem?_toList];exact hu)
 have hv2:Vals (ks.map V.str) acc.toList:=by
  have e:(kvs.map fun z=>kV z.1)=ks.map V.str:=by
   have:(kvs.map fun z=>kV z.1)=(kvs.map (·.1)).map kV:=by rw[List.map_map];rfl
   rw[this,hks,List.map_map]
   rfl
  rw[<-e];exact hv
 have hlen:acc.toList.length<=sizeLine:=by
  rw[Array.length_toList,hacc.1,<-hl];exact hz
 refine wpAny_bind (wpAny_newList ?_ hlen)
 have hoL:(h'.push (seqObj "list" acc.toList.toArray 0)).get? h'.objs.size=some (seqObj "list" acc.toList.toArray 0):=Heap.get?_push_size _ rfl
 refine wpAny_bind (wpAny_holding (wpAny_call_entry slot_list_sort ⟨_,hoL,rfl⟩ entry_list_sort (list_sort_treeKAny strKind_oneLt hoL hv2.strs.keysOf (fun v₁ v₂ rest e=>keyKind_strs (by rw[<-e];exact hv2.strs)) hlen fun st' hp hs=>⟨_,rfl,?_⟩) (args_list_sort _)))
 obtain⟨ys,h1,h2,h3⟩:=sorted_out_str hv2.strs hp hs
 refine wpAny_pure ⟨_,rfl,?_⟩
 obtain⟨ep',he'⟩:=PyProof.Rows.sortedHeap_at (vs:=acc.toList) (out:=(arrOf st').map (·.2)) hoL
 have h00:s.heap.get? h'.objs.size=none:=by
  cases e:s.heap.get? h'.objs.size with
  |none=>rfl
  |some o=>exact absurd (Heap.lt_size (hk _ _ e)) (Nat.lt_irrefl _)
 have hfresh:H h'.objs.size=none:=wD I h00
 refine⟨.ref _,upd H h'.objs.size (.lst (ys.map V.str)),wN (s:=s) (t':=tk) I (fun b u e=>?_) h00 hfresh ⟨?_,_,ep',kH h1,he'⟩,rfl,q ys _ h2 h3 hfresh⟩
 ·have hlt:=Heap.lt_size (hk b u e)
  rw[PyProof.Rows.sortedHeap_old (Nat.ne_of_lt hlt) (by rw[size_push'];exact Nat.lt_succ_of_lt hlt)]
  exact Heap.get?_push_of_some _ (hk b u e)
 ·rw[List.length_map,h2.length_eq]
  have:=hv2.length
  rw[List.length_map]at this
  omega
end
def ci (a:List Str)(x:Str):List Str:=if a.any (fun y=>decide (y=x))=true then a else a++[x]
def ded (l:List Str):List Str:=l.foldl ci []
theorem wX (l:List Str)(x:Str):ded (l++[x])=ci (ded l) x:=by
 unfold ded
 rw[List.foldl_append]
 rfl
theorem mem_ded1 {a:List Str}{x y:Str}:y∈ci a x↔y∈a∨y=x:=by
 unfold ci
 split
 ·rename_i h
  rw[List.any_eq_true]at h
  obtain⟨z,hz,e⟩:=h
  have e:=of_decide_eq_true e
  subst e
  constructor
  ·exact .inl
  ·rintro (h|h)
   ·exact h
   ·subst h;exact hz
 ·simp
theorem sV {a:List Str}{x:Str}(h:a.Nodup):(ci a x).Nodup:=by
 unfold ci
 split
 ·exact h
 ·rename_i hn
  refine i9 h fun hm=>hn (List.any_eq_true.mpr ⟨x,hm,decide_eq_true rfl⟩)
theorem nX (l:List Str):∀a:List Str,a.Nodup->(l.foldl ci a).Nodup/\∀y,y∈l.foldl ci a↔y∈a∨y∈l:=by
 induction l with
 |nil=>intro a h;exact⟨h,fun y=>by simp⟩
 |cons x r ih=>
  intro a h
  obtain⟨h1,h2⟩:=ih _ (sV (x:=x) h)
  refine⟨h1,fun y=>?_⟩
  rw[List.foldl_cons,h2,mem_ded1,List.mem_cons]
  constructor
  ·rintro ((h|h)|h)
   ·exact .inl h
   ·exact .inr (.inl h)
   ·exact .inr (.inr h)
  ·rintro (h|h|h)
   ·exact .inl (.inl h)
   ·exact .inl (.inr h)
   ·exact .inr h
theorem uX (l:List Str):(ded l).Nodup:=(nX l [] (by simp)).1
theorem sk (l:List Str)(y:Str):y∈ded l↔y∈l:=by
 rw[show ded l=l.foldl ci [] from rfl,(nX l [] (by simp)).2]
 simp
theorem si (l:List Str):(ded l).length<=l.length:=by
 unfold ded
 have:∀(l a:List Str),(l.foldl ci a).length<=a.length+l.length:=by
  intro l
  induction l with
  |nil=>intro a;simp
  |cons x r ih=>
   intro a
   have:=ih (ci a x)
   have h2:(ci a x).length<=a.length+1:=by unfold ci;split<;>simp
   simp only[List.foldl_cons,List.length_cons]
   omega
 have:=this l []
 simpa using this
section
variable {prog:Program}{w:World}{A:Around}{R:Result->Shared->Prop}{I:Addr}{fp wr:List Addr}{G:Array GenState->Array GenState->Prop}{n:Nat}{P:Nat->Value->Prop}{Stt:Nat->Shared->Prop}
theorem pI (W:WalksS prog w A.in1 I fp wr G n P Stt)(S:Addr)(hSf:S ∉ fp)(val:Nat->Str)(hval:∀i v,P i v->∃t,v=.str (val i) t)(hb:n+1<scanBound):
  ∀(k i:Nat)(s:Shared),n-i=k->i<=n->Stt i s->
   s.heap.SetOf (PySem.strKind prog w) S (fun x=>decide (x∈ded ((List.range i).map val))) (ded ((List.range i).map val)).length->
   (∀s',Moved (S :: wr) G s s'->s'.heap.SetOf (PySem.strKind prog w) S (fun x=>decide (x∈ded ((List.range n).map val))) (ded ((List.range n).map val)).length->R (.ok (.ret .none)) s')->
   codeAny (model prog w) A (.builtin "set.update.loop" ⟨[.ref S,.ref I],[]⟩) R s:=by
 have hSw:S ∉ wr:=fun h=>hSf (W.sub _ h)
 have up:∀b∈wr,b∈S :: wr:=fun b hb=>List.mem_cons_of_mem _ hb
 intro k
 induction k with
 |zero=>
  intro i s hk hi st0 hS hR
  obtain rfl:i=n:=by omega
  refine codeAny_builtin PyProof.Rows.F.entry_set_update_loop ?_
  rw[Around.under_plainId PyProof.Rows.F.plain_set_update_loop _]
  show wpAny _ A.in1 (pyNext (.ref I) >>= _) _ _ s
  refine wpAny_bind (W.done s _ _ st0 fun s2 hm=>?_)
  show wpAny _ A.in1 (ret Value.none) _ _ s2
  refine wpAny_pure (hR s2 (hm.mono up) ?_)
  obtain⟨o,es,ep,t,ho,rest⟩:=hS
  exact⟨o,es,ep,t,hm.heap S _ hSw ho,rest⟩
 |succ k ih=>
  intro i s hk hi st0 hS hR
  have hlt:i<n:=by omega
  refine codeAny_builtin PyProof.Rows.F.entry_set_update_loop ?_
  rw[Around.under_plainId PyProof.Rows.F.plain_set_update_loop _]
  show wpAny _ A.in1 (pyNext (.ref I) >>= _) _ _ s
  refine wpAny_bind (W.item i s _ _ hlt st0 fun v s2 hP st2 hm=>?_)
  obtain⟨t,rfl⟩:=hval i v hP
  have hS2:s2.heap.SetOf (PySem.strKind prog w) S (fun x=>decide (x∈ded ((List.range i).map val))) (ded ((List.range i).map val)).length:=by
   obtain⟨o,es,ep,tb,ho,rest⟩:=hS
   exact⟨o,es,ep,tb,hm.heap S _ hSw ho,rest⟩
  show wpAny _ A.in1 (holding [Value.str (val i) t] (setAdd S (.str (val i) t)) >>= _) _ _ s2
  refine wpAny_bind (wpAny_holding ?_)
  unfold setAdd
  have isk:(PySem.strKind prog w).is (val i) (.str (val i) t)=true:=by
   show Value.isStrOf (val i) (.str (val i) t)=true
   simp[Value.isStrOf]
  refine wpAny_holding (wpAny_bind ((PySem.strKind prog w).pyHash (k:=val i) isk ?_))
  have hroom:(ded ((List.range i).map val)).length+1<scanBound:=by
   have:=si ((List.range i).map val)
   rw[List.length_map,List.length_range]at this
   omega
  refine wpAny_setAddHashed_of (knd:=PySem.strKind prog w) (s:={ s2 with toks:=s2.toks+1 }) isk rfl hS2 hroom fun h' hsb hS3=>?_
  have es:ded ((List.range (i+1)).map val)=ci (ded ((List.range i).map val)) (val i):=by
   rw[List.range_succ,List.map_append]
   exact wX _ _
  have hSi:h'.SetOf (PySem.strKind prog w) S (fun x=>decide (x∈ded ((List.range (i+1)).map val))) (ded ((List.range (i+1)).map val)).length:=by
   refine SetOf_congr hS3 (fun x=>?_) ?_
   ·rw[es]
    by_cases e:x∈ded ((List.range i).map val)
    ·rw[decide_eq_true e,decide_eq_true (mem_ded1.mpr (.inl e))];rfl
    ·by_cases e2:x=val i
     ·rw[decide_eq_true e2,decide_eq_true (mem_ded1.mpr (.inr e2)),Bool.or_true]
     ·rw[decide_eq_false e,decide_eq_false e2,decide_eq_false fun z=>(mem_ded1.mp z).elim e e2];rfl
   ·rw[es]
    unfold ci
    have ea:((ded ((List.range i).map val)).any fun y=>decide (y=val i))=decide (val i∈ded ((List.range i).map val)):=by
     by_cases e:val i∈ded ((List.range i).map val)
     ·rw[decide_eq_true e]
      exact List.any_eq_true.mpr ⟨_,e,decide_eq_true rfl⟩
     ·rw[decide_eq_false e,List.any_eq_false]
      intro y hy
      simp
      exact fun z=>e (z▸hy)
    rw[ea]
    split<;>simp
  refine wpAny_pure ⟨plainId_quiet PyProof.Rows.F.plain_set_update_loop _,ih (i+1) _ (by omega) hlt (W.frame _ s2 _ _ st2 (Nat.le_succ _) fun b hb o e=>?_) hSi fun s3 hm3 hS4=>?_⟩
  ·rw[hsb.2 b (fun h:b=S=>hSf (by rw[<-h];exact hb))];exact e
  ·refine hR s3 (Moved.trans W.gtrans ((hm.mono up).then_heap (Nat.le_succ _) fun b o hb e=>?_) hm3) hS4
   rw[hsb.2 b (fun h:b=S=>hb (by rw[h];exact List.mem_cons_self))];exact e
end
theorem sQ (ys:List Str):(List.range ys.length).map (fun i=>ys.getD i Str.empty)=ys:=by
 refine List.ext_getElem? fun i=>?_
 rw[List.getElem?_map]
 by_cases h:i<ys.length
 ·rw[List.getElem?_range h]
  simp[h]
 ·rw[List.getElem?_eq_none (by rw[List.length_range];omega),List.getElem?_eq_none (by omega)]
  rfl
theorem sK:∀{vs:List Value} {ys:List Str},StrsAre vs ys->∀(i:Nat)(v:Value),vs[i]?=some v->∃t,v=.str (ys.getD i Str.empty) t
 |_,_,.nil,i,v,h=>by simp at h
 |_,_,.cons y t r,0,v,h=>by simp at h;exact⟨t,by rw[<-h];rfl⟩
 |_,_,.cons y t r,i+1,v,h=>by
  simp only[List.getElem?_cons_succ]at h
  obtain⟨t',e⟩:=sK r i v h
  exact⟨t',by rw[e];rfl⟩
structure Src (h:Heap)(l:Addr)(its:Array Value)(T:String):Prop where
 obj:∃(od:Option Addr)(n:Nat)(sl:Array (Option Value)),h.get? l=some { cls:=.type T,dict:=od,data:=.seq its n,slots:=sl }
 kind:T="list"∨T="tuple"
theorem uv {T:String} (h:T="list"∨T="tuple"):isSubtype (.type T) (.type "set")=pure false/\isSubtype (.type T) (.type "frozenset")=pure false/\(Value.type T==Value.type "dict")=false:=by
 rcases h with rfl|rfl
 ·exact⟨by rw[isSubtype_type];kernel_rfl,by rw[isSubtype_type];kernel_rfl,by decide⟩
 ·exact⟨by rw[isSubtype_type];kernel_rfl,by rw[isSubtype_type];kernel_rfl,by decide⟩
section
variable {prog:Program}{w:World}{A:Around}{E:Value->Shared->Prop}{s:Shared}
set_option maxHeartbeats 8000000 in
theorem o4 {l:Addr}{its:Array Value}{T:String}{ys:List Str}{Q:Value->Shared->Prop}(hh:A.handled=none)(hl:Src s.heap l its T)(hi:StrsAre its.toList ys)(hb:its.size+1<scanBound)
  (h:∀(h':Heap)(tk:Nat),h'.SetOf (PySem.strKind prog w) s.heap.objs.size (fun x=>decide (x∈ded ys)) (ded ys).length->(∀b o,s.heap.get? b=some o->h'.get? b=some o)->Q (.ref s.heap.objs.size) { s with heap:=h',toks:=tk }):
  wpAny (model prog w) A (call (.type "set") [.ref l]) Q E s:=by
 obtain⟨c,tl,hmro⟩:=PySem.F.called_set.mro
 have hmade:=PySem.F.called_set.made
 have hsub:=PySem.F.called_set.sub
 refine wpAny_call (codeAny_of_tree ?_)
 show wpAny _ _ (callAny (.type "set") _) _ _ _
 refine wpAny_pure ⟨Code.quiet_builtin _ (by decide +kernel),codeAny_builtin PySem.F.entry_type_call ?_⟩
 rw[Around.under_plain (weight_type_call_type "set" [.ref l] []) rfl]
 have h1:=PySem.F.called_set.notType
 have h2:=PySem.F.called_set.canCreate
 have hct:=PySem.F.typeCall_set_1 (.ref l)
 repeat (any_goals (first|assumption|wp_step))
 refine codeAny_mono (code_set_new_1 (.ref l) (E:=E) (Q₁:=fun obj s₁=>∃led:Bool,obj=.ref s.heap.objs.size/\s₁={ s with heap:=s.heap.push { cls:=.type "set",dict:=none,data:=.set #[] 0 (.fresh 0 0 led) } }) fun led=>⟨led,rfl,rfl⟩) fun r s₁ hr=>?_
 cases r with
 |error e=>exact hr
 |ok fl=>
  cases fl with
  |ret obj=>
   obtain⟨led,rfl,rfl⟩:=hr
   have hS:(s.heap.push { cls:=.type "set",dict:=none,data:=.set #[] 0 (.fresh 0 0 led) }).get? s.heap.objs.size=some { cls:=.type "set",dict:=none,data:=.set #[] 0 (.fresh 0 0 led) }:=Heap.get?_push_size _ rfl
   have hT:Shared.TypeIs { s with heap:=s.heap.push { cls:=.type "set",dict:=none,data:=.set #[] 0 (.fresh 0 0 led) } } (.ref s.heap.objs.size) "set":=⟨_,hS,rfl⟩
   have hli:=PySem.F.called_set.init.lookup
   have hbi:=PySem.F.called_set.init.bind (.ref s.heap.objs.size)
   repeat (any_goals (first|assumption|wp_step))
   refine codeAny_mono (codeAny_call_builtin (R:=wants (fun r s₂=>r=.none/\∃h' tk,s₂={ s with heap:=h',toks:=tk }/\
     h'.SetOf (PySem.strKind prog w) s.heap.objs.size (fun x=>decide (x∈ded ys)) (ded ys).length/\(∀b o,s.heap.get? b=some o->h'.get? b=some o)) E) PySem.F.called_set.init.plain PySem.F.entry_set_init (check_set_init_1 hT ?_)) fun r₂ s₂ hr₂=>?_
   ·obtain⟨⟨od,nl,sl,hol⟩,hk⟩:=hl
    have hol2:(s.heap.push { cls:=.type "set",dict:=none,data:=.set #[] 0 (.fresh 0 0 led) }).get? l=some { cls:=.type T,dict:=od,data:=.seq its nl,slots:=sl }:=Heap.get?_push_of_some _ hol
    obtain⟨hsls,hslf,hne⟩:=uv hk
    have hTl:Shared.TypeIs { s with heap:=s.heap.push { cls:=.type "set",dict:=none,data:=.set #[] 0 (.fresh 0 0 led) } } (.ref l) T:=⟨_,hol2,rfl⟩
    unfold Builtin.«set.__init__» noKeywords Builtin.Frozenset.updateFrom
    generalize hPI:pyIter=PI
    wp_walk
    subst hPI
    have hlS:l<s.heap.objs.size:=Heap.lt_size hol
    have hh3:A.in1.in1.in1.handled=none:=by simp[hh]
    have hlen:=StrsAre.length hi
    rw[Array.length_toList]at hlen
    have ev:(List.range its.size).map (fun i=>ys.getD i Str.empty)=ys:=by
     rw[hlen]
     exact sQ ys
    have hval:∀(i:Nat)(v:Value),its[i]?=some v->∃t,v=.str ((fun i=>ys.getD i Str.empty) i) t:=fun i v hv=>sK hi i v (by rw[Array.getElem?_toList];exact hv)
    have hneI:l≠(s.heap.push { cls:=.type "set",dict:=none,data:=.set #[] 0 (.fresh 0 0 led) }).objs.size:=by
     rw[Heap.size_push];exact Nat.ne_of_lt (Nat.lt_succ_of_lt hlS)
    have hSf:s.heap.objs.size ∉ [(s.heap.push { cls:=.type "set",dict:=none,data:=.set #[] 0 (.fresh 0 0 led) }).objs.size,l]:=by
     rw[Heap.size_push]
     simp only[List.mem_cons,List.not_mem_nil,or_false,not_or]
     exact⟨Nat.ne_of_lt (Nat.lt_succ_self _),Nat.ne_of_gt hlS⟩
    have start:∀oI:Obj,((s.heap.push { cls:=.type "set",dict:=none,data:=.set #[] 0 (.fresh 0 0 led) }).push oI).SetOf (PySem.strKind prog w) s.heap.objs.size (fun x=>decide (x∈ded ((List.range 0).map fun i=>ys.getD i Str.empty))) (ded ((List.range 0).map fun i=>ys.getD i Str.empty)).length:=fun oI=>
     SetOf_congr ((setObjOf_fresh (knd:=PySem.strKind prog w) led).setOf (Heap.get?_push_of_some _ hS) (by unfold scanBound;omega)) (fun _=>rfl) rfl
    have fin:∀(oI:Obj)(s3:Shared)(G:Array GenState->Array GenState->Prop),(∀a b,G a b->b=a)->Moved [s.heap.objs.size,(s.heap.push { cls:=.type "set",dict:=none,data:=.set #[] 0 (.fresh 0 0 led) }).objs.size] G { s with heap:=(s.heap.push { cls:=.type "set",dict:=none,data:=.set #[] 0 (.fresh 0 0 led) }).push oI } s3->
      s3.heap.SetOf (PySem.strKind prog w) s.heap.objs.size (fun x=>decide (x∈ded ((List.range its.size).map fun i=>ys.getD i Str.empty))) (ded ((List.range its.size).map fun i=>ys.getD i Str.empty)).length->
      ∃h' tk,s3={ s with heap:=h',toks:=tk }/\h'.SetOf (PySem.strKind prog w) s.heap.objs.size (fun x=>decide (x∈ded ys)) (ded ys).length/\(∀b o,s.heap.get? b=some o->h'.get? b=some o):=by
     intro oI s3 G hG hm hS3
     obtain⟨h',g',d',tk',os'⟩:=s3
     have eg:g'=s.gens:=hG _ _ hm.gens
     have ed:d'=s.drawn:=hm.drawn
     have eo:os'=s.os:=hm.os
     subst eg ed eo
     rw[ev]at hS3
     refine⟨h',tk',rfl,hS3,fun b o e=>hm.heap b o ?_ (Heap.get?_push_of_some _ (Heap.get?_push_of_some _ e))⟩
     have hb:=Heap.lt_size e
     rw[Heap.size_push]
     simp only[List.mem_cons,List.not_mem_nil,or_false,not_or]
     exact⟨Nat.ne_of_lt hb,Nat.ne_of_lt (Nat.lt_succ_of_lt hb)⟩
    rcases hk with rfl|rfl
    ·have hl1:(s.heap.push { cls:=.type "set",dict:=none,data:=.set #[] 0 (.fresh 0 0 led) }).IsList l its:=⟨_,hol2,rfl,nl,rfl⟩
     refine wpAny_pyIter_list hl1 (wpAny_bind (wpAny_runValue ?_))
     refine pI ((Walks.list hh3 _ l hneI its).toS) s.heap.objs.size hSf (fun i=>ys.getD i Str.empty) hval hb (its.size-0) 0 _ (by omega) (Nat.zero_le _) ⟨⟨_,Heap.get?_push_size _ rfl,rfl,rfl⟩,(hl1.push _)⟩ (start _) fun s3 hm hS3=>?_
     obtain⟨h',tk',rfl,a1,a2⟩:=fin _ s3 _ (fun _ _ e=>e) hm hS3
     exact wpAny_pure (wpAny_pure ⟨rfl,h',tk',rfl,a1,a2⟩)
    ·have hl1:(s.heap.push { cls:=.type "set",dict:=none,data:=.set #[] 0 (.fresh 0 0 led) }).IsTuple l its:=⟨_,hol2,rfl,nl,rfl⟩
     refine wpAny_pyIter_tuple hl1 (wpAny_bind (wpAny_runValue ?_))
     refine pI ((Walks.tuple hh3 _ l hneI its).toS) s.heap.objs.size hSf (fun i=>ys.getD i Str.empty) hval hb (its.size-0) 0 _ (by omega) (Nat.zero_le _) ⟨⟨_,Heap.get?_push_size _ rfl,rfl,rfl⟩,(hl1.push _)⟩ (start _) fun s3 hm hS3=>?_
     obtain⟨h',tk',rfl,a1,a2⟩:=fin _ s3 _ (fun _ _ e=>e) hm hS3
     exact wpAny_pure (wpAny_pure ⟨rfl,h',tk',rfl,a1,a2⟩)
   ·cases r₂ with
    |error e=>exact hr₂
    |ok fl₂=>
     cases fl₂ with
     |ret r=>
      obtain⟨rfl,h',tk,rfl,hS',hk'⟩:=hr₂
      repeat (any_goals (first|assumption|wp_step))
      exact h _ _ hS' hk'
     |_=>exact hr₂.elim
  |_=>exact hr.elim
end
def mZ (P:Program)(w:World)(p:Addr)(n:Nat):HO:=.ext fun h=>∃S:Str->Bool,h.SetOf (PySem.strKind P w) p S n
def pp (v d:Addr):HO:=.ext fun h=>h.IsValuesView v d
section
variable {X:Cx}
theorem v1 {pins:List (Addr×Obj)}{σ:L2.St}{H:Hp}{s:Shared}{a:Addr}{xs:List V}(I:Inv X pins σ H s)(h:SqL X.K H a xs):∃its:List Value,Vals xs its/\Src s.heap a its.toArray "list":=by
 obtain⟨its,r,⟨o,n,e,hc,hd,hs⟩,_⟩:=I.list h
 refine⟨its,r,⟨o.dict,n,o.slots,?_⟩,.inl rfl⟩
 obtain⟨c,d,dt,sl⟩:=o
 simp only at hc hs
 subst hc hs
 exact e
theorem yC {pins:List (Addr×Obj)}{σ:L2.St}{H:Hp}{s:Shared}{a:Addr}{xs:List V}(I:Inv X pins σ H s)(h:SqT X.K H a xs):∃its:List Value,Vals xs its/\Src s.heap a its.toArray "tuple":=by
 obtain⟨its,r,⟨o,e,hc,n,hs⟩,_⟩:=I.tuple h
 refine⟨its,r,⟨o.dict,n,o.slots,?_⟩,.inr rfl⟩
 obtain⟨c,d,dt,sl⟩:=o
 simp only at hc hs
 subst hc hs
 exact e
theorem x9 {P:Program}{w:World}{H:Hp}{h:Heap}{p:Addr}{n:Nat}{S:Str->Bool}(hS:h.SetOf (PySem.strKind P w) p S n):ObjOk P w H h p (mZ P w p n):=by
 refine⟨⟨S,hS⟩,let ⟨o,_,_,_,e,_⟩:=hS;⟨o,e⟩,?_⟩
 rintro h1 h2 ⟨S',o,es,ep,t,e,r⟩ k
 exact⟨S',o,es,ep,t,k o e,r⟩
theorem nY (hc:X.calm=true):c9 X (.type "set") (fun xs H Q=>∃(a:Addr)(ys:List Str),xs=[V.ref a]/\(SqL X.K H a (ys.map V.str)∨SqT X.K H a (ys.map V.str))/\ys.length+1<scanBound/\
  ∀p,H p=none->Q (.ref p) (upd H p (mZ X.prog X.w p (ded ys).length))):=by
 intro pins s σ H xs us Q I r h
 obtain⟨a,ys,rfl,hs,hb,q⟩:=h
 rw[Vals.ref1 r]
 have fin:∀(its:List Value)(T:String),Vals (ys.map V.str) its->Src s.heap a its.toArray T->wpAny (model X.prog X.w) X.A (call (.type "set") [.ref a]) (EP X pins σ Q) X.xe s:=by
  intro its T rv hsrc
  have hl:=rv.length
  rw[List.length_map]at hl
  refine o4 (ys:=ys) (I.ok.hd hc) hsrc (by simpa using rv.strs) (by rw[List.size_toArray,<-hl];exact hb) fun h' tk hS hk=>?_
  exact⟨.ref _,_,I.laid (t':=tk) (o:=mZ X.prog X.w s.heap.objs.size (ded ys).length) hk (Nat.le_refl _) (x9 hS),rfl,q _ (I.hok.fresh (Nat.le_refl _))⟩
 rcases hs with hs|hs
 ·obtain⟨its,rv,hsrc⟩:=v1 I hs
  exact fin its _ rv hsrc
 ·obtain⟨its,rv,hsrc⟩:=yC I hs
  exact fin its _ rv hsrc
theorem ol:c9 X (.builtin "len") (fun xs H Q=>∃(a:Addr)(n:Nat),xs=[V.ref a]/\H a=some (mZ X.prog X.w a n)/\Q (.int n) H):=by
 intro pins s σ H xs us Q I r h
 obtain⟨a,n,rfl,ha,q⟩:=h
 rw[Vals.ref1 r]
 obtain⟨⟨S,o,es,ep,t,ho,hex,hd,_,_,hb,hf,hn⟩,_⟩:=I.hok a _ ha
 subst hn
 refine call_len_set ho hex hd hf ?_ ⟨.int es.size,H,I.tok _,⟨_,rfl⟩,q⟩
 have:(es.size:Int)<4096:=by unfold scanBound at hb;omega
 exact Int.lt_of_lt_of_le this (by decide)
theorem va {e:Expr} {td:TE} {apos cpos:Pos} (he:PE X e td) (hbase:attributeBase e "values" X.env (eval e X.env)=eval e X.env:=by rfl) (hline:(apos.endLine==cpos.line)=true:=by rfl) :
  PE X (.Call (.Attribute e "values" apos) [] [] cpos) (fun σ H Q=>td σ H fun x H1=>∃d kvs,x=.ref d/\H1 d=some (.dK kvs)/\∀v,H1 v=none->Q (.ref v) (upd H1 v (pp v d))):=by
 intro pins s σ H Q I h
 refine wpAny_Call_method (T:="dict") (id:="dict.values") hbase rfl hline F.plainAttrs_dict F.slot_dict_values F.type_dict_values (thn (he pins s σ H _ I h) fun u s1 ⟨x,H1,I1,rx,d,kvs,ex,hd,q⟩=>?_)
 subst ex
 obtain rfl:u=Value.ref d:=rx
 obtain⟨hz,lo,vs,kv,hD⟩:=kR I1.hok hd
 refine⟨hD.typeIs,hD.mapOf.noDict,?_⟩
 show wpAny _ _ (callWith cpos (.builtin "dict.values") [.ref d] [] []) _ X.xe s1
 refine method_meetsIn F.slot_dict_values F.entry_dict_values rfl (PySem.evalArgs_none ⟨rfl,hD.typeIs,F.args_dict_values_1 _,_,meets_dict_values (bi X.prog X.w) d lo,⟨vs,hD⟩,?_⟩)
 refine⟨.ref _,_,I1.laid (t':=s1.toks) (o:=pp s1.heap.objs.size d) (fun b ob q=>Heap.get?_push_of_some _ q) (Nat.le_refl _) ⟨⟨_,Heap.get?_push_size _ rfl,rfl,rfl⟩,⟨_,Heap.get?_push_size _ rfl⟩,?_⟩,rfl,q _ (I1.hok.fresh (Nat.le_refl _))⟩
 rintro h1 h2 ⟨o,e,r⟩ k
 exact⟨o,k o e,r⟩
theorem pj (hc:X.calm=true):c9 X (.type "list") (fun xs H Q=>∃v d kvs,xs=[V.ref v]/\H v=some (pp v d)/\H d=some (.dK kvs)/\∀p,H p=none->Q (.ref p) (upd H p (.lst (kvs.map (·.2))))):=by
 intro pins s σ H xs us Q I r h
 obtain⟨v,d,kvs,rfl,hv,hd,q⟩:=h
 rw[Vals.ref1 r]
 obtain⟨hz,lo,vs,kv,hD⟩:=kR I.hok hd
 obtain⟨ep,hat⟩:=hD.dictAt
 obtain⟨hview,_⟩:=I.hok v _ hv
 have hl:kvs.length=vs.length:=kv.length
 refine PySem.W.kdl_call (PySem.W.kdl_values (knd:=bi X.prog X.w) (kvs:=vs) (ep:=ep)) (I.ok.hd hc) ⟨hview,hat⟩ (by rw[<-hl];exact hz) fun h' tk acc c hk hL hacc=>?_
 have e:acc.toList=vs.map (·.2):=PySem.W.kdl_vals_eq acc.toList (by rw[Array.length_toList];exact hacc.1) fun j u hu=>hacc.2 j u (by rw[<-Array.getElem?_toList];exact hu)
 have hv2:Vals (kvs.map (·.2)) acc.toList:=by rw[e];exact uN kv
 refine⟨.ref _,upd H s.heap.objs.size (.lst (kvs.map (·.2))),I.laid (fun b u e=>hk b u e) (Nat.le_refl _) ⟨by rw[List.length_map];exact hz,acc.toList,c,hv2,?_⟩,rfl,q _ (I.hok.fresh (Nat.le_refl _))⟩
 simpa using hL
end
abbrev sv (b:B):V:=.str (st b)
theorem lZ {H:Hp}{d:Addr}{u:HO}(h:H d=some u):upd H d u=H:=by
 funext b
 unfold upd
 split
 ·rename_i e;subst e;exact h.symm
 ·rfl
theorem z9 {H:Hp}{d:Addr}{u v:HO}(h:H d=some u):upd (upd H d v) d u=H:=by rw[bW,lZ h]
theorem nQ {H H':Hp}{d:Addr}{u:HO}{od:Obj}(h:H d=some u)(s:Same (upd H d (.frz od u)) H'):Same H (upd H' d u):=fun b o e=>by
 by_cases hb:b=d
 ·subst hb
  rw[h]at e;cases e
  exact af
 ·rw[ae hb]
  exact s b o (by rw[ae hb];exact e)
theorem yT {H:Hp}{d b:Addr}{u o:HO}{od:Obj}(h:H d=some u)(hb:H b=some o)(hne:o≠u):(upd H d (.frz od u)) b=some o:=by
 rw[ae (bo hb h hne)];exact hb
def kN (b:B):Key:=Sum.inr (st b)
theorem d7 {a b:B}(h:kN a=kN b):a=b:=gh (Sum.inr.inj h)
theorem yJ (b:B):kV (kN b)=sv b:=rfl
def aX (l:List B):List (Key×V):=l.map fun a=>(kN a,V.bl true)
theorem jU (l:List B):(aX l).map (·.1)=l.map kN:=by
 unfold aX
 rw[List.map_map]
 rfl
theorem mem_kN {l:List B}{x:B}:kN x∈l.map kN↔x∈l:=by
 rw[List.mem_map]
 constructor
 ·rintro⟨y,hy,e⟩;rw[<-d7 e];exact hy
 ·intro h;exact⟨x,h,rfl⟩
theorem iN {κ:Type}[DecidableEq κ]{kvs:List (κ×V)}{k:κ}:(az kvs k).isSome=true↔k∈kvs.map (·.1):=by
 cases e:az kvs k with
 |none=>exact⟨(fun h=>by cases h),fun h=>absurd h (jv e)⟩
 |some v=>exact⟨fun _=>iU e,fun _=>rfl⟩
theorem qv (l:List B)(x:B):(az (aX l) (kN x)).isSome=decide (x∈l):=by
 rw[Bool.eq_iff_iff,iN,jU,decide_eq_true_iff]
 exact mem_kN
def fB (l:List B)(x:B):List B:=if x∈l then l else l++[x]
theorem wd {l:List B}{x y:B}:y∈fB l x↔y∈l∨y=x:=by
 unfold fB
 split
 ·rename_i h
  constructor
  ·exact .inl
  ·rintro (z|z)
   ·exact z
   ·subst z;exact h
 ·simp
theorem tE {l:List B}{x:B}(h:l.Nodup):(fB l x).Nodup:=by
 unfold fB
 split
 ·exact h
 ·rename_i hn;exact i9 h hn
theorem wB {l:List B}{x:B}:(fB l x).length<=l.length+1:=by
 unfold fB
 split<;>simp
theorem pB (l:List B)(x:B):bI (aX l) (kN x) (.bl true)=aX (fB l x):=by
 unfold fB
 split
 ·rename_i h
  have hany:((aX l).any fun kv=>decide (kv.1=kN x))=true:=by
   rw[List.any_eq_true]
   exact⟨(kN x,.bl true),List.mem_map.mpr ⟨x,h,rfl⟩,decide_eq_true rfl⟩
  unfold bI
  rw[if_pos hany]
  unfold aX
  rw[List.map_map]
  refine List.map_congr_left fun a _=>?_
  show (if kN a=kN x then (kN a,V.bl true) else (kN a,V.bl true))=_
  split<;>rfl
 ·rename_i h
  rw[fO _ (gd (by rw[jU];exact fun z=>h (mem_kN.mp z)))]
  unfold aX
  rw[List.map_append]
  rfl
def bN (l as:List B):List B:=as.foldl fB l
theorem dZ:∀(as l:List B),l.Nodup->(bN l as).Nodup/\∀x,x∈bN l as↔x∈l∨x∈as
 |[],l,h=>⟨h,fun x=>by simp[bN]⟩
 |a :: as,l,h=>by
  obtain⟨h1,h2⟩:=dZ as (fB l a) (tE h)
  refine⟨h1,fun x=>?_⟩
  show x∈bN (fB l a) as↔_
  rw[h2,wd,List.mem_cons]
  constructor
  ·rintro ((z|z)|z)<;>simp[z]
  ·rintro (z|z|z)<;>simp[z]
theorem ji:∀(as l:List B),(bN l as).length<=l.length+as.length
 |[],l=>Nat.le_refl _
 |a :: as,l=>by
  have:=ji as (fB l a)
  have h:=wB (l:=l) (x:=a)
  show (bN (fB l a) as).length<=_
  rw[List.length_cons]
  omega
def aZ (l:List (Mo.Row×Addr)):List (Key×V):=l.map fun x=>(kN x.1.name,V.ref x.2)
theorem iB (l:List (Mo.Row×Addr)):(aZ l).map (·.1)=(l.map fun x=>x.1.name).map kN:=by
 unfold aZ
 rw[List.map_map,List.map_map]
 rfl
theorem jh (l:List (Mo.Row×Addr))(x:B):(az (aZ l) (kN x)).isSome=decide (x∈l.map fun y=>y.1.name):=by
 rw[Bool.eq_iff_iff,iN,iB,decide_eq_true_iff]
 exact mem_kN
theorem pO {l:List (Mo.Row×Addr)}{r:Mo.Row}{p:Addr}(h:¬r.name∈l.map fun y=>y.1.name):bI (aZ l) (kN r.name) (.ref p)=aZ (l++[(r,p)]):=by
 rw[fO _ (gd (by rw[iB];exact fun z=>h (mem_kN.mp z)))]
 unfold aZ
 rw[List.map_append]
 rfl
theorem lB:∀{l:List (Mo.Row×Addr)} {x:Mo.Row×Addr},(l.map fun y=>y.1.name).Nodup->x∈l->az (aZ l) (kN x.1.name)=some (.ref x.2)
 |y :: l,x,hn,hx=>by
  rw[List.map_cons,List.nodup_cons]at hn
  by_cases e:y.1.name=x.1.name
  ·have:x=y:=by
    rcases List.mem_cons.mp hx with z|z
    ·exact z
    ·exact absurd (e▸List.mem_map.mpr ⟨x,z,rfl⟩) hn.1
   subst this
   exact bL rfl
  ·have n:¬(kN y.1.name)=kN x.1.name:=fun z=>e (d7 z)
   show az ((kN y.1.name,V.ref y.2) :: aZ l) _=_
   rw[bM n]
   rcases List.mem_cons.mp hx with z|z
   ·subst z;exact absurd rfl e
   ·exact lB hn.2 z
theorem jn {K:PySem.W.Frag}{H:Hp}:∀(ls:List B),DpAll K H (ls.map sv) (ls.map fun b=>PyData.str (st b))
 |[]=>.nil
 |b :: r=>.cons (.str _) (jn r)
theorem lm:∀(ls ms:List B),PyData.eqvAll (ls.map fun b=>PyData.str (st b)) (ms.map fun b=>PyData.str (st b))=decide (ls=ms)
 |[],[]=>rfl
 |[],m :: ms=>rfl
 |l :: ls,[]=>rfl
 |l :: ls,m :: ms=>by
  have ih:=lm ls ms
  rw[List.map_cons,List.map_cons]
  unfold PyData.eqvAll
  rw[ih]
  have e:PyData.eqv (PyData.str (st l)) (PyData.str (st m))=decide (l=m):=by
   show (st l==st m)=_
   by_cases z:l=m
   ·subst z;simp
   ·rw[decide_eq_false z]
    exact beq_false_of_ne fun h=>z (gh h)
  rw[e]
  by_cases a:l=m<;>by_cases b:ls=ms<;>simp[a,b]
theorem mq {l:Mo.Lit}(h:Mo.isName l.atom=true):∀c∈aS l,c<128:=by
 have ha:∀c∈l.atom,c<128:=by
  rw[ca]at h
  simp only[Bool.and_eq_true,List.all_eq_true]at h
  intro c hc
  have:=h.2.2.2 c hc
  simp[dh,Mo.isSmall,Mo.isDigit]at this
  omega
 unfold aS
 split
 ·intro c hc
  rcases List.mem_cons.mp hc with e|e
  ·subst e;decide
  ·exact ha c e
 ·exact ha
theorem lb {ls:List B}(h:∀b∈ls,∀c∈b,c<128):SeqAt.shaped (.tuple (ls.map fun b=>PyData.str (st b)))=true:=by
 have key:PyData.canLayAll0 (ls.map fun b=>PyData.str (st b))=true/\PyData.depthAll (ls.map fun b=>PyData.str (st b))=0:=by
  induction ls with
  |nil=>exact⟨rfl,rfl⟩
  |cons b r ih=>
   obtain⟨i1,i2⟩:=ih fun x hx=>h x (by simp[hx])
   rw[List.map_cons]
   have hb:PyData.strOk (st b)=true:=by
    unfold PyData.strOk
    rw[Array.all_eq_true']
    intro c hc
    have:c∈b:=by simpa[st] using hc
    have:=h b (by simp) c this
    exact decide_eq_true (by omega)
   refine⟨?_,?_⟩
   ·show (PyData.strOk (st b)&&PyData.canLayAll0 (r.map fun b=>PyData.str (st b)))=true
    rw[hb,i1];rfl
   ·show max 0 (PyData.depthAll (r.map fun b=>PyData.str (st b)))=0
    rw[i2];rfl
 show (PyData.canLayAll0 _&&decide (PyData.depthAll _+1<=64))=true
 rw[key.1,key.2]
 decide
def ClauseAt (C:Addr)(H:Hp)(p:Addr)(n:B)(ls:List V)(h:V):Prop:=∃dx bp,H p=some (.ins C dx [("name",sv n),("body",.ref bp),("head",h)])/\H bp=some (.tup ls)
def RowAt (C:Addr)(H:Hp)(p:Addr)(r:Mo.Row):Prop:=ClauseAt C H p r.name ((r.body.map aS).map sv) (sv (aS r.head))
theorem ClauseAt.same {C:Addr}{H H':Hp}{p:Addr}{n:B}{ls:List V}{h:V}(x:ClauseAt C H p n ls h)(s:Same H H'):ClauseAt C H' p n ls h:=
 let ⟨dx,bp,a,b⟩:=x
 ⟨dx,bp,s _ _ a,s _ _ b⟩
theorem RowAt.same {C:Addr}{H H':Hp}{p:Addr}{r:Mo.Row}(x:RowAt C H p r)(s:Same H H'):RowAt C H' p r:=ClauseAt.same x s
theorem ClauseAt.put {C:Addr}{H:Hp}{p d:Addr}{n:B}{ls:List V}{h:V}{o:HO}{kvs:List (Key×V)}(x:ClauseAt C H p n ls h)(hd:H d=some (.dK kvs)):ClauseAt C (upd H d o) p n ls h:=
 let ⟨dx,bp,a,b⟩:=x
 ⟨dx,bp,by rw[ae (bo a hd (by intro z;cases z))];exact a,by rw[ae (bo b hd (by intro z;cases z))];exact b⟩
theorem RowAt.put {C:Addr}{H:Hp}{p d:Addr}{r:Mo.Row}{o:HO}{kvs:List (Key×V)}(x:RowAt C H p r)(hd:H d=some (.dK kvs)):RowAt C (upd H d o) p r:=ClauseAt.put x hd
theorem fq {a b c:V}:([(("name":Str),a),("body",b),("head",c)]:List (Str×V)).lookup ("name":Str)=some a:=rfl
theorem dv {a b c:V}:([(("name":Str),a),("body",b),("head",c)]:List (Str×V)).lookup ("body":Str)=some b:=by
 have h1:(("body":Str)==("name":Str))=false:=by decide +kernel
 simp[List.lookup,h1]
theorem eN {a b c:V}:([(("name":Str),a),("body",b),("head",c)]:List (Str×V)).lookup ("head":Str)=some c:=by
 have h1:(("head":Str)==("name":Str))=false:=by decide +kernel
 have h2:(("head":Str)==("body":Str))=false:=by decide +kernel
 simp[List.lookup,h1,h2]
theorem oe {J:It}{n:Nat}{I:Nat->V->Prop}{P:Hp->Prop}(pl:Plain J n I P){g:TG}{tt:TT}{te:TE}{vs:List Nat}{σ:L2.St}{H1:Hp}{D:Addr}{Qd:Hp->Prop}(ys:List (Option V))(hn:ys.length=n)(hz:n<=sizeLine)
  (hD:H1 D=none)(hP:∀H,Same H1 H->P H)
  (hs:∀i x y H,I i x->ys[i]?=some y->Same H1 H->∀(R:V->Hp->Prop)(R':Hp->Prop),(∀v H',y=some v->Same H H'->R v H')->(∀H',y=none->Same H H'->R' H')->
   g x (a9 σ vs) H fun σ2 H2=>a9 σ2 vs=a9 σ vs/\tt σ2 H2 fun b H3=>if b=true then te σ2 H3 R else R' H3)
  (hd:∀H,Same H1 H->H D=some (.lst (ys.filterMap id))->Qd H):
  ∃W:Nat->Nat->Hp->Prop,(∃m,W 0 m (upd H1 D (.lst [])))/\∀i m H,W i m H->
   (J.stop i H/\Qd H)∨(J.go i H/\∃Nx:Hp->Prop,(∀H',Nx H'->∃m',m'<m/\W (i+1) m' H')/\∀x H',J.yld i H x H'->g x (a9 σ vs) H' fun σ2 H2=>a9 σ2 vs=a9 σ vs/\tt σ2 H2 fun b H3=>
    if b=true then te σ2 H3 fun y H4=>∃acc,H4 D=some (.lst acc)/\acc.length<sizeLine/\Nx (upd H4 D (.lst (acc++[y]))) else Nx H3):=by
 refine⟨fun i m H=>m=n-i/\i<=n/\Same H1 H/\H D=some (.lst ((ys.take i).filterMap id)),⟨n,by simp,Nat.zero_le _,ak hD,by rw[af];rfl⟩,?_⟩
 rintro i m H ⟨rfl,hi,sm,hDi⟩
 by_cases hlt:i<n
 ·right
  refine⟨pl.go i H (hP H sm) hlt,fun H'=>Same H1 H'/\H' D=some (.lst ((ys.take (i+1)).filterMap id)),fun H' h=>⟨n-(i+1),by omega,rfl,hlt,h.1,h.2⟩,fun x H' y=>?_⟩
  obtain⟨e,hx⟩:=pl.yld i H x H' (hP H sm) hlt y
  subst e
  have hyl:i<ys.length:=by omega
  have hy:ys[i]?=some ys[i]:=by simp[hyl]
  have tk:ys.take (i+1)=ys.take i++[ys[i]]:=by rw[List.take_succ,hy];rfl
  have lenle:((ys.take i).filterMap id).length<=i:=by
   have h1:=List.length_filterMap_le id (ys.take i)
   rw[List.length_take]at h1
   omega
  refine hs i x ys[i] H' hx hy sm _ _ (fun v H4 ev s4=>?_) (fun H4 ev s4=>?_)
  ·refine⟨(ys.take i).filterMap id,s4 _ _ hDi,by omega,aN (sm.trans s4) hD,?_⟩
   rw[af,tk,List.filterMap_append,ev]
   rfl
  ·refine⟨sm.trans s4,?_⟩
   rw[tk,List.filterMap_append,ev]
   simp
   exact s4 _ _ hDi
 ·left
  have e:i=n:=by omega
  subst e
  refine⟨pl.stop H (hP H sm),hd H sm ?_⟩
  rw[List.take_of_length_le (by omega)]at hDi
  exact hDi
def qJ (s:Stp):List Key×Key:=(s.body,s.lit)
theorem oG {S:List Stp}:∀(b:List Key),(∀x∈b,∃n,aM S n x=true)->∃n,b.all (aM S n)=true
 |[],_=>⟨0,rfl⟩
 |x :: b,h=>by
  obtain⟨n,hn⟩:=h x (by simp)
  obtain⟨m,hm⟩:=oG b fun y hy=>h y (by simp[hy])
  refine⟨max n m,?_⟩
  rw[List.all_cons,Bool.and_eq_true]
  refine⟨fQ hn (Nat.le_max_left _ _),?_⟩
  rw[List.all_eq_true]at hm ⊢
  exact fun y hy=>fQ (hm y hy) (Nat.le_max_right _ _)
theorem wE {S:List Stp}{k:Key}:(∃n,aM S n k=true)↔Dr (S.map qJ) k:=by
 constructor
 ·rintro⟨n,h⟩
  induction n generalizing k with
  |zero=>cases h
  |succ n ih=>
   rw[fh,Bool.or_eq_true]at h
   rcases h with h|h
   ·exact ih h
   ·rw[List.any_eq_true]at h
    obtain⟨s,hs,h⟩:=h
    rw[Bool.and_eq_true,List.all_eq_true]at h
    have e:=of_decide_eq_true h.1
    subst e
    exact .mk (b:=s.body) (List.mem_map.mpr ⟨s,hs,rfl⟩) fun x hx=>ih (h.2 x hx)
 ·intro h
  induction h with
  |mk hr _ ih=>
   obtain⟨s,hs,e⟩:=List.mem_map.mp hr
   cases e
   obtain⟨n,hn⟩:=oG s.body ih
   refine⟨n+1,?_⟩
   rw[fh,Bool.or_eq_true,List.any_eq_true]
   exact .inr ⟨s,hs,by rw[decide_eq_true rfl,hn];rfl⟩
theorem Rds.dom {S:List Stp}{kvs:List (Key×V)}(r:Rds S kvs)(k:Key):(az kvs k).isSome=true↔Dr (S.map qJ) k:=by
 rw[<-wE]
 cases e:az kvs k with
 |none=>
  constructor
  ·intro h;cases h
  ·rintro⟨n,hn⟩
   rw[r.no k e n]at hn;cases hn
 |some v=>
  obtain⟨m,_,hm⟩:=r.yes k v e
  exact⟨fun _=>⟨m,hm.1⟩,fun _=>rfl⟩
theorem oF (a b:B):st a++st b=st (a++b):=by
 refine TL.ext_tl ?_
 rw[TL.tl_append,TL.tl_mk,TL.tl_mk,TL.tl_mk]
def qx (r:Mo.Row):Stp:=⟨1,0,(r.body.map aS).map kN,kN (aS r.head)⟩
theorem lawStp_dr {l:List Mo.Row}{t:B}:Dr ((l.map qx).map qJ) (kN t)↔Dr (cJ l) t:=by
 have:=pC (S:=cJ l) (f:=kN) (fun _=>True) (fun _ _=>⟨fun _ _=>trivial,trivial⟩) (fun x y _ _ e=>d7 e) (k:=t) trivial
 rw[<-this]
 unfold cJ
 rw[List.map_map,List.map_map]
 rfl
theorem gW {J:It}{n:Nat}{I:Nat->V->Prop}{P:Hp->Prop}(pl:Plain J n I P){g:TG}{tt:TT}{te:TE}{vs:List Nat}{σ:L2.St}{H1:Hp}{D:Addr}{Qd:Hp->Prop}(n':Nat)(hn:n'=n)(hz:n<=sizeLine)
  (hD:H1 D=none)(hP:∀H,Same H1 H->P H)(G:Nat->Hp->Addr->Prop)(hG:∀i H H' p,Same H H'->G i H p->G i H' p)(hU:∀i H p L xs ys,H L=some (.lst xs)->G i H p->G i (upd H L (.lst ys)) p)
  (hs:∀i x H,I i x->Same H1 H->∀R:V->Hp->Prop,(∀q H',H q=none->Same H H'->G i H' q->R (.ref q) H')->g x (a9 σ vs) H fun σ2 H2=>a9 σ2 vs=a9 σ vs/\tt σ2 H2 fun b H3=>b=true/\te σ2 H3 R)
  (hd:∀H (ps:List Addr),ps.length=n->H D=some (.lst (ps.map V.ref))->Same H1 H->(∀i p,ps[i]?=some p->G i H p)->Qd H)
  (mono:∀σ2 H2 (R R':Bool->Hp->Prop),(∀b H,R b H->R' b H)->tt σ2 H2 R->tt σ2 H2 R':=by exact bB)
  (monog:∀x σ2 H2 (R R':L2.St->Hp->Prop),(∀b H,R b H->R' b H)->g x σ2 H2 R->g x σ2 H2 R':=by exact br) :
  ∃W:Nat->Nat->Hp->Prop,(∃m,W 0 m (upd H1 D (.lst [])))/\∀i m H,W i m H->
   (J.stop i H/\Qd H)∨(J.go i H/\∃Nx:Hp->Prop,(∀H',Nx H'->∃m',m'<m/\W (i+1) m' H')/\∀x H',J.yld i H x H'->g x (a9 σ vs) H' fun σ2 H2=>a9 σ2 vs=a9 σ vs/\tt σ2 H2 fun b H3=>
    if b=true then te σ2 H3 fun y H4=>∃acc,H4 D=some (.lst acc)/\acc.length<sizeLine/\Nx (upd H4 D (.lst (acc++[y]))) else Nx H3):=by
 subst hn
 refine⟨fun i m H=>m=n'-i/\i<=n'/\Same H1 H/\∃ps:List Addr,ps.length=i/\H D=some (.lst (ps.map V.ref))/\∀j p,ps[j]?=some p->G j H p,⟨n',by simp,Nat.zero_le _,ak hD,[],rfl,af,fun j p h=>by simp at h⟩,?_⟩
 rintro i m H ⟨rfl,hi,sm,ps,hpl,hDi,hGs⟩
 by_cases hlt:i<n'
 ·right
  refine⟨pl.go i H (hP H sm) hlt,fun H'=>Same H1 H'/\∃ps:List Addr,ps.length=i+1/\H' D=some (.lst (ps.map V.ref))/\∀j p,ps[j]?=some p->G j H' p,fun H' h=>⟨n'-(i+1),by omega,rfl,hlt,h.1,h.2⟩,fun x H' y=>?_⟩
  obtain⟨e,hx⟩:=pl.yld i H x H' (hP H sm) hlt y
  subst e
  refine monog _ _ _ _ _ (fun σ2 H2 h=>⟨h.1,mono _ _ _ _ (fun b H3 hb=>?_) h.2⟩) (hs i x H' hx sm (fun y H4=>∃acc,H4 D=some (.lst acc)/\acc.length<sizeLine/\Same H1 (upd H4 D (.lst (acc++[y])))/\∃ps:List Addr,ps.length=i+1/\(upd H4 D (.lst (acc++[y]))) D=some (.lst (ps.map V.ref))/\∀j p,ps[j]?=some p->G j (upd H4 D (.lst (acc++[y]))) p) fun q H4 hq s4 hg=>?_)
  ·rw[if_pos hb.1]
   exact hb.2
  ·refine⟨ps.map V.ref,s4 _ _ hDi,by rw[List.length_map];omega,aN (sm.trans s4) hD,ps++[q],by simp[hpl],by rw[af];simp,fun j p hj=>?_⟩
   refine hU j H4 p D _ _ (s4 _ _ hDi) ?_
   by_cases hji:j<i
   ·rw[List.getElem?_append_left (by omega)]at hj
    exact hG j H' H4 p s4 (hGs j p hj)
   ·rw[List.getElem?_append_right (by omega)]at hj
    have:j-ps.length=0:=by
     apply Decidable.byContradiction
     intro hne
     rw[List.getElem?_eq_none (by simp;omega)]at hj
     cases hj
    have e:j=i:=by omega
    subst e
    rw[this]at hj
    cases hj
    exact hg
 ·left
  have e:i=n':=by omega
  subst e
  exact⟨pl.stop H (hP H sm),hd H ps hpl hDi sm hGs⟩
theorem aG (K:PySem.W.Frag){X:Cx}{e:Expr}{f:Str}{ta:TE}{pos:Pos}(he:PE X e ta)(hb:attributeBase e f X.env (eval e X.env)=eval e X.env:=by rfl)(hK:X.K=K:=by rfl):PE X (.Attribute e f pos) (wf K ta f):=by
 subst hK
 exact yX he hb
theorem pE (K:PySem.W.Frag){X:Cx}(hK:X.K=K:=by rfl):IxR X (za K):=by subst hK;exact bf
theorem qb (K:PySem.W.Frag){X:Cx}(hK:X.K=K:=by rfl):c9 X (.builtin "len") (fun xs H Q=>∃p ys,xs=[.ref p]/\(SqL K H p ys∨SqT K H p ys)/\Q (.int ys.length) H):=by subst hK;exact aP
theorem uP (K:PySem.W.Frag){X:Cx}(hK:X.K=K:=by rfl):MtR X "list.index" (vp K):=by subst hK;exact wM
theorem cU (a b:Nat):Builtin.bitAnd (a:Int) (b:Int)=((a&&&b:Nat):Int):=by
 unfold Builtin.bitAnd
 rw[decide_eq_true (Int.natCast_nonneg a),decide_eq_true (Int.natCast_nonneg b)]
 rfl
theorem eO (a b:Nat):Builtin.bitOr (a:Int) (b:Int)=((a|||b:Nat):Int):=by
 unfold Builtin.bitOr Builtin.bitNot Builtin.bitAnd
 have h1:decide (0<=-(a:Int)-1)=false:=decide_eq_false (by omega)
 have h2:decide (0<=-(b:Int)-1)=false:=decide_eq_false (by omega)
 rw[h1,h2]
 show -(-(((-(-(a:Int)-1)-1).toNat|||(-(-(b:Int)-1)-1).toNat:Nat):Int)-1)-1=_
 have e1:(-(-(a:Int)-1)-1).toNat=a:=by omega
 have e2:(-(-(b:Int)-1)-1).toNat=b:=by omega
 rw[e1,e2]
 omega
theorem nn (a j:Nat):(a:Int) / 2^((j:Int)).toNat=((a / 2^j:Nat):Int):=by
 rw[Int.toNat_natCast]
 norm_cast
theorem sf (a j:Nat):(a:Int)*2^((j:Int)).toNat=((a*2^j:Nat):Int):=by
 rw[Int.toNat_natCast]
 norm_cast
theorem pT (S n:Nat):(S / 2^n)&&&1=if Mo.held S n=true then 1 else 0:=by
 rw[Nat.and_one_is_mod]
 unfold Mo.held
 rw[Nat.testBit_eq_decide_div_mod_eq]
 have:S / 2^n%2<2:=Nat.mod_lt _ (by decide)
 by_cases h:S / 2^n%2=1
 ·simp[h]
 ·have:S / 2^n%2=0:=by omega
  simp[this]
theorem l3:∀a b:B,a<b↔Mo.below a b=true
 |[],[]=>by simp[Mo.below]
 |[],y :: s=>by simp[Mo.below]
 |x :: r,[]=>by simp[Mo.below]
 |x :: r,y :: s=>by
  rw[List.cons_lt_cons_iff,l3 r s]
  simp[Mo.below]
theorem qf:∀{ys:List Str},sortedS ys=true->ys.Pairwise fun a b=>¬b.cps.toList<a.cps.toList:=by
 have key:∀(r:List Str)(x:Str),risingS x r=true->(∀y∈r,¬y.cps.toList<x.cps.toList)/\r.Pairwise fun a b=>¬b.cps.toList<a.cps.toList:=by
  intro r
  induction r with
  |nil=>intro x _;exact⟨(fun y h=>nomatch h),.nil⟩
  |cons y r ih=>
   intro x h
   unfold risingS at h
   rw[Bool.and_eq_true]at h
   obtain⟨h1,h2⟩:=ih y h.2
   have hyx:¬y.cps.toList<x.cps.toList:=by
    have:=h.1
    rw[ltCps_eq,Bool.not_eq_true',decide_eq_false_iff_not]at this
    exact this
   refine⟨fun z hz=>?_,List.pairwise_cons.mpr ⟨h1,h2⟩⟩
   rcases List.mem_cons.mp hz with e|e
   ·subst e;exact hyx
   ·intro hzx
    have:=h1 z e
    rw[l3]at this hyx hzx
    rcases d9 x.cps.toList y.cps.toList with q|q|q
    ·rw[q]at hzx;exact this hzx
    ·exact this (d8 hzx q)
    ·exact hyx q
 intro ys h
 cases ys with
 |nil=>exact .nil
 |cons x r=>
  obtain⟨h1,h2⟩:=key r x h
  exact List.pairwise_cons.mpr ⟨h1,h2⟩
theorem ib {ys:List Str}{ns:List B}(hp:ys.Perm (ns.map st))(hs:sortedS ys=true)(hn:ns.Nodup):∃zs:List B,ys=zs.map st/\zs.Perm ns/\bv id zs:=by
 refine⟨ys.map fun y=>y.cps.toList,?_,?_,?_⟩
 ·rw[List.map_map]
  conv=>lhs;rw[<-List.map_id ys]
  refine List.map_congr_left fun y hy=>?_
  obtain⟨b,_,e⟩:=List.mem_map.mp (hp.mem_iff.mp hy)
  subst e
  show st b=st (st b).cps.toList
  rw[e7]
 ·have:=hp.map fun y:Str=>y.cps.toList
  rw[List.map_map]at this
  have e:(ns.map ((fun y:Str=>y.cps.toList) ∘ st))=ns:=by
   conv=>rhs;rw[<-List.map_id ns]
   exact List.map_congr_left fun b _=>e7 b
  rw[e]at this
  exact this
 ·refine List.pairwise_map.mpr ?_
  have hnd:ys.Nodup:=hp.nodup_iff.mpr (by
   refine List.pairwise_map.mpr ?_
   exact List.Pairwise.imp (fun hab e=>hab (gh e)) hn)
  have hin:∀y∈ys,∃b,y=st b:=fun y hy=>by
   obtain⟨b,_,e⟩:=List.mem_map.mp (hp.mem_iff.mp hy)
   exact⟨b,e.symm⟩
  refine List.Pairwise.imp_of_mem (fun {a b} ha hb hab=>?_) ((qf hs).and hnd)
  obtain⟨h1,h2⟩:=hab
  rw[l3]at h1
  rcases d9 a.cps.toList b.cps.toList with q|q|q
  ·exfalso
   obtain⟨u,rfl⟩:=hin a ha
   obtain⟨v,rfl⟩:=hin b hb
   rw[e7,e7]at q
   exact h2 (by rw[q])
  ·exact q
  ·exact absurd q h1
theorem zb (K:PySem.W.Frag) {X:Cx} {o e:Expr} {es:List Expr} {to:TE} {t:TA} {name:Str} {apos cpos:Pos} {T id:String} {r:V->List V->Hp->VK->Prop} (pa:PlainAttrs T) (slot:Slot T name id) (hty:typeOf (.builtin id)=pure (.type "method_descriptor")) (hm:MtR X id r) (ho:PE X o to) (ha:PA X (e :: es) t)
  (hbase:attributeBase o name X.env (eval o X.env)=eval o X.env:=by rfl)
  (hfew:((backTo cpos (starEach (e :: es) X.env)).all (fun x=>!x.1)&&(backToKw cpos (keywordEach [] X.env)).all (fun x=>x.1.isSome)
   && decide ((e :: es).length+([]:List Keyword).length+(if ([]:List Keyword).isEmpty then 0 else 1)<30))=true:=by rfl)
  (hline:(apos.endLine==cpos.line)=true:=by rfl) (hs:starEach (e :: es) X.env=(false,eval e X.env) :: starEach es X.env:=by rfl) (hplain:(backTo cpos (starEach es X.env)).any (·.1)=false:=by rfl) (hK:X.K=K:=by rfl) :
  PE X (.Call (.Attribute o name apos) (e :: es) [] cpos) (tBM K T r to t):=by
 subst hK
 exact eU pa slot hty hm ho ha hbase hfew hline hs hplain
structure NumD (atoms:List B)(n:Nat)(kvs:List (Key×V)):Prop where
 pos:∀i a,i<n->atoms[i]?=some a->az kvs (kN a)=some (.int (2*(i:Int)))
 neg:∀i a,i<n->atoms[i]?=some a->az kvs (kN (126 :: a))=some (.int (2*(i:Int)+1))
 len:kvs.length<=2*n
theorem lQ {kvs:List (Key×V)}{k:Key}{v:V}:(bI kvs k v).length<=kvs.length+1:=by
 unfold bI
 split<;>simp
theorem NumD.put {atoms:List B}{n:Nat}{kvs:List (Key×V)}{a:B}(h:NumD atoms n kvs)(nd:atoms.Nodup)(hn:∀a∈atoms,Mo.isName a=true)(ha:atoms[n]?=some a):NumD atoms (n+1) (bI (bI kvs (kN a) (.int (2*(n:Int)))) (kN (126 :: a)) (.int (2*(n:Int)+1))):=by
 have no:∀b∈atoms,¬kN b=kN (126 :: a):=fun b hb z=>cs (hn b hb) (by rw[d7 z];rfl)
 have inj:∀i b,i<n->atoms[i]?=some b->¬b=a:=fun i b hi hb z=>by
  subst z
  have:=mH nd hb ha
  omega
 refine⟨fun i b hi hb=>?_,fun i b hi hb=>?_,?_⟩
 ·rw[fI,if_neg (no b (List.mem_of_getElem? hb)),fI]
  by_cases e:i=n
  ·subst e
   rw[ha]at hb;cases hb
   rw[if_pos rfl]
  ·rw[if_neg (fun z=>inj i b (by omega) hb (d7 z))]
   exact h.pos i b (by omega) hb
 ·rw[fI]
  by_cases e:i=n
  ·subst e
   rw[ha]at hb;cases hb
   rw[if_pos rfl]
  ·have hne:=inj i b (by omega) hb
   rw[if_neg (fun z=>hne ((List.cons.inj (d7 z)).2)),fI,if_neg (fun z=>cs (hn a (List.mem_of_getElem? ha)) (by rw[<-d7 z];rfl))]
   exact h.neg i b (by omega) hb
 ·have h1:=lQ (kvs:=kvs) (k:=kN a) (v:=.int (2*(n:Int)))
  have h2:=lQ (kvs:=bI kvs (kN a) (.int (2*(n:Int)))) (k:=kN (126 :: a)) (v:=.int (2*(n:Int)+1))
  have h3:=h.len
  omega
theorem NumD.lit {atoms:List B}{kvs:List (Key×V)}(h:NumD atoms atoms.length kvs)(nd:atoms.Nodup)(c:Mo.Case){l:Mo.Lit}(hl:l.atom∈atoms):az kvs (kN (aS l))=some (.int ((c.lit atoms l:Nat):Int)):=by
 obtain⟨i,h1,h2⟩:=kK c hl
 have hi:=(List.getElem?_eq_some_iff.mp h1).1
 obtain⟨a,b⟩:=l
 rw[h2]
 cases b
 ·have:=h.pos i a hi h1
  simpa[aS] using this
 ·have:=h.neg i a hi h1
  simpa[aS] using this
theorem yP {H:Hp}{a:Addr}{kvs:List (Key×V)}{k:Key}{v y:V}(e:H a=some (.dK kvs))(hy:y=kV k)(hl:kvs.length<sizeLine):DPut H a y v (upd H a (.dK (bI kvs k v))):=by
 subst hy;exact DPut.k e hl
theorem fb {H:Hp}{a:Addr}{kvs:List (Key×V)}{k:Key}{r:Option V}{y:V}(e:H a=some (.dK kvs))(hy:y=kV k)(hr:az kvs k=r):DGet H a y r:=by
 subst hy hr;exact DGet.k e
inductive AK where
 |i (n:Int)
 |l (ns:List Int)
def AK.w:AK->PySem.W.WData
 |.i n=>.int n
 |.l ns=>.list (ns.map .int)
def Arg (h:Heap):AK->V->Prop
 |.i n,x=>x=.int n
 |.l ns,x=>∃a vs,x=.ref a/\h.get? a=some { cls:=.type "list",data:=.seq vs.toArray }/\IntsAre vs ns
def t8 (K:PySem.W.Frag)(H:Hp):AK->V->Prop
 |.i n,x=>x=.int n
 |.l ns,x=>∃a,x=.ref a/\SqL K H a (ns.map V.int)
inductive Args (R:AK->V->Prop):List AK->List V->Prop
 |nil:Args R [] []
 |cons {k:AK} {x:V} {ks:List AK} {xs:List V}:R k x->Args R ks xs->Args R (k :: ks) (x :: xs)
theorem nG {P:Params}{h:Heap}:∀{ns:List Int} {vs:List Value},PySem.W.WellAll P h vs (ns.map .int)->IntsAre vs ns
 |[],_,w=>by cases w;exact .nil
 |n :: ns,_,w=>by
  cases w with
  |cons a b=>
   cases a
   exact .cons n _ (nG b)
theorem n9 {P:Params}{h:Heap}:∀{ks:List AK} {vals:List Value},PySem.W.WellAll P h vals (ks.map AK.w)->∃xs,Vals xs vals/\Args (Arg h) ks xs
 |[],_,w=>by cases w;exact⟨[],.nil,.nil⟩
 |k :: ks,_,w=>by
  cases w with
  |cons a b=>
   obtain⟨xs,h1,h2⟩:=n9 b
   cases k with
   |i n=>
    cases a
    exact⟨.int n :: xs,.cons ⟨_,rfl⟩ h1,.cons rfl h2⟩
   |l ns=>
    cases a with
    |list ho hw=>exact⟨.ref _ :: xs,.cons rfl h1,.cons ⟨_,_,rfl,ho,nG hw⟩ h2⟩
theorem oH:∀{vs:List Value} {ns ms:List Int},IntsAre vs ns->IntsAre vs ms->ns=ms
 |_,_,_,.nil,h=>by cases h;rfl
 |_,_,_,.cons n t r,h=>by
  cases h with
  |cons _ _ q=>rw[oH r q]
def zG (h:Heap)(ks:List AK)(xs:List V)(las:List (Addr×List Value×List Int)):Prop:=
 (∀x∈las,h.get? x.1=some { cls:=.type "list",data:=.seq x.2.1.toArray }/\IntsAre x.2.1 x.2.2/\AK.l x.2.2∈ks)/\Args (fun k x=>match k with|.i n=>x=.int n|.l ns=>∃a vs,x=.ref a/\(a,vs,ns)∈las) ks xs
theorem Args.mono {R R':AK->V->Prop}{ks:List AK}{xs:List V}(h:Args R ks xs)(e:∀k x,R k x->R' k x):Args R' ks xs:=by
 induction h with
 |nil=>exact .nil
 |cons a _ ih=>exact .cons (e _ _ a) ih
theorem pA {h:Heap}:∀{ks:List AK} {xs:List V},Args (Arg h) ks xs->∃las,zG h ks xs las
 |[],_,.nil=>⟨[],(fun x hx=>nomatch hx),.nil⟩
 |k :: ks,_,.cons a b=>by
  obtain⟨las,h1,h2⟩:=pA b
  cases k with
  |i n=>exact⟨las,fun x hx=>⟨(h1 x hx).1,(h1 x hx).2.1,List.mem_cons_of_mem _ (h1 x hx).2.2⟩,.cons a h2⟩
  |l ns=>
   obtain⟨ad,vs,rfl,ho,hi⟩:=a
   refine⟨(ad,vs,ns) :: las,fun x hx=>?_,.cons ⟨ad,vs,rfl,by simp⟩ (h2.mono fun k x hk=>?_)⟩
   ·rcases List.mem_cons.mp hx with e|e
    ·subst e;exact⟨ho,hi,by simp⟩
    ·exact⟨(h1 x e).1,(h1 x e).2.1,List.mem_cons_of_mem _ (h1 x e).2.2⟩
   ·cases k with
    |i n=>exact hk
    |l ms=>
     obtain⟨a,vs,e,hm⟩:=hk
     exact⟨a,vs,e,List.mem_cons_of_mem _ hm⟩
theorem mm {R:PySem.W.WRecords}{cl:Str->Option Addr}{h:Heap}:∀{its:List Value} {ns:List Int},IntsAre its ns->PySem.W.ReadsAllW R cl h its (ns.map .int) []
 |_,_,.nil=>.nil
 |_,_,.cons n t r=>.cons (.int n t) (mm r)
theorem bC {K:PySem.W.Frag}{h:Heap}{mg:Str->Option Value}{x:Str}{n:Int}{t:Tok}(X:K.In h)(G:h.Ns mainGlobals mg)(e:PySem.W.nsIn K mainGlobals x=some (some (.int n t))):GV mg x (.int n):=⟨_,PySem.W.mg_of X G e,t,rfl⟩
theorem ku {K:PySem.W.Frag}{h:Heap}{mg:Str->Option Value}{x s:Str}{t:Tok}(X:K.In h)(G:h.Ns mainGlobals mg)(e:PySem.W.nsIn K mainGlobals x=some (some (.str s t))):GV mg x (.str s):=⟨_,PySem.W.mg_of X G e,t,rfl⟩
theorem ay {K:PySem.W.Frag}{h:Heap}{mg:Str->Option Value}{x:Str}{st:Stmt}{ps:List Str}{f:Addr}{oc:Value}{od an:Option Addr}{osl:Array (Option Value)}{kV doc pm cdv ct:Value}(X:K.In h)(G:h.Ns mainGlobals mg)
  (a:PySem.W.nsIn K mainGlobals x=some (some (.ref f)))(l:K.lookup f=some ⟨oc,od,.func (PySem.W.fnOf x x (cZ st) (b8 st) (ai st) .none kV doc pm an cdv ct),osl⟩)(c:PySem.W.codeIn K cdv x=true)(k:PySem.W.keepIn K (.ref f)=true)
  (hb:∀(kV doc pm:Value)(an:Option Addr)(cdv ct:Value)(us:List Value),us.length=ps.length->bindArgs (PySem.W.fnOf x x (cZ st) (b8 st) (ai st) .none kV doc pm an cdv ct) ⟨us,[]⟩=pure (ps.zip us)):DefAt K mg x st ps:=
 ⟨f,_,PySem.W.mg_of X G a,mv l c k,(mv l c k).binds hb⟩
theorem kC {K:PySem.W.Frag} {h:Heap} {mg:Str->Option Value} {x qual:Str} {st:Stmt} {ps:List Str} {C f:Addr} {oc:Value} {od an:Option Addr} {osl:Array (Option Value)} {kV doc pm cdv ct:Value} (X:K.In h) (G:h.Ns mainGlobals mg) (hq:qual=x++".__init__")
  (aC:PySem.W.nsIn K mainGlobals x=some (some (.ref C))) (a:PySem.W.findIn K (.ref C) "__init__"=some (some (.ref f))) (i:PySem.W.isFn K (.ref f)=true)
  (l:K.lookup f=some ⟨oc,od,.func (PySem.W.fnOf "__init__" qual (cZ st) (b8 st) (ai st) .none kV doc pm an cdv ct),osl⟩) (c:PySem.W.codeIn K cdv qual=true) (k:PySem.W.keepIn K (.ref f)=true)
  (pg:PySem.W.plainGet K C Str.empty=true) (hd:PySem.W.hasDictIn K C=true) (po:PySem.W.plainOver K C=true) (sa:PySem.W.findIn K (.ref C) "__setattr__"=some (some (.builtin "object.__setattr__"))) (mk:PySem.W.makesIn K C=true) (kc:PySem.W.keepIn K (.ref C)=true)
  (hb:∀(kV doc pm:Value)(an:Option Addr)(cdv ct:Value)(us:List Value),us.length=ps.length->bindArgs (PySem.W.fnOf "__init__" qual (cZ st) (b8 st) (ai st) .none kV doc pm an cdv ct) ⟨us,[]⟩=pure (ps.zip us)):Cls K C/\ClassAt K mg x st C ps:=by
 subst hq
 exact⟨⟨pg,hd,po,sa⟩,f,_,PySem.W.mg_of X G aC,⟨mk,a,i,kc⟩,mv l c k,(mv l c k).binds hb⟩
end My
namespace My
theorem pZ:∀{l:List Int},(∀x∈l,(0:Int)<=x)->∃t:List Nat,l=t.map fun c:Nat=>(c:Int)
 |[],_=>⟨[],rfl⟩
 |x :: r,h=>by
  obtain⟨t,rfl⟩:=pZ (l:=r) fun y hy=>h y (by simp[hy])
  obtain⟨n,rfl⟩:=Int.eq_ofNat_of_zero_le (h x (by simp))
  exact⟨n :: t,rfl⟩
end My
namespace My
open Mo MoDNeutral
end My
namespace My
open Mo MoD MoDNeutral
end My
namespace My
open Mo
theorem e9 {l l':List (Nat×Nat)}{F F':Nat}(h1:∀r,r∈l->r∈l')(h2:∀j,held F j=true->held F' j=true){j:Nat}(h:DerF l F j):DerF l' F' j:=by
 induction h with
 |base hj=>exact .base (h2 _ hj)
 |step hr _ ih=>exact .step (h1 _ hr) ih
theorem vx {l:List (Nat×Nat)}{F G:Nat}(h:∀j,held G j=true->DerF l F j){j:Nat}(d:DerF l G j):DerF l F j:=by
 induction d with
 |base hj=>exact h _ hj
 |step hr _ ih=>exact .step hr ih
def gq (c:Case):List (Nat×Nat):=c.laws.map fun r=>(bg (nums c r),c.lit c.atoms r.head)
def pF:Row:=⟨[],[],⟨[],false⟩⟩
def fj (c:Case)(n:Nat):Nat×Nat:=(bg (nums c (c.rules.getD n pF)),c.lit c.atoms (c.rules.getD n pF).head)
def c8 (c:Case)(n:Nat):Nat:=c.lit c.atoms ⟨(c.rules.getD n pF).name,false⟩
theorem mem_zip {c:Case}{S:Nat}{x:(Nat×Nat×Nat)×Nat}:x∈((c.numbered.rules.zipIdx.filter fun x=>held S x.2))↔∃n,n∈members c S/\x=((c8 c n,fj c n),n):=by
 rw[cj]
 simp only
 rw[List.mem_filter]
 constructor
 ·rintro⟨h1,h2⟩
  obtain⟨y,n⟩:=x
  have:=List.mem_zipIdx h1
  simp at this
  obtain⟨hn,e⟩:=this
  refine⟨n,mem_members.mpr ⟨hn,h2⟩,?_⟩
  rw[e]
  unfold c8 fj
  simp[hn,dl]
 ·rintro⟨n,hn,rfl⟩
  obtain⟨h1,h2⟩:=mem_members.mp hn
  refine⟨?_,h2⟩
  rw[List.mem_zipIdx_iff_getElem?]
  rw[List.getElem?_map,List.getElem?_eq_getElem h1]
  unfold c8 fj
  simp[h1,dl]
theorem follows_der {c:Case}{S j:Nat}:held (c.numbered.follows S) j=true↔DerF (gq c++(members c S).map (fj c)) (bg ((members c S).map (c8 c))) j:=by
 have hl:c.numbered.laws=gq c:=by
  rw[cj]
  unfold gq
  simp only
  exact List.map_congr_left fun r _=>by rw[dl]
 unfold Numbered.follows
 simp only
 rw[mN (by simp),hl]
 constructor
 ·intro h
  refine e9 (fun r hr=>?_) (fun i hi=>?_) h
  ·rcases List.mem_append.mp hr with z|z
   ·exact List.mem_append.mpr (.inl z)
   ·obtain⟨y,hy,e⟩:=List.mem_map.mp z
    obtain⟨x,hx,e2⟩:=List.mem_map.mp hy
    obtain⟨n,hn,rfl⟩:=mem_zip.mp hx
    subst e2
    subst e
    exact List.mem_append.mpr (.inr (List.mem_map.mpr ⟨n,hn,rfl⟩))
  ·rw[ck,bh,Bool.false_or,List.any_eq_true]at hi
   obtain⟨y,hy,e⟩:=hi
   obtain⟨x,hx,e2⟩:=List.mem_map.mp hy
   obtain⟨n,hn,rfl⟩:=mem_zip.mp hx
   subst e2
   have e:=of_decide_eq_true e
   exact (aY _ _).mpr (List.mem_map.mpr ⟨n,hn,e⟩)
 ·intro h
  refine e9 (fun r hr=>?_) (fun i hi=>?_) h
  ·rcases List.mem_append.mp hr with z|z
   ·exact List.mem_append.mpr (.inl z)
   ·obtain⟨n,hn,e⟩:=List.mem_map.mp z
    exact List.mem_append.mpr (.inr (List.mem_map.mpr ⟨(c8 c n,fj c n),List.mem_map.mpr ⟨_,mem_zip.mpr ⟨n,hn,rfl⟩,rfl⟩,e⟩))
  ·obtain⟨n,hn,e⟩:=List.mem_map.mp ((aY _ _).mp hi)
   rw[ck,bh,Bool.false_or,List.any_eq_true]
   exact⟨(c8 c n,fj c n),List.mem_map.mpr ⟨_,mem_zip.mpr ⟨n,hn,rfl⟩,rfl⟩,decide_eq_true e⟩
theorem uI {l:List (Nat×Nat)}{F R:Nat}(h1:a8 l R=R)(h2:within F R=true)(h3:∀j,held R j=true->DerF l F j)(j:Nat):held R j=true↔DerF l F j:=⟨h3 j,fun d=>mQ (kx l R h1) h2 d⟩
theorem qD {c:Case}{R:Nat}(h:∀j,held R j=true↔DerF (gq c) 0 j):R=c.numbered.follows 0:=by
 refine bF fun j=>Bool.eq_iff_iff.mpr ?_
 have hm:members c 0=[]:=by
  unfold members membersOf
  rw[List.filter_eq_nil_iff]
  intro x _
  rw[bh];decide
 rw[h j,follows_der,hm]
 simp only[List.map_nil,List.append_nil]
 rfl
theorem pQ {c:Case}{S m R:Nat}{r:List Nat}(hm:members c S=m :: r)(h:∀j,held R j=true↔DerF ((members c S).map (fj c)++gq c) (c.numbered.follows (without S m)|||2^c8 c m) j):R=c.numbered.follows S:=by
 have hmm:m∈members c S:=by rw[hm];simp
 have hsub:∀n,n∈members c (without S m)->n∈members c S:=fun n hn=>by
  obtain⟨h1,h2⟩:=mem_members.mp hn
  rw[c5]at h2
  simp at h2
  exact mem_members.mpr ⟨h1,h2.1⟩
 have hrest:∀n,n∈members c S->n=m∨n∈members c (without S m):=fun n hn=>by
  obtain⟨h1,h2⟩:=mem_members.mp hn
  by_cases e:n=m
  ·exact .inl e
  ·refine .inr (mem_members.mpr ⟨h1,?_⟩)
   rw[c5,h2]
   simp
   exact fun z=>e z.symm
 refine bF fun j=>Bool.eq_iff_iff.mpr ?_
 rw[h j,follows_der]
 constructor
 ·intro d
  have d':DerF (gq c++(members c S).map (fj c)) (c.numbered.follows (without S m)|||2^c8 c m) j:=e9 (fun x hx=>by
   rcases List.mem_append.mp hx with z|z
   ·exact List.mem_append.mpr (.inr z)
   ·exact List.mem_append.mpr (.inl z)) (fun _ h=>h) d
  refine vx (fun i hi=>?_) d'
  rw[gU,Bool.or_eq_true]at hi
  rcases hi with hi|hi
  ·refine e9 (fun x hx=>?_) (fun i hi=>?_) (follows_der.mp hi)
   ·rcases List.mem_append.mp hx with z|z
    ·exact List.mem_append.mpr (.inl z)
    ·obtain⟨n,hn,e⟩:=List.mem_map.mp z
     exact List.mem_append.mpr (.inr (List.mem_map.mpr ⟨n,hsub n hn,e⟩))
   ·obtain⟨n,hn,e⟩:=List.mem_map.mp ((aY _ _).mp hi)
    exact (aY _ _).mpr (List.mem_map.mpr ⟨n,hsub n hn,e⟩)
  ·rw[ju]at hi
   have:=of_decide_eq_true hi
   exact .base ((aY _ _).mpr (List.mem_map.mpr ⟨m,hmm,this⟩))
 ·intro d
  refine e9 (fun x hx=>?_) (fun i hi=>?_) d
  ·rcases List.mem_append.mp hx with z|z
   ·exact List.mem_append.mpr (.inr z)
   ·exact List.mem_append.mpr (.inl z)
  ·obtain⟨n,hn,e⟩:=List.mem_map.mp ((aY _ _).mp hi)
   rw[gU,Bool.or_eq_true]
   rcases hrest n hn with z|z
   ·subst z
    refine .inr ?_
    rw[ju]
    exact decide_eq_true e
   ·refine .inl (follows_der.mpr (.base ((aY _ _).mpr (List.mem_map.mpr ⟨n,z,e⟩))))
theorem wb (R a:Nat):((R / 2^(2*a))&&&3=3)↔(held R (2*a)&&held R (2*a+1))=true:=by
 have e3:(3:Nat)=2^2-1:=rfl
 rw[e3,Nat.and_two_pow_sub_one_eq_mod]
 rw[Bool.and_eq_true]
 unfold held
 rw[Nat.testBit_eq_decide_div_mod_eq,Nat.testBit_eq_decide_div_mod_eq,decide_eq_true_iff,decide_eq_true_iff]
 have e1:R / 2^(2*a+1)=R / 2^(2*a) / 2:=by rw[Nat.pow_succ,Nat.div_div_eq_div_mul]
 rw[e1]
 generalize R / 2^(2*a)=x
 show x%4=4-1↔_
 omega
theorem vS (c:Case)(S:Nat):((List.range c.atoms.length).any fun a=>decide ((c.numbered.follows S / 2^(2*a))&&&3=3))=c.numbered.clash S:=by
 show _=((List.range c.atoms.length).any fun a=>held (c.numbered.follows S) (2*a)&&held (c.numbered.follows S) (2*a+1))
 congr 1
 funext a
 rw[Bool.eq_iff_iff,decide_eq_true_iff,wb]
theorem vG (c:Case):c.under.length=c.rules.length:=by unfold Case.under;simp
def e6 (c:Case)(under:List Nat)(R k i v:Nat):Prop:=(v=0/\∀j,j<=k->held (aB c under R j) i=false)∨(1<=v/\held (aB c under R v) i=true/\∀j,j<v->held (aB c under R j) i=false)
theorem rW {c:Case}{under:List Nat}{R i:Nat}:e6 c under R 0 i 0:=.inl ⟨rfl,fun j hj=>by
 have:j=0:=by omega
 subst this
 exact bh i⟩
theorem rn {c:Case}{under:List Nat}{R k i v:Nat}(h:e6 c under R k i v)(hn:¬(v=0/\held (aB c under R (k+1)) i=true)):e6 c under R (k+1) i v:=by
 rcases h with ⟨h1,h2⟩|h
 ·refine .inl ⟨h1,fun j hj=>?_⟩
  by_cases e:j=k+1
  ·subst e
   cases hh:held (aB c under R (k+1)) i with
   |false=>rfl
   |true=>exact absurd ⟨h1,hh⟩ hn
  ·exact h2 j (by omega)
 ·exact .inr h
theorem ue {c:Case}{under:List Nat}{R k i v:Nat}(h:e6 c under R k i v)(h0:v=0)(hh:held (aB c under R (k+1)) i=true):e6 c under R (k+1) i (k+1):=by
 rcases h with ⟨h1,h2⟩|⟨h1,_⟩
 ·exact .inr ⟨by omega,hh,fun j hj=>h2 j (by omega)⟩
 ·omega
theorem uR {c:Case}{under:List Nat}{R k i v:Nat}(h:e6 c under R (k+1) i v)(hs:aB c under R (k+1)=aB c under R k):rankIs c under R i v:=by
 rcases h with ⟨h1,h2⟩|h
 ·refine .inl ⟨h1,fun j=>?_⟩
  by_cases e:j<=k
  ·exact h2 j (by omega)
  ·rw[ke hs j (by omega)]
   exact h2 k (by omega)
 ·exact .inr h
theorem l5 {c:Case}{under:List Nat}{R:Nat}{rs:List Nat}(hl:rs.length=c.rules.length)(h:∀i k,rs[i]?=some k->rankIs c under R i k):bg ((List.range rs.length).filter fun i=>decide (0<rs.getD i 0))=cE c under R:=by
 refine bF fun i=>Bool.eq_iff_iff.mpr ?_
 rw[aY,vP,List.mem_filter,List.mem_range,decide_eq_true_eq]
 constructor
 ·rintro⟨h1,h2⟩
  have e:rs[i]?=some rs[i]:=by simp[h1]
  have e2:rs.getD i 0=rs[i]:=by simp[h1]
  rw[e2]at h2
  rcases h i _ e with ⟨z,_⟩|⟨_,z,_⟩
  ·omega
  ·exact⟨_,z⟩
 ·rintro⟨k,hk⟩
  have hi:i<c.rules.length:=gX (sI c under R k) hk
  have h1:i<rs.length:=by omega
  refine⟨h1,?_⟩
  have e:rs[i]?=some rs[i]:=by simp[h1]
  have e2:rs.getD i 0=rs[i]:=by simp[h1]
  rw[e2]
  rcases h i _ e with ⟨_,z⟩|⟨z,_⟩
  ·rw[z k]at hk;cases hk
  ·omega
theorem mJ {P:List PS}:∀(l:List Nat),(∀x∈l,∃n,aE P n x=true)->∃n,∀x∈l,aE P n x=true
 |[],_=>⟨0,fun x hx=>by cases hx⟩
 |a :: l,h=>by
  obtain⟨n,hn⟩:=mJ l fun x hx=>h x (by simp[hx])
  obtain⟨m,hm⟩:=h a (by simp)
  refine⟨n+m,fun x hx=>?_⟩
  rcases List.mem_cons.mp hx with e|e
  ·subst e;exact gf hm (by omega)
  ·exact gf (hn x e) (by omega)
theorem jr {P:List PS}{p:PS}(hp:p∈P)(h:∀x∈p.body,∃n,aE P n x=true):∃n,aE P n p.lit=true:=by
 obtain⟨n,hn⟩:=mJ p.body h
 refine⟨n+1,?_⟩
 rw[cA,Bool.or_eq_true]
 refine .inr (List.any_eq_true.mpr ⟨p,hp,?_⟩)
 rw[Bool.and_eq_true]
 exact⟨decide_eq_true rfl,List.all_eq_true.mpr hn⟩
theorem ph {c:Case}{S l:Nat}(h:held (c.numbered.follows S) l=true):∃n,IsRN (aq c S) l n:=by
 have d:=follows_der.mp h
 clear h
 have:∃n,aE (aq c S) n l=true:=by
  induction d with
  |base hj=>
   obtain⟨m,hm,e⟩:=List.mem_map.mp ((aY _ _).mp hj)
   subst e
   exact jr (p:=jk c m) (by unfold aq;exact List.mem_append_left _ (List.mem_map.mpr ⟨m,hm,rfl⟩)) (fun x hx=>by cases hx)
  |step hr _ ih=>
   rcases List.mem_append.mp hr with z|z
   ·unfold gq at z
    obtain⟨row,hrow,e⟩:=List.mem_map.mp z
    obtain⟨i,hi,e2⟩:=List.getElem_of_mem hrow
    have e3:c.laws.getD i ⟨[],[],⟨[],false⟩⟩=row:=by simp[hi,e2]
    subst e
    have:=jr (P:=aq c S) (p:=jy c i) (by
     unfold aq
     exact List.mem_append_right _ (List.mem_append_left _ (List.mem_map.mpr ⟨i,List.mem_range.mpr hi,rfl⟩))) (fun x hx=>ih x ((aY _ _).mpr (by
     have hx:x∈nums c (c.laws.getD i ⟨[],[],⟨[],false⟩⟩):=hx
     rw[e3]at hx
     exact hx)))
    have e4:(jy c i).lit=c.lit c.atoms row.head:=by
     show c.lit c.atoms (c.laws.getD i ⟨[],[],⟨[],false⟩⟩).head=_
     rw[e3]
    rw[e4]at this
    exact this
   ·obtain⟨m,hm,e⟩:=List.mem_map.mp z
    subst e
    exact jr (P:=aq c S) (p:=jw c m) (by
     unfold aq
     exact List.mem_append_right _ (List.mem_append_right _ (List.mem_map.mpr ⟨m,hm,rfl⟩))) (fun x hx=>ih x ((aY _ _).mpr hx))
 obtain⟨n,hn⟩:=this
 obtain⟨m,_,hm⟩:=IsRN.of hn
 exact⟨m,hm⟩
end My
namespace My
open PySem PySem.Spec PyProof.Rows L2
theorem k4 (K:PySem.W.Frag){X:Cx}{pos:Pos}{es:List Expr}{k:Nat}{t:TGs}{n:Nat}(hc:X.calm=true)(h:PGs X es t)
  (hn:(assignEach es X.env).length=n:=by rfl)(hst:(assignEach es X.env).findIdx? (·.1)=none:=by rfl)(hK:X.K=K:=by rfl):PG X (.Tuple es k pos) (tO K n t):=by
 subst hK
 exact iY hc h hn hst
def g2 (K:PySem.W.Frag)(a b:Nat):TG:=tO K 2 (ml (fi a) (ml (fi b) wg))
theorem qF {K : PySem.W.Frag} {l : Addr} {xs : List V} {a b : Nat} {te : TE} {vs : List Nat} {σ : L2.St} {H1 : Hp} {D : Addr} {Qd : Hp → Prop} (hz : xs.length ≤ sizeLine)
    (hD : H1 D = none) (hP : ∀ H, Same H1 H → SqL K H l xs) (G : Nat → Hp → V → Prop) (hG : ∀ i H H' v, Same H H' → G i H v → G i H' v) (hU : ∀ i H v xs ys, H D = some (.lst xs) → G i H v → G i (upd H D (.lst ys)) v)
    (hw : ∀ i x, a9 (((a9 σ vs).set a (some (.int (i : Nat)))).set b (some x)) vs = a9 σ vs)
    (hs : ∀ i x H, xs[i]? = some x → Same H1 H → (∃ acc, H D = some (.lst acc)) → ∀ R : V → Hp → Prop, (∀ v H', Same H H' → G i H' v → R v H') → te (((a9 σ vs).set a (some (.int (i : Nat)))).set b (some x)) H R)
    (hd : ∀ H (ys : List V), ys.length = xs.length → H D = some (.lst ys) → Same H1 H → (∀ i v, ys[i]? = some v → G i H v) → Qd H) :
    ∃ W : Nat → Nat → Hp → Prop, (∃ m, W 0 m (upd H1 D (.lst []))) ∧ ∀ i m H, W i m H →
      ((Ite K l).stop i H ∧ Qd H) ∨ ((Ite K l).go i H ∧ ∃ Nx : Hp → Prop, (∀ H', Nx H' → ∃ m', m' < m ∧ W (i + 1) m' H') ∧ ∀ x H', (Ite K l).yld i H x H' → g2 K a b x (a9 σ vs) H' fun σ2 H2 => a9 σ2 vs = a9 σ vs ∧ tR σ2 H2 fun b H3 =>
        if b = true then te σ2 H3 fun y H4 => ∃ acc, H4 D = some (.lst acc) ∧ acc.length < sizeLine ∧ Nx (upd H4 D (.lst (acc ++ [y]))) else Nx H3) := by
  refine ⟨fun i m H => m = xs.length - i ∧ i ≤ xs.length ∧ Same H1 H ∧ ∃ ys : List V, ys.length = i ∧ H D = some (.lst ys) ∧ ∀ j v, ys[j]? = some v → G j H v, ⟨xs.length, by simp, Nat.zero_le _, ak hD, [], rfl, af, fun j p h => by simp at h⟩, ?_⟩
  rintro i m H ⟨rfl, hi, sm, ys, hpl, hDi, hGs⟩
  by_cases hlt : i < xs.length
  · right
    have ex : xs[i]? = some xs[i] := by simp [hlt]
    refine ⟨⟨xs, xs[i], hP H sm, ex⟩, fun H' => Same H1 H' ∧ ∃ ys : List V, ys.length = i + 1 ∧ H' D = some (.lst ys) ∧ ∀ j v, ys[j]? = some v → G j H' v, fun H' h => ⟨xs.length - (i + 1), by omega, rfl, hlt, h.1, h.2⟩, fun x H' y => ?_⟩
    obtain ⟨T, x', rfl, hT, rfl, hx⟩ := y
    have hx := hx xs (hP H sm)
    have sT := ak (o := .tup [.int (i : Nat), x']) hT
    refine ⟨T, _, rfl, SqT.of af, rfl, _, _, rfl, _, _, rfl, rfl, hw i x', ?_⟩
    have key := hs i x' _ hx (sm.trans sT) ⟨ys, sT _ _ hDi⟩ (fun y H4 => ∃ acc, H4 D = some (.lst acc) ∧ acc.length < sizeLine ∧ Same H1 (upd H4 D (.lst (acc ++ [y]))) ∧ ∃ ys : List V, ys.length = i + 1 ∧ (upd H4 D (.lst (acc ++ [y]))) D = some (.lst ys) ∧ ∀ j v, ys[j]? = some v → G j (upd H4 D (.lst (acc ++ [y]))) v) fun v H4 s4 hg => ?_
    · exact key
    have s04 := sT.trans s4
    refine ⟨ys, s04 _ _ hDi, by omega, aN (sm.trans s04) hD, ys ++ [v], by simp [hpl], af, fun j u hj => ?_⟩
    refine hU j H4 u _ _ (s04 _ _ hDi) ?_
    by_cases hji : j < i
    · rw [List.getElem?_append_left (by omega)] at hj
      exact hG j H H4 u s04 (hGs j u hj)
    · rw [List.getElem?_append_right (by omega)] at hj
      have : j - ys.length = 0 := by
        apply Decidable.byContradiction
        intro hne
        rw [List.getElem?_eq_none (by simp; omega)] at hj
        cases hj
      have e : j = i := by omega
      subst e
      rw [this] at hj
      cases hj
      exact hg
  · left
    have e : i = xs.length := by omega
    subst e
    exact ⟨⟨xs, hP H sm, Nat.le_refl _⟩, hd H ys hpl hDi sm hGs⟩
theorem fJ {K : PySem.W.Frag} {l : Addr} {xs : List V} {a b : Nat} {tt : TT} {te : TE} {vs : List Nat} {σ : L2.St} {H1 : Hp} {D : Addr} {Qd : Hp → Prop} (ys : List (Option V)) (hn : ys.length = xs.length) (hz : xs.length ≤ sizeLine)
    (hD : H1 D = none) (hP : ∀ H, Same H1 H → SqL K H l xs)
    (hw : ∀ i x, a9 (((a9 σ vs).set a (some (.int (i : Nat)))).set b (some x)) vs = a9 σ vs)
    (hs : ∀ i x y H, xs[i]? = some x → ys[i]? = some y → Same H1 H → ∀ (R : V → Hp → Prop) (R' : Hp → Prop), (∀ v H', y = some v → Same H H' → R v H') → (∀ H', y = none → Same H H' → R' H') →
      tt (((a9 σ vs).set a (some (.int (i : Nat)))).set b (some x)) H fun bb H3 => if bb = true then te (((a9 σ vs).set a (some (.int (i : Nat)))).set b (some x)) H3 R else R' H3)
    (hd : ∀ H, Same H1 H → H D = some (.lst (ys.filterMap id)) → Qd H) :
    ∃ W : Nat → Nat → Hp → Prop, (∃ m, W 0 m (upd H1 D (.lst []))) ∧ ∀ i m H, W i m H →
      ((Ite K l).stop i H ∧ Qd H) ∨ ((Ite K l).go i H ∧ ∃ Nx : Hp → Prop, (∀ H', Nx H' → ∃ m', m' < m ∧ W (i + 1) m' H') ∧ ∀ x H', (Ite K l).yld i H x H' → g2 K a b x (a9 σ vs) H' fun σ2 H2 => a9 σ2 vs = a9 σ vs ∧ tt σ2 H2 fun b H3 =>
        if b = true then te σ2 H3 fun y H4 => ∃ acc, H4 D = some (.lst acc) ∧ acc.length < sizeLine ∧ Nx (upd H4 D (.lst (acc ++ [y]))) else Nx H3) := by
  refine ⟨fun i m H => m = xs.length - i ∧ i ≤ xs.length ∧ Same H1 H ∧ H D = some (.lst ((ys.take i).filterMap id)), ⟨xs.length, by simp, Nat.zero_le _, ak hD, by rw [af]; rfl⟩, ?_⟩
  rintro i m H ⟨rfl, hi, sm, hDi⟩
  by_cases hlt : i < xs.length
  · right
    have ex : xs[i]? = some xs[i] := by simp [hlt]
    refine ⟨⟨xs, xs[i], hP H sm, ex⟩, fun H' => Same H1 H' ∧ H' D = some (.lst ((ys.take (i + 1)).filterMap id)), fun H' h => ⟨xs.length - (i + 1), by omega, rfl, hlt, h.1, h.2⟩, fun x H' y => ?_⟩
    obtain ⟨T, x', rfl, hT, rfl, hx⟩ := y
    have hx := hx xs (hP H sm)
    have sT := ak (o := .tup [.int (i : Nat), x']) hT
    have hyl : i < ys.length := by omega
    have hy : ys[i]? = some ys[i] := by simp [hyl]
    have tk : ys.take (i + 1) = ys.take i ++ [ys[i]] := by rw [List.take_succ, hy]; rfl
    have lenle : ((ys.take i).filterMap id).length ≤ i := by
      have h1 := List.length_filterMap_le id (ys.take i)
      rw [List.length_take] at h1
      omega
    refine ⟨T, _, rfl, SqT.of af, rfl, _, _, rfl, _, _, rfl, rfl, hw i x', ?_⟩
    refine hs i x' ys[i] _ hx hy (sm.trans sT) _ _ (fun v H4 ev s4 => ?_) (fun H4 ev s4 => ?_)
    · have s04 := sT.trans s4
      refine ⟨(ys.take i).filterMap id, s04 _ _ hDi, by omega, aN (sm.trans s04) hD, ?_⟩
      rw [af, tk, List.filterMap_append, ev]
      rfl
    · have s04 := sT.trans s4
      refine ⟨sm.trans s04, ?_⟩
      rw [tk, List.filterMap_append, ev]
      simp
      exact s04 _ _ hDi
  · left
    have e : i = xs.length := by omega
    subst e
    refine ⟨⟨xs, hP H sm, Nat.le_refl _⟩, hd H sm ?_⟩
    rw [List.take_of_length_le (by omega)] at hDi
    exact hDi
theorem je (n:Nat)(p:Nat->Bool):((List.range n).map fun i=>if p i=true then some (V.int (i:Nat)) else none).filterMap id=((List.range n).filter p).map fun x=>V.int (x:Nat):=by
 rw[List.filterMap_map]
 generalize List.range n=l
 induction l with
 |nil=>rfl
 |cons x r ih=>
  by_cases h:p x=true
  ·rw[List.filterMap_cons_some (b:=V.int (x:Nat)) (by show (if p x=true then _ else none)=_;rw[if_pos h]),List.filter_cons_of_pos h,List.map_cons,ih]
  ·rw[List.filterMap_cons_none (by show (if p x=true then _ else none)=_;rw[if_neg h]),List.filter_cons_of_neg h,ih]
theorem lp (n:Nat)(p:Nat->Bool):bg ((List.range n).filter p)=Mo.maskOf n p:=by
 refine bF fun j=>Bool.eq_iff_iff.mpr ?_
 rw[aY,List.mem_filter,List.mem_range,cP,Bool.and_eq_true,decide_eq_true_iff]
abbrev pw (X:Cx)(N:List Str)(A:Around)(s:Shared)(H:Hp)(env:Env):Cx:=
 { X with A:=A.deeper env,N:=N,s_0:=s,H_0:=H,env:=env,outer:=X.stack,stack:=env :: X.stack,ex:=[],fn:=fun _=>false,calm:=true,pn:=[],xe:=fun _ _=>False }
structure LamOk (N:List Str)(sc scope:Scope)(x:Str)(own:List (Str×Nat)):Prop where
 kind:scope.kind=.function
 co:scope.isCoroutine=false
 gen:scope.isGenerator=false
 nocell:∀y∈scope.names,y.2≠.cell
 par:scope.names.lookup x=some .local
 free:∀y∈scope.names,y.2=.free->sc.names.lookup y.1=some .cell
 cap:∀p∈own,N[p.2]?=some p.1/\scope.names.lookup p.1=some .free
def kZ (σ:L2.St)(v:V)(own:List (Str×Nat)):L2.St:=some v :: own.map fun p=>σ.getD p.2 none
section
variable {X:Cx}{pins:List (Addr×Obj)}{σ:L2.St}{H:Hp}{s:Shared}
theorem u5 {N:List Str}{scope:Scope}{x:Str}{own:List (Str×Nat)}(I:Inv X pins σ H s)(ok:LamOk N X.env.scope scope x own):∀y∈scope.names,y.2=.free->∃c,X.env.cells.lookup y.1=some c:=fun y hy e=>I.ok.has _ (.inl (ok.free y hy e))
theorem u7 {scope:Scope}{x:Str}{own:List (Str×Nat)}{A:Around}{qual:Str}{f:Addr}{cd:Value}{h1:Heap}{t:Nat}{v:V}{u:Value}{fo:Obj}
  (I:Inv X pins σ H s)(ok:LamOk X.N X.env.scope scope x own)(hA:A.frames=X.A.frames)(hd:A.handled=none)(rv:RelV v u)
  (hns:h1.Ns s.heap.objs.size (fun y=>[(x,u)].reverse.lookup y))(hsb:Heap.SameBut s.heap.objs.size (s.heap.push fo) h1):
  Inv (pw X (x :: own.map (·.1)) A s H (PySem.W.envX qual scope s.heap.objs.size f cd (aT X.env.cells scope.names []))) [] (kZ σ v own) H { s with heap:=h1,toks:=t }:=by
 have hfree:=u5 I ok
 have kp:∀b o,s.heap.get? b=some o->h1.get? b=some o:=fun b o e=>(hsb.2 b (Nat.ne_of_lt (Heap.lt_size e))).trans (Heap.get?_push_of_some _ e)
 have cm:∀{y c},(aT X.env.cells scope.names []).lookup y=some c->X.env.cells.lookup y=some c/\c<s.heap.objs.size:=fun {y c} e=>by
  rcases d4 (PySem.mem_of_lookup e) with hm|⟨h1,rfl⟩
  ·cases hm
  ·obtain⟨c,hc⟩:=hfree _ h1 rfl
   have hc:X.env.cells.lookup y=some c:=hc
   rw[hc]
   obtain⟨w,z⟩:=I.cell _ _ hc
   exact⟨rfl,z.lt⟩
 have look:∀{y},scope.names.lookup y=some .free->∃c,(aT X.env.cells scope.names []).lookup y=some c/\X.env.cells.lookup y=some c:=fun {y} hl=>by
  have hy:(y,NameKind.free)∈scope.names:=PySem.mem_of_lookup hl
  obtain⟨c',e'⟩:=gG (f6 (cells:=X.env.cells) (acc:=[]) hy)
  exact⟨c',e',(cm e').1⟩
 have noA:∀b:Addr,b ∉ (pw X (x :: own.map (·.1)) A s H (PySem.W.envX qual scope s.heap.objs.size f cd (aT X.env.cells scope.names []))).ex:=fun b z=>absurd (show b∈([]:List Addr) from z) (by simp)
 refine⟨⟨I.ok.mod,ok.kind,rfl,rfl,Nat.le_refl _,fun y z c e1 e2=>I.ok.inj y z c (cm e1).1 (cm e2).1,fun y hy=>?_,fun y c z _=>?_,fun _=>hd,Around.frames_deeper (hA.trans I.ok.frames),.inr ⟨rfl,rfl⟩,fun b z=>absurd z (noA b),I.bs,Nat.le_trans I.ok.bsz I.sz,fun b _ _=>noA b,fun b z=>absurd z (noA b),I.stack,I.stkFree⟩,
  rfl,I.bare,Un.kept kp,⟨_,hns,fun i y av e1 e2 e3=>?_⟩,fun y c e=>?_,I.hok.fresh (Nat.le_refl _),fun y c e=>I.freeC y c (cm e).1,fun p hp=>absurd (show p∈([]:List (Addr×Obj))++[] from hp) (by simp),I.hok.kept kp,by simp[kZ]⟩
 ·have hy:scope.names.lookup y=some .cell∨scope.names.lookup y=some .free:=hy
  rcases hy with hy|hy
  ·exact absurd rfl (ok.nocell _ (PySem.mem_of_lookup hy))
  ·obtain⟨c,h,_⟩:=look hy
   exact⟨c,h⟩
 ·cases z
 ·cases i with
  |zero=>
   have e1:x=y:=by simpa using e1
   have e2:v=av:=by simpa[kZ] using e2
   subst e1
   subst e2
   exact⟨u,rv,.inl ⟨ok.par,by simp⟩⟩
  |succ i=>
   have e1:(own.map (·.1))[i]?=some y:=by simpa using e1
   have e2:(own.map fun p=>σ.getD p.2 none)[i]?=some (some av):=by simpa[kZ] using e2
   rw[List.getElem?_map]at e1 e2
   obtain⟨p,ep,rfl⟩:=Option.map_eq_some_iff.mp e1
   rw[ep]at e2
   have e2:σ.getD p.2 none=some av:=by simpa using e2
   have e4:σ[p.2]?=some (some av):=by
    rw[List.getD_eq_getElem?_getD]at e2
    cases q:σ[p.2]? with
    |none=>rw[q]at e2;cases e2
    |some z=>rw[q]at e2;exact congrArg some e2
   obtain⟨hN,hfr⟩:=ok.cap p (List.mem_of_getElem? ep)
   obtain⟨m,hn,hl⟩:=I.loc
   have hcell:X.env.scope.names.lookup p.1=some .cell:=ok.free _ (PySem.mem_of_lookup hfr) rfl
   obtain⟨w,r,q⟩:=hl p.2 p.1 av hN e4 (.inr (.inl hcell))
   refine⟨w,r,.inr ⟨.inr hfr,?_⟩⟩
   obtain⟨c,h1,h2⟩:=look hfr
   rcases q with ⟨k,_⟩|⟨_,c',e',z⟩
   ·have k:X.env.scope.names.lookup p.1=some .local:=k
    rw[hcell]at k;cases k
   ·rw[h2]at e';cases e'
    exact⟨c,h1,z.keeps kp⟩
 ·obtain⟨w,z⟩:=I.cell y c (cm e).1
  exact⟨w,z.keeps kp⟩
theorem wS {scope:Scope}{x name qual:Str}{params:Arguments}{body:Expr}{own:List (Str×Nat)}{A:Around}{f c':Addr}{pm ctv:Value}{te:TE}{v:V}{u:Value}{Q:VK}{E:Value->Shared->Prop}
  (I:Inv X pins σ H s)(ok:LamOk X.N X.env.scope scope x own)(hA:A.frames=X.A.frames)(hd:A.handled=none)(hroom:A.depth<recursionLimit)(rv:RelV v u)
  (ho:s.heap.get? f=some (PySem.W.kla_obj name qual params body scope (aT X.env.cells scope.names []) pm c' ctv))(hcd:s.heap.CodeRec (.ref c') qual)
  (hbind:bindArgs (PySem.W.kla_fn name qual params body scope (aT X.env.cells scope.names []) pm (.ref c') ctv) ⟨[u],[]⟩=pure [(x,u)])
  (hb:∀(s:Shared)(H:Hp)(L:Addr)(cl:List (Str×Addr)),PE (pw X (x :: own.map (·.1)) A s H (PySem.W.envX qual scope L f (.ref c') cl)) body te)
  (h:te (kZ σ v own) H Q):wpAny (model X.prog X.w) A (call (.ref f) [u]) (EP X pins σ Q) E s:=by
 refine wpAny_call (PySem.W.kla_callFunE hroom ho rfl ok.co ok.gen rfl hcd ?_)
 rw[hbind]
 refine wpAny_pure (wpAny_newFunctionEnv (fun y hy=>ok.nocell y hy) (fun y hy=>?_) (fun h₁ hns hsb=>⟨I.nolimit.keeps fun b o e=>(hsb.2 b (Nat.ne_of_lt (Heap.lt_size e))).trans (Heap.get?_push_of_some _ e),?_⟩) ok.kind)
 ·have:y=(x,u):=by simpa using hy
  rw[this]
  exact ok.par
 ·show codeAny _ _ (.expr body (PySem.W.envX qual scope s.heap.objs.size f (.ref c') (aT X.env.cells scope.names []))) _ _
  refine PySem.W.kla_codeExpr (wpAny_mono (hb s H s.heap.objs.size _ [] _ _ H Q (u7 (t:=s.toks+1) I ok hA hd rv hns hsb) h) (fun r s' hq=>?_) fun _ _ z=>False.elim z)
  obtain⟨y,H',J,ry,q⟩:=hq
  exact⟨y,H',I.call' (ch:=[]) J.os J.base J.hok J.bare (fun b hb=>nomatch hb),ry,q⟩
def ir (mg:Str->Option Value)(h:Heap):Prop:=∃bm ob,mg "__builtins__"=some (.ref bm)/\bm≠builtinsNs/\h.get? bm=some ob/\ob.cls=.type "module"/\ob.dict=some builtinsNs/\ob.data=.plain
theorem yw {P:Addr}{ps more:Array Value}{h':Heap}{t':Nat}(I:Inv X pins σ H s)(hP:H P=some (.tbl ps))(k:Heap.ExtBut P s.heap h')(hn:h'.get? P=some { cls:=.none,data:=.fields (ps++more) }):
  Inv X pins σ (upd H P (.tbl (ps++more))) { s with heap:=h',toks:=t' }:=by
 have ne:∀b,H b=none->b≠P:=fun b e z=>by rw[z,hP]at e;cases e
 refine I.un ⟨fun b o e n _ _=>k b o (ne b n) e,fun b o e n _ _=>⟨o.slots,k b o (ne b n) e⟩,fun b o e n _=>?_,fun b o e _=>?_,fun b xs e=>?_,fun b o u e=>?_,fun b qs e=>?_⟩ fun b u e=>?_
 ·rw[ae (ne b n)];exact n
 ·by_cases z:b=P
  ·subst z;exact⟨_,hn⟩
  ·exact⟨o,k b o z e⟩
 ·rw[ae (fun z=>by rw[z,hP]at e;cases e)];exact e
 ·rw[ae (fun z=>by rw[z,hP]at e;cases e)];exact e
 ·by_cases z:b=P
  ·subst z
   rw[hP]at e
   cases e
   exact⟨more,af⟩
  ·rw[ae z,e]
   exact⟨#[],by simp⟩
 ·by_cases z:b=P
  ·subst z
   rw[af]at e
   cases e
   exact hn
  ·rw[ae z]at e
   refine (I.hok b u e).stay (fun c v hc q=>k c v ?_ q) (fun c q=>?_) fun c xs q=>?_
   ·rcases hc with y|y
    ·rw[y];exact z
    ·exact fun w=>by rw[w,hP]at y;cases y
   ·rw[ae (fun w=>by rw[w,hP]at q;cases q)];exact q
   ·rw[ae (fun w=>by rw[w,hP]at q;cases q)];exact q
theorem w9 {scope:Scope}{x:Str}{params:Arguments}{body:Expr}{own:List (Str×Nat)}{pos:Pos}{c P:Addr}{ps:Array Value}{Q:Value->Shared->Prop}
  (I:Inv X pins σ H s)(ok:LamOk X.N X.env.scope scope x own)(hcode:X.env.code=.ref c)(C:PySem.W.CodeHd X.base c P)(hP:H P=some (.tbl ps))(ht:TriplesOk ps.toList)(hnf:codeAmong pos ps.toList=none)(B:ir X.mg X.base)
  (hdef:defaultsOf params X.env=([],[]))
  (h:∀(f c':Addr)(oc:Obj)(ctv:Value)(vs:Array Value)(t:Tok)(more:Array Value)(s':Shared),Inv X (pins++[(f,PySem.W.kla_obj "<lambda>" (X.env.qual++"<lambda>") params body scope (aT X.env.cells scope.names []) ((X.mg "__name__").getD .none) c' ctv),(c',oc)]) σ (upd H P (.tbl (ps++more))) s'->oc.data=.fields vs->vs[1]?=some (.str (X.env.qual++"<lambda>") t)->Q (.ref f) s') :
  wpAny (model X.prog X.w) X.A (eval (.Lambda params body scope pos) X.env) Q X.xe s:=by
 have hgs:s.heap.Ns mainGlobals X.mg:=I.ok.mod.glob.keeps I.bk
 obtain⟨bm,ob,b1,b2,b3,b4,b5,b6⟩:=B
 have hp:s.heap.get? P=some (PySem.W.tabObj ps):=I.hok P _ hP
 have hgP:mainGlobals≠P:=fun q=>by
  obtain⟨o,es,ep,e,hd,_⟩:=hgs
  rw[q,hp]at e;cases e;cases hd
 have hbP:bm≠P:=fun q=>by
  have e:=I.bk _ _ b3
  rw[q,hp]at e;cases e;cases b4
 have hbG:bm≠mainGlobals:=fun q=>by
  obtain⟨o,es,ep,e,hd,_⟩:=hgs
  have b3:=I.bk _ _ b3
  rw[q,e]at b3;cases b3;rw[hd]at b6;cases b6
 refine PySem.W.kla_eval hdef (PySem.W.kla_makeFunction (mg:=X.mg) (mP (u5 I ok)) I.ok.glob hgs hcode (C.keeps I.bk) hp ht hnf hgP ⟨bm,ob,b1,b2,hbG,hbP,I.bk _ _ b3,b4,b5,b6⟩ fun c' ctv h' tk hx hge hlt hrec htb=>?_)
 obtain⟨c₂,oc,vs,t,e2,hoc,hd,hv⟩:=hrec
 cases e2
 have I1:Inv X pins σ (upd H P (.tbl (ps++_))) { s with heap:=h',toks:=tk }:=yw I hP hx htb
 have hPs:P<s.heap.objs.size:=Heap.lt_size hp
 have I2:=I1.kept (t':=tk) (h':=h'.push (PySem.W.kla_obj "<lambda>" (X.env.qual++"<lambda>") params body scope (aT X.env.cells scope.names []) ((X.mg "__name__").getD .none) c' ctv)) fun b u e=>Heap.get?_push_of_some _ e
 have fr:∀b,s.heap.objs.size<=b->cI X pins (upd H P (.tbl (ps++#[rawInt pos.line,rawInt pos.col,.ref c']))) b:=fun b hb=>I.fpOk hb (by
  rw[ae (fun z=>by rw[z]at hb;exact absurd hPs (Nat.not_lt.mpr hb))]
  exact I.hok.fresh hb)
 refine h h'.objs.size c' oc ctv vs t _ _ (I2.pins_of fun p hp=>?_) hd hv
 rcases List.mem_append.mp hp with z|z
 ·exact I2.pin p (List.mem_append_right _ z)
 ·have z:p=(h'.objs.size,PySem.W.kla_obj "<lambda>" (X.env.qual++"<lambda>") params body scope (aT X.env.cells scope.names []) ((X.mg "__name__").getD .none) c' ctv)∨p=(c',oc):=by simpa using z
  rcases z with rfl|rfl
  ·have f:=fr h'.objs.size (Nat.le_trans hge (Nat.le_of_lt hlt))
   exact⟨Heap.get?_push_size _ rfl,f.1,f.2.1,f.2.2.1,fun v z=>by cases z⟩
  ·have f:=fr c' hge
   refine⟨Heap.get?_push_of_some _ hoc,f.1,f.2.1,f.2.2.1,fun v z=>?_⟩
   have z:oc.data=.cell v:=z
   rw[hd]at z;cases z
end
theorem pJ {α β:Type}{g:α->β}{l l':List β}(h:l'.Perm l):∀{m:List α},l'=m.map g->∃m':List α,m'.Perm m/\l=m'.map g:=by
 induction h with
 |nil=>intro m e;exact⟨m,.refl _,e⟩
 |cons x h ih=>
  intro m e
  cases m with
  |nil=>cases e
  |cons a m=>
   rw[List.map_cons]at e
   injection e with e1 e2
   obtain⟨m',h1,h2⟩:=ih e2
   exact⟨a :: m',h1.cons a,by rw[List.map_cons,<-h2,e1]⟩
 |swap x y l=>
  intro m e
  cases m with
  |nil=>cases e
  |cons a m=>
   cases m with
   |nil=>cases e
   |cons b m=>
    rw[List.map_cons,List.map_cons]at e
    injection e with e1 e2
    injection e2 with e2 e3
    exact⟨b :: a :: m,.swap a b m,by rw[List.map_cons,List.map_cons,e1,e2,e3]⟩
 |trans h1 h2 ih1 ih2=>
  intro m e
  obtain⟨m',a1,a2⟩:=ih1 e
  obtain⟨m'',b1,b2⟩:=ih2 a2
  exact⟨m'',b1.trans a1,b2⟩
def mW (a b:Int×Int):Bool:=decide (a.1<b.1)||(decide (a.1=b.1)&&decide (a.2<b.2))
def eP (kz:List (Int×Int))(xs ys:List V):Prop:=∃idx:List Nat,idx.Perm (List.range xs.length)/\idx.Pairwise (fun i j=>mW (kz.getD j (0,0)) (kz.getD i (0,0))=false)/\ys=idx.map fun i=>xs.getD i .non
abbrev eB:Nat->Bool:=fun _=>false
theorem wn (a b:Int×Int):lexLt itemOrd [Sum.inl a.1,Sum.inl a.2] [Sum.inl b.1,Sum.inl b.2]=mW a b:=by
 unfold mW
 rw[lex_cons,lex_cons]
 show (decide (a.1<b.1)||(!decide (b.1<a.1)&&(decide (a.2<b.2)||(!decide (b.2<a.2)&&false))))=_
 by_cases h1:a.1<b.1
 ·simp[h1]
 ·by_cases h2:b.1<a.1
  ·have:¬a.1=b.1:=by omega
   simp[h1,h2,this]
  ·have:a.1=b.1:=by omega
   simp[this]
section
variable {X:Cx}{pins:List (Addr×Obj)}{σ:L2.St}{H:Hp}{s:Shared}
theorem xZ {a:Addr}{o:HO}{h':Heap}{t':Nat}(I:Inv X pins σ H s)(f:cI X pins H a)(k:∀b u,b≠a->s.heap.get? b=some u->h'.get? b=some u)(new:ObjOk X.prog X.w (upd H a o) h' a o):
  Inv X pins σ (upd H a o) { s with heap:=h',toks:=t' }:=by
 obtain⟨f0,f1,f2,f3,f4,f5⟩:=f
 have ne:∀{b:Addr},b ∉ [a]->b≠a:=fun {b} h z=>h (by simp[z])
 have nt:∀{b:Addr} {u:HO},H b=some u->b≠a:=fun {b u} e z=>by rw[z,f0]at e;cases e
 refine I.step (g':=s.gens) (d':=s.drawn) (ch:=[a]) (fun b hb=>?_) (fun b o _ _ hc e _=>k b o (ne hc) e) (fun b o _ _ hc e _=>⟨o.slots,k b o (ne hc) e⟩) (fun b o hc e n=>by rw[ae (ne hc)];exact n)
  (fun b o hc e=>⟨o,k b o (ne hc) e⟩) (fun b xs e=>by rw[ae (nt e)];exact e) (fun b o u e=>by rw[ae (nt e)];exact e) (fun b ps e=>⟨#[],by rw[ae (nt e),e];simp⟩) (fun m hm=>?_) (fun b u e=>?_) I.bare
 ·have e:b=a:=by simpa using hb
  subst e
  exact⟨f3,f1,f4,f5⟩
 ·obtain⟨o,es,ep,ho,r⟩:=hm
  exact⟨o,es,ep,k _ o (Ne.symm f1) ho,r⟩
 ·by_cases z:b=a
  ·subst z;rw[af]at e;cases e;exact new
  ·rw[ae z]at e
   refine (I.hok b u e).stay (fun c v hc q=>k c v ?_ q) (fun c q=>by rw[ae (nt q)];exact q) fun c xs q=>by rw[ae (nt q)];exact q
   rcases hc with y|y
   ·rw[y];exact z
   ·exact nt y
theorem uB {a b:Addr}{o:HO}(f:cI X pins H a)(h:a≠b):cI X pins (L2.upd H b o) a:=⟨by rw[ae h];exact f.1,f.2⟩
theorem zH {a:Addr}{H':Hp}(f:cI X pins H a)(h:H' a=none):cI X pins H' a:=⟨h,f.2⟩
theorem qj {st:SortSt}{A:Around}{E:Value->Shared->Prop}{a kS:Addr}{e1:Nat}{ks ys:List V}{P:PySem.Fin->Shared->Prop}
  (I:Inv X (pins++[(a,seqObj "list" #[] e1)]) σ H s) (hk:H kS=some (.lst ks)) (fa:cI X pins H a) (hfl:failedOf st=none) (hv:Vals ys ((arrOf st).map (·.2)).toList) (hz:ys.length<=sizeLine)
  (h:∀s',Inv X pins σ (upd (upd H kS (.lst [])) a (.lst ys)) s'->P (.done (.ret .none)) s'):
  wpAny (model X.prog X.w) A (ksk_tail a false e1 (.ref kS) st) P E s:=by
 obtain⟨kz,its,n,ri,ek⟩:=I.hok kS _ hk
 have hak:a≠kS:=fun z=>by have:=fa.1;rw[z,hk]at this;cases this
 have hil:=ri.length
 have s1:=Heap.SameBut.update s.heap kS (Obj.mapSeq fun _=>(#[]:Array Value))
 have na:=(I.pin (a,seqObj "list" #[] e1) (by simp)).1
 have na1:(s.heap.update kS (Obj.mapSeq fun _=>(#[]:Array Value))).get? a=some (seqObj "list" #[] e1):=(s1.2 a hak).trans na
 have I1:Inv X (pins++[(a,seqObj "list" #[] e1)]) σ (upd H kS (.lst [])) { s with heap:=s.heap.update kS (Obj.mapSeq fun _=>(#[]:Array Value)) }:=
  I.write (t':=s.toks) (by rw[hk];trivial) (.inl rfl) (fun b u hb q=>(s1.2 b hb).trans q) ⟨_,get?_update_seq ek fun _=>#[]⟩ ⟨Nat.zero_le _,[],_,.nil,get?_update_seq ek fun _=>#[]⟩
 have s2:=Heap.SameBut.update (s.heap.update kS (Obj.mapSeq fun _=>(#[]:Array Value))) a (Obj.mapSeq fun _=>(arrOf st).map (·.2))
 have hl:ys.length=(arrOf st).size:=by
  rw[hv.length]
  simp
 have sl:sizeLine<=sizeLine+1:=Nat.le_succ _
 unfold ksk_tail
 try dsimp only
 refine wpAny_bind (listUpdate_at ek rfl ?_ (by rw[List.size_toArray,<-hil];exact kz) (Nat.zero_le _))
 refine wpAny_bind (wpAny_letGo ?_)
 refine wpAny_bind (seqEpoch_at na1 rfl ?_)
 refine wpAny_bind (listUpdate_at na1 rfl ?_ (Nat.zero_le _) (by simp only[Bool.false_eq_true,if_false,Array.size_map];omega))
 rw[hfl]
 simp only[bne_self_eq_false,Bool.false_eq_true,if_false]
 refine wpAny_pure (h _ ?_)
 obtain⟨c2,hc2⟩:∃c2,((s.heap.update kS (Obj.mapSeq fun _=>(#[]:Array Value))).update a (Obj.mapSeq fun _=>(arrOf st).map (·.2))).get? a=some (seqObj "list" ((arrOf st).map (·.2)) c2):=⟨_,get?_update_seq na1 fun _=>(arrOf st).map (·.2)⟩
 exact xZ (s:={ s with heap:=s.heap.update kS (Obj.mapSeq fun _=>(#[]:Array Value)) }) (t':=s.toks) I1.unpinned (uB fa hak) (fun b u hb q=>(s2.2 b hb).trans q) ⟨hz,((arrOf st).map (·.2)).toList,c2,hv,by rw[Array.toArray_toList];exact hc2⟩
def KeysAt (H:Hp)(kz:List (Int×Int))(ks:List V):Prop:=∃ps:List Addr,ks=ps.map V.ref/\ps.length=kz.length/\∀(i:Nat)(p:Addr)(k:Int×Int),ps[i]?=some p->kz[i]?=some k->H p=some (.tup [.int k.1,.int k.2])
theorem key_of {p:Addr}{k:Int×Int}(I:Inv X pins σ H s)(h:H p=some (.tup [.int k.1,.int k.2])):G.tupKeyC s.heap eB (.ref p)=some [Sum.inl k.1,Sum.inl k.2]/\∃t,TupOf s.heap eB (.ref p) (.int k.1 t):=by
 obtain⟨z,its,ri,ob,e,c,n,d⟩:=I.hok p _ h
 cases ri with
 |cons r1 r2=>
  cases r2 with
  |cons r2 r3=>
   cases r3
   obtain⟨t1,rfl⟩:=r1
   obtain⟨t2,rfl⟩:=r2
   refine⟨?_,t1,p,ob,_,n,rfl,e,c,d,rfl,fun _=>⟨_,_,rfl⟩,fun z=>by cases z⟩
   unfold G.tupKeyC
   have e1:G.isTupObj s.heap (.ref p)=true:=by simp[G.isTupObj,e,c]
   rw[if_pos e1]
   simp only[tupKey,e,d]
   rfl
theorem ya {A:Around}{E:Value->Shared->Prop}{a kS:Addr}{e1:Nat}{kz:List (Int×Int)}{ks xs:List V}{vs:List Value}{keys:Array Value}{P:PySem.Fin->Shared->Prop}
  (I:Inv X (pins++[(a,seqObj "list" #[] e1)]) σ H s) (hk:H kS=some (.lst ks)) (fa:cI X pins H a) (hkv:Vals ks keys.toList) (hK:KeysAt H kz ks) (hv:Vals xs vs) (hlen:kz.length=xs.length) (hZ:xs.length<=sizeLine)
  (h:∀s' ys,eP kz xs ys->Inv X pins σ (upd (upd H kS (.lst [])) a (.lst ys)) s'->P (.done (.ret .none)) s'):
  wpAny (model X.prog X.w) A (ksk_end a false vs.toArray e1 (.ref kS) keys) P E s:=by
 obtain⟨ps,rfl,hpl,hps⟩:=hK
 have hvl:=hv.length
 have hkl:=hkv.length
 rw[List.length_map]at hkl
 have hkey:keys.toList=ps.map Value.ref:=by
  have:∀{ps:List Addr} {us:List Value},Vals (ps.map V.ref) us->us=ps.map Value.ref:=fun {ps}=>by
   induction ps with
   |nil=>intro us h;cases h;rfl
   |cons p ps ih=>
    intro us h
    cases h with
    |cons r t=>rw[ih t,List.map_cons];congr 1
  exact this hkv
 have keyAt:∀i p,ps[i]?=some p->G.tupKeyC s.heap eB (.ref p)=some [Sum.inl (kz.getD i (0,0)).1,Sum.inl (kz.getD i (0,0)).2]/\∃t,TupOf s.heap eB (.ref p) (.int (kz.getD i (0,0)).1 t):=fun i p e=>by
  have hi:i<kz.length:=by rw[<-hpl];exact (List.getElem?_eq_some_iff.mp e).1
  have ek:kz[i]?=some kz[i]:=by simp[hi]
  have:=key_of I (hps i p _ e ek)
  have e2:kz.getD i (0,0)=kz[i]:=by simp[hi]
  rw[e2]
  exact this
 have hzip:(keys.zip vs.toArray).toList=(List.range xs.length).map fun i=>(Value.ref (ps.getD i 0),vs.getD i .none):=by
  rw[ksk_zip,hkey]
  apply List.ext_getElem?
  intro i
  rw[List.getElem?_map]
  by_cases hi:i<xs.length
  ·have h1:i<ps.length:=by omega
   have h2:i<vs.length:=by omega
   simp[List.getElem?_zip_eq_some,hi,h1,h2]
  ·have h1:¬i<ps.length:=by omega
   rw[List.getElem?_eq_none (by simp;omega),List.getElem?_eq_none (by simp;omega)]
   rfl
 have hzs:(keys.zip vs.toArray).size=xs.length:=by
  rw[<-Array.length_toList,hzip]
  simp
 have out:∀st:SortSt,(arrOf st).Perm (keys.zip vs.toArray)->SortedToK (G.tupKindC s.heap eB) (arrOf st) (keys.zip vs.toArray).size->∃ys,eP kz xs ys/\Vals ys ((arrOf st).map (·.2)).toList/\ys.length<=sizeLine:=fun st hp hs=>by
  have hl:=Array.perm_iff_toList_perm.mp hp
  obtain⟨idx,h1,h2⟩:=pJ hl.symm hzip
  have hin:∀i∈idx,i<xs.length:=fun i hi=>List.mem_range.mp (h1.mem_iff.mp hi)
  refine⟨idx.map fun i=>xs.getD i .non,⟨idx,h1,?_,rfl⟩,?_,?_⟩
  ·rw[List.pairwise_iff_getElem]
   intro i j hi hj hij
   have ha:∀m (hm:m<idx.length),KK (G.tupKindC s.heap eB) (arrOf st) m=[Sum.inl (kz.getD idx[m] (0,0)).1,Sum.inl (kz.getD idx[m] (0,0)).2]:=fun m hm=>by
    have e:(arrOf st)[m]?=some (Value.ref (ps.getD idx[m] 0),vs.getD idx[m] .none):=by
     rw[<-Array.getElem?_toList,h2,List.getElem?_map,List.getElem?_eq_getElem hm]
     rfl
    unfold KK
    rw[e]
    have hb:idx[m]<ps.length:=by
     have:=hin _ (List.getElem_mem hm)
     omega
    have:=(keyAt idx[m] (ps.getD idx[m] 0) (by simp[hb])).1
    show (G.tupKeyC s.heap eB (.ref (ps.getD idx[m] 0))).getD _=_
    rw[this]
    rfl
   have hil:idx.length=xs.length:=by rw[h1.length_eq,List.length_range]
   have:=hs i j (Nat.le_of_lt hij) (by rw[hzs];omega)
   rw[ha i hi,ha j hj]at this
   have this:lexLt itemOrd [Sum.inl (kz.getD idx[j] (0,0)).1,Sum.inl (kz.getD idx[j] (0,0)).2] [Sum.inl (kz.getD idx[i] (0,0)).1,Sum.inl (kz.getD idx[i] (0,0)).2]=false:=this
   rw[wn]at this
   exact this
  ·rw[Array.toList_map,h2,List.map_map]
   clear h1 h2
   induction idx with
   |nil=>exact .nil
   |cons i idx ih=>
    refine .cons ?_ (ih fun j hj=>hin j (by simp[hj]))
    have hi:=hin i (by simp)
    have e:xs[i]?=some (xs.getD i .non):=by simp[hi]
    obtain⟨u,hu,r⟩:=hv.get e
    have e2:vs.getD i .none=u:=by rw[List.getD_eq_getElem?_getD,hu];rfl
    show RelV _ (vs.getD i .none)
    rw[e2]
    exact r
  ·rw[List.length_map,h1.length_eq,List.length_range]
   exact hZ
 unfold ksk_end
 try dsimp only
 simp only[Bool.false_eq_true,if_false]
 by_cases h2:vs.toArray.size<2
 ·rw[if_pos h2,if_pos h2]
  refine wpAny_bind (wpAny_pure ?_)
  rw[StateT.run_pure]
  refine wpAny_bind (wpAny_pure ?_)
  try dsimp only
  obtain⟨ys,o1,o2,o3⟩:=out (SortSt.mk' general' (keys.zip vs.toArray) #[] 7 none) (Array.Perm.refl _) (fun i j hij hj=>by
   rw[hzs]at hj
   rw[List.size_toArray]at h2
   have:i=j:=by omega
   subst this
   exact KeyOrd.kle_refl _)
  exact qj (st:=SortSt.mk' general' (keys.zip vs.toArray) #[] 7 none) I hk fa rfl o2 o3 fun s' I'=>h s' ys o1 I'
 ·rw[if_neg h2,if_neg h2]
  rw[List.size_toArray]at h2
  have ht:∃fs,TupsOf s.heap eB keys.toList fs:=by
   rw[hkey]
   have:∀(l:List Addr),(∀p∈l,∃f,TupOf s.heap eB (.ref p) f)->∃fs,TupsOf s.heap eB (l.map Value.ref) fs:=fun l=>by
    induction l with
    |nil=>intro _;exact⟨[],.nil⟩
    |cons p l ih=>
     intro hl
     obtain⟨f,hf⟩:=hl p (by simp)
     obtain⟨fs,hfs⟩:=ih fun q hq=>hl q (by simp[hq])
     exact⟨f :: fs,.cons hf hfs⟩
   refine this ps fun p hp=>?_
   obtain⟨i,hi⟩:=List.getElem?_of_mem hp
   obtain⟨_,t,ht⟩:=keyAt i p hi
   exact⟨_,ht⟩
  obtain⟨fs,ht⟩:=ht
  have hfl:fs.length=keys.toList.length:=G.TupsOf.length ht
  have hkk:keyKind' keys=keyKind' keys.toList.toArray:=by rw[Array.toArray_toList]
  rw[hkk]
  refine wpAny_bind (tup_kind (by omega) ht ?_)
  try dsimp only
  refine wpAny_bind (wpAny_mono (G.wpS_sortRunsSt (κ:=G.tupKindC s.heap eB) (kd:=tuples' true) (a₀:=keys.zip vs.toArray) (st:=SortSt.mk' (tuples' true) (keys.zip vs.toArray) #[] 7 none)
   (Q:=fun _ st'=>(arrOf st').Perm (keys.zip vs.toArray)/\failedOf st'=none/\SortedToK (G.tupKindC s.heap eB) (arrOf st') (keys.zip vs.toArray).size)
   (G.tupC_ltAt true (G.KeepsTups.refl _)) (fun p hp=>?_) ⟨Array.Perm.refl _,rfl,rfl⟩ rfl (Stable.refl _) (by rw[hzs];omega) fun st' a1 a2 a3 _=>⟨a1,a2,a3⟩) ?_ fun _ _ e=>e)
  ·rw[hzip]at hp
   obtain⟨i,hi,rfl⟩:=List.mem_map.mp hp
   have hb:i<ps.length:=by
    have:=List.mem_range.mp hi
    omega
   exact⟨_,(keyAt i (ps.getD i 0) (by simp[hb])).1⟩
  ·rintro⟨⟨⟩,st'⟩ s' ⟨rfl,hp,hf,hs⟩
   try dsimp only
   obtain⟨ys,o1,o2,o3⟩:=out st' hp hs
   exact qj I hk fa hf o2 o3 fun s' I'=>h s' ys o1 I'
def iX (X:Cx)(σ:L2.St)(A:Around)(f:Value)(pins:List (Addr×Obj))(H:Hp)(kz:List (Int×Int))(xs:List V):Prop:=
 ∀(i:Nat)(x:V)(u:Value)(k:Int×Int),xs[i]?=some x->RelV x u->kz[i]?=some k->∀(more:List (Addr×Obj))(s':Shared)(H':Hp),Inv X (pins++more) σ H' s'->Same H H'->
  wpAny (model X.prog X.w) A (call f [u]) (EP X (pins++more) σ fun y H''=>∃p,y=.ref p/\H'' p=some (.tup [.int k.1,.int k.2])/\Same H' H'') (fun _ _=>False) s'
theorem KeysAt.same {H H':Hp}{kz:List (Int×Int)}{ks:List V}(h:KeysAt H kz ks)(s:∀b xs,H b=some (.tup xs)->H' b=some (.tup xs)):KeysAt H' kz ks:=by
 obtain⟨ps,e,l,k⟩:=h
 exact⟨ps,e,l,fun i p z a b=>s _ _ (k i p z a b)⟩
theorem KeysAt.snoc {H:Hp}{kz:List (Int×Int)}{ks:List V}{p:Addr}{k:Int×Int}(h:KeysAt H kz ks)(hp:H p=some (.tup [.int k.1,.int k.2])):KeysAt H (kz++[k]) (ks++[.ref p]):=by
 obtain⟨ps,rfl,l,q⟩:=h
 refine⟨ps++[p],by simp,by simp[l],fun i r z a b=>?_⟩
 by_cases hi:i<ps.length
 ·rw[List.getElem?_append_left hi]at a
  rw[List.getElem?_append_left (by omega)]at b
  exact q i r z a b
 ·rw[List.getElem?_append_right (by omega)]at a b
  have:i-ps.length=0:=by
   have:=(List.getElem?_eq_some_iff.mp a).1
   simp at this
   omega
  rw[this]at a
  rw[<-l,this]at b
  cases a
  cases b
  exact hp
theorem wU {A:Around}{E:Value->Shared->Prop}{a kS:Addr}{e1:Nat}{f:Value}{kz:List (Int×Int)}{xs:List V}{vs:List Value}{P:PySem.Fin->Shared->Prop}{H0:Hp}
  (I:Inv X (pins++[(a,seqObj "list" #[] e1)]) σ H s) (hk:H kS=some (.lst [])) (fa:cI X pins H a) (hv:Vals xs vs) (hlen:kz.length=xs.length) (hZ:xs.length<sizeLine) (h0:H0 kS=none) (hs0:Same H0 H) (bx:iX X σ A f pins H0 kz xs)
  (h:∀s' H' ys,eP kz xs ys->Same H0 H'->H' a=none->Inv X pins σ (upd H' a (.lst ys)) s'->P (.done (.ret .none)) s'):
  wpAny (model X.prog X.w) A (ksk_rest a f false vs.toArray e1 (.ref kS)) P E s:=by
 have hvl:=hv.length
 unfold ksk_rest
 refine wpAny_bind (wpAny_rule ?_)
 first
  |rw[List.forIn_toArray]
  |(rw[<-Array.forIn_toList];simp only[List.toList_toArray])
  |rw[<-Array.forIn_toList]
 refine wpAny_bind (ksk_fold (fun i s'=>∃H' ks,Inv X (pins++[(a,seqObj "list" #[] e1)]) σ H' s'/\Same H0 H'/\H' kS=some (.lst ks)/\H' a=none/\KeysAt H' (kz.take i) ks) vs 0 s
  ⟨H,[],I,hs0,hk,fa.1,⟨[],rfl,by simp,fun i p k e=>by simp at e⟩⟩ ?step ?done)
 case step=>
  rintro j u s' hu ⟨H',ks,I',hs',hk',ha',hK⟩
  simp only[Nat.zero_add]at hK ⊢
  have hj:j<vs.length:=(List.getElem?_eq_some_iff.mp hu).1
  have hjx:j<xs.length:=by omega
  have ex:xs[j]?=some xs[j]:=by simp[hjx]
  have hjk:j<kz.length:=by omega
  have ek:kz[j]?=some kz[j]:=by simp[hjk]
  obtain⟨u',hu',r⟩:=hv.get ex
  rw[hu]at hu'
  cases hu'
  refine wpAny_bind (wpAny_attempt (wpAny_mono (bx j xs[j] u kz[j] ex r ek _ s' H' I' hs') (fun v s'' he=>?_) fun _ _ hF=>hF.elim))
  obtain⟨y,H2,I2,ry,p,rfl,hp,s2⟩:=he
  obtain rfl:v=Value.ref p:=ry
  try dsimp only
  have hk2:=s2 _ _ hk'
  have ha2:H2 a=none:=(I2.pin (a,seqObj "list" #[] e1) (by simp)).2.1
  obtain⟨kz2,its,n,ri,e⟩:=I2.hok kS _ hk2
  have hil:=ri.length
  have hkl:ks.length<=xs.length:=by
   obtain⟨ps,rfl,l,_⟩:=hK
   rw[List.length_map,l,List.length_take]
   omega
  have sb:=Heap.SameBut.update s''.heap kS (Obj.mapSeq (·.push (.ref p)))
  obtain⟨c2,hc2⟩:∃c2,(s''.heap.update kS (Obj.mapSeq (·.push (.ref p)))).get? kS=some (seqObj "list" (its.toArray.push (.ref p)) c2):=⟨_,get?_update_seq e (·.push (.ref p))⟩
  refine wpAny_bind (listUpdate_at e rfl ?_ (by rw[List.size_toArray];omega) (by rw[Array.size_push,List.size_toArray];omega))
  refine wpAny_pure ⟨rfl,upd H2 kS (.lst (ks++[.ref p])),ks++[.ref p],?_,?_,af,?_,?_⟩
  ·refine I2.write (t':=s''.toks) (by rw[hk2];trivial) (.inl rfl) (fun b w hb q=>(sb.2 b hb).trans q) ⟨_,hc2⟩ ⟨by rw[List.length_append];show ks.length+1<=sizeLine;omega,its++[.ref p],c2,ri.append (.cons (show RelV (V.ref p) (Value.ref p) from rfl) .nil),?_⟩
   rw[hc2]
   simp
  ·exact aN (hs'.trans s2) h0
  ·rw[ae (fun z=>by rw[z]at ha2;rw[ha2]at hk2;cases hk2)]
   exact ha2
  ·have et:kz.take (j+1)=kz.take j++[kz[j]]:=by rw[List.take_add_one,ek];simp
   rw[et]
   have nk:∀b xs,H2 b=some (.tup xs)->upd H2 kS (.lst (ks++[.ref p])) b=some (.tup xs):=fun b xs q=>by
    rw[ae (fun z=>by rw[z,hk2]at q;cases q)]
    exact q
   exact KeysAt.snoc (hK.same fun b xs q=>nk b xs (s2 b _ q)) (nk p _ hp)
 case done=>
  rintro s' ⟨H',ks,I',hs',hk',ha',hK⟩
  have e3:kz.take (0+vs.length)=kz:=List.take_of_length_le (by omega)
  rw[e3]at hK
  obtain⟨kz2,its,n,ri,e⟩:=I'.hok kS _ hk'
  try dsimp only
  refine wpAny_bind (listItems_at e rfl ?_)
  refine ya (ks:=ks) I' hk' (zH fa ha') (by simpa using ri) hK hv hlen (Nat.le_of_lt hZ) fun s2 ys o I2=>?_
  refine h s2 (upd H' kS (.lst [])) ys o (aN hs' h0) ?_ I2
  rw[ae (fun z=>by rw[z]at ha';rw[ha']at hk';cases hk')]
  exact ha'
theorem qG {A:Around}{E:Value->Shared->Prop}{a:Addr}{n:Nat}{f:Value}{kz:List (Int×Int)}{xs:List V}{vs:List Value}{P:PySem.Fin->Shared->Prop}
  (I:Inv X pins σ H s) (ho:s.heap.get? a=some (seqObj "list" vs.toArray n)) (fa:cI X pins H a) (hv:Vals xs vs) (hlen:kz.length=xs.length) (hZ:xs.length<sizeLine) (bx:iX X σ A f pins H kz xs)
  (h:∀s' H' ys,eP kz xs ys->Same H H'->H' a=none->Inv X pins σ (upd H' a (.lst ys)) s'->P (.done (.ret .none)) s'):
  wpAny (model X.prog X.w) A (ksk_tree a f false) P E s:=by
 have hvl:=hv.length
 have s1:=Heap.SameBut.update s.heap a (Obj.mapSeq fun _=>(#[]:Array Value))
 obtain⟨e1,ho1⟩:∃e1,(s.heap.update a (Obj.mapSeq fun _=>(#[]:Array Value))).get? a=some (seqObj "list" #[] e1):=⟨_,get?_update_seq ho fun _=>#[]⟩
 have I1:Inv X pins σ H { s with heap:=s.heap.update a (Obj.mapSeq fun _=>(#[]:Array Value)) }:=I.turned (t':=s.toks) (fun b o hb e=>(s1.2 b hb).trans e) fa.1 fa.2.1 fa.2.2.2.1 fa.2.2.2.2.1 fa.2.2.2.2.2
 have I2:Inv X pins σ H { s with heap:=(s.heap.update a (Obj.mapSeq fun _=>(#[]:Array Value))).push (seqObj "tuple" vs.toArray 0) }:=I1.kept (t':=s.toks) fun b u e=>Heap.get?_push_of_some _ e
 generalize hh:(s.heap.update a (Obj.mapSeq fun _=>(#[]:Array Value))).push (seqObj "tuple" vs.toArray 0)=h2 at I2
 have ho2:h2.get? a=some (seqObj "list" #[] e1):=by rw[<-hh];exact Heap.get?_push_of_some _ ho1
 have hn:H h2.objs.size=none:=I2.hok.fresh (Nat.le_refl _)
 have I3:Inv X pins σ (upd H h2.objs.size (.lst [])) { s with heap:=h2.push (seqObj "list" #[] 0) }:=I2.laid (t':=s.toks) (fun b u e=>Heap.get?_push_of_some _ e) (Nat.le_refl _) ⟨Nat.zero_le _,[],0,.nil,Heap.get?_push_size _ rfl⟩
 have hak:a≠h2.objs.size:=Nat.ne_of_lt (Heap.lt_size ho2)
 have f3:=uB (o:=.lst []) fa hak
 have I4:Inv X (pins++[(a,seqObj "list" #[] e1)]) σ (upd H h2.objs.size (.lst [])) { s with heap:=h2.push (seqObj "list" #[] 0) }:=I3.pins_of fun p hp=>by
  rcases List.mem_append.mp hp with z|z
  ·exact I3.pin p (List.mem_append_right _ z)
  ·have:p=(a,seqObj "list" #[] e1):=by simpa using z
   subst this
   exact⟨Heap.get?_push_of_some _ ho2,f3.1,f3.2.1,f3.2.2.1,fun v z=>by cases z⟩
 unfold ksk_tree
 refine wpAny_bind (listItems_at ho rfl ?_)
 refine wpAny_bind (listUpdate_at ho rfl ?_ (by rw[List.size_toArray];omega) (Nat.zero_le _))
 refine wpAny_bind (seqEpoch_at ho1 rfl ?_)
 refine wpAny_bind (wpAny_newTuple ?_ (by show vs.length<=_;omega))
 refine wpAny_bind (wpAny_newList ?_ (Nat.zero_le _))
 refine wpAny_holding ?_
 show wpAny _ A (ksk_rest a f false vs.toArray e1 (.ref ((s.heap.update a (Obj.mapSeq fun _=>(#[]:Array Value))).push (seqObj "tuple" vs.toArray 0)).objs.size)) P E { s with heap:=((s.heap.update a (Obj.mapSeq fun _=>(#[]:Array Value))).push (seqObj "tuple" vs.toArray 0)).push (seqObj "list" #[] 0) }
 rw[hh]
 exact wU (H0:=H) I4 af f3 hv hlen hZ hn (ak hn) bx h
end
section
variable {X:Cx}{pins:List (Addr×Obj)}{σ:L2.St}{H:Hp}{s:Shared}
theorem t7 {E:Value->Shared->Prop}{l f:Addr}{kz:List (Int×Int)}{xs:List V}{Q:VK}
  (I:Inv X pins σ H s)(hl:H l=some (.lst xs))(hlen:kz.length=xs.length)(hZ:xs.length<sizeLine)(bx:iX X σ X.A.in1.in1 (.ref f) pins H kz xs)
  (h:∀H' ys p,eP kz xs ys->Same H H'->H' p=none->Q (.ref p) (upd H' p (.lst ys))):
  wpAny (model X.prog X.w) X.A (call (.builtin "sorted") [.ref l] [(Str.ofString "key",.ref f)]) (EP X pins σ Q) E s:=by
 obtain⟨hz,its,n,ri,e⟩:=I.hok l _ hl
 have hil:=ri.length
 refine call_function_entry_kw kind_sorted plain_sorted entry_sorted (ksk_s1 _ _) ?_
 unfold Builtin.«sorted»
 refine wpAny_bind (m:=checkCount "sorted" 1 1 _) (wpAny_pure ?_)
 refine wpAny_bind (collect_list (vs:=its) ⟨_,e,rfl,_,rfl⟩ ?_ (by omega))
 refine wpAny_bind (wpAny_newList ?_ (by show its.length<=_;omega))
 have hsz:((s.heap.push (seqObj "list" #[] 0)).update s.heap.objs.size (Obj.mapSeq (·++its.toArray))).objs.size=s.heap.objs.size+1:=by
  rw[Heap.size_update,size_push']
 generalize hg:(s.heap.push (seqObj "list" #[] 0)).update s.heap.objs.size (Obj.mapSeq (·++its.toArray))=h1 at hsz
 have k1:∀b o,s.heap.get? b=some o->h1.get? b=some o:=fun b o q=>by
  have hlt:b<s.heap.objs.size:=Heap.lt_size q
  rw[<-hg,Heap.get?_update_ne _ _ _ _ (Nat.ne_of_lt hlt),Heap.get?_push_ne _ _ _ (Nat.ne_of_lt hlt)]
  exact q
 have I1:Inv X pins σ H { s with heap:=h1 }:=I.kept (t':=s.toks) k1
 have I2:Inv X pins σ H { s with heap:=h1.push (seqObj "list" its.toArray 0) }:=I1.kept (t':=s.toks) fun b u q=>Heap.get?_push_of_some _ q
 have hoL:(h1.push (seqObj "list" its.toArray 0)).get? h1.objs.size=some (seqObj "list" its.toArray 0):=Heap.get?_push_size _ rfl
 have fa:cI X pins H h1.objs.size:=I1.fpOk (Nat.le_refl _) (I1.hok.fresh (Nat.le_refl _))
 show wpAny _ _ _ _ _ { s with heap:=(h1.push (seqObj "list" its.toArray 0)) }
 refine wpAny_bind (wpAny_holding (wpAny_call_entry_kw slot_list_sort ⟨_,hoL,rfl⟩ entry_list_sort ?body (ksk_l1 _ _)))
 case body=>
  show wpAny (model X.prog X.w) X.A.in1.in1 (Builtin.«list.sort» ⟨[.ref h1.objs.size],[(Str.ofString "key",.ref f)]⟩) _ _ _
  rw[ksk_t1]
  refine qG I2 hoL fa ri hlen hZ bx fun s' H' ys o sm ha I'=>⟨_,rfl,?_⟩
  exact wpAny_pure ⟨_,rfl,.ref _,_,I',rfl,h H' ys _ o sm ha⟩
theorem t9 {E:Value->Shared->Prop}{d f:Addr}{kz:List (Int×Int)}{kvs:List (Key×V)}{Q:VK}(hc:X.calm=true)
  (I:Inv X pins σ H s)(hd:H d=some (.dK kvs))(hlen:kz.length=kvs.length)(hZ:kvs.length<sizeLine)(bx:iX X σ X.A.in1.in1 (.ref f) pins H kz (kvs.map fun z=>kV z.1))
  (h:∀H' ys p,eP kz (kvs.map fun z=>kV z.1) ys->Same H H'->H' p=none->Q (.ref p) (upd H' p (.lst ys))):
  wpAny (model X.prog X.w) X.A (call (.builtin "sorted") [.ref d] [(Str.ofString "key",.ref f)]) (EP X pins σ Q) E s:=by
 obtain⟨hz,lo,vs,kv,hD⟩:=kR I.hok hd
 obtain⟨ep,hat⟩:=hD.dictAt
 have hl:kvs.length=vs.length:=kv.length
 refine call_function_entry_kw kind_sorted plain_sorted entry_sorted (ksk_s1 _ _) ?_
 unfold Builtin.«sorted»
 refine wpAny_bind (m:=checkCount "sorted" 1 1 _) (wpAny_pure ?_)
 refine wpAny_bind (PySem.W.kdu_collect (PySem.W.kdl_dict (knd:=bi X.prog X.w) (kvs:=vs) (ep:=ep) lo) (I.ok.hd hc) hat (by rw[<-hl];exact hz) fun h' tk acc hk hacc=>?_)
 have hv:Vals (kvs.map fun z=>kV z.1) acc.toList:=kq kv (by rw[Array.length_toList];exact hacc.1) fun j u hu=>hacc.2 j u (by rw[<-Array.getElem?_toList];exact hu)
 have hlen2:acc.toList.length<=sizeLine:=by
  rw[Array.length_toList,hacc.1,<-hl];exact hz
 refine wpAny_bind (wpAny_newList ?_ hlen2)
 have I1:Inv X pins σ H { s with heap:=h',toks:=tk }:=I.kept (t':=tk) hk
 have I2:Inv X pins σ H { s with heap:=h'.push (seqObj "list" acc.toList.toArray 0),toks:=tk }:=I1.kept (t':=tk) fun b u q=>Heap.get?_push_of_some _ q
 have hoL:(h'.push (seqObj "list" acc.toList.toArray 0)).get? h'.objs.size=some (seqObj "list" acc.toList.toArray 0):=Heap.get?_push_size _ rfl
 have fa:cI X pins H h'.objs.size:=I1.fpOk (Nat.le_refl _) (I1.hok.fresh (Nat.le_refl _))
 refine wpAny_bind (wpAny_holding (wpAny_call_entry_kw slot_list_sort ⟨_,hoL,rfl⟩ entry_list_sort ?body (ksk_l1 _ _)))
 case body=>
  show wpAny (model X.prog X.w) X.A.in1.in1 (Builtin.«list.sort» ⟨[.ref h'.objs.size],[(Str.ofString "key",.ref f)]⟩) _ _ _
  rw[ksk_t1]
  refine qG I2 hoL fa hv (by rw[List.length_map];exact hlen) (by rw[List.length_map];exact hZ) bx fun s' H' ys o sm ha I'=>⟨_,rfl,?_⟩
  exact wpAny_pure ⟨_,rfl,.ref _,_,I',rfl,h H' ys _ o sm ha⟩
def Ae (H:Hp)(x:V)(xs:List V):Prop:=∃a,x=.ref a/\(H a=some (.lst xs)∨∃kvs,H a=some (.dK kvs)/\xs=kvs.map fun z=>kV z.1)
def xx (te:TE)(P:Addr)(own:List (Str×Nat))(σ:L2.St)(Q:VK)(x:V)(H1:Hp):Prop:=∃(xs:List V)(kz:List (Int×Int)),Ae H1 x xs/\kz.length=xs.length/\xs.length<sizeLine/\H1 P=some (.tbl #[])/\
 ∀H2,(∀b,b≠P->H2 b=H1 b)->(∃ps,H2 P=some (.tbl ps))->
  (∀(i:Nat)(x:V)(k:Int×Int),xs[i]?=some x->kz[i]?=some k->∀H',Same H2 H'->te (kZ σ x own) H' fun y H''=>∃p,y=.ref p/\H'' p=some (.tup [.int k.1,.int k.2])/\Same H' H'')/\
  ∀H' ys p,eP kz xs ys->Same H2 H'->H' p=none->Q (.ref p) (upd H' p (.lst ys))
def xw (R:V->Hp->Prop):List V->Hp->Prop
 |[x],H=>R x H
 |_,_=>False
def yM (t:TA)(te:TE)(P:Addr)(own:List (Str×Nat)):TE:=fun σ H Q=>t σ H (xw (xx te P own σ Q))
theorem mD {e body:Expr}{params:Arguments}{scope:Scope}{lpos kpos p pos:Pos}{x:Str}{own:List (Str×Nat)}{c P:Addr}{t:TA}{te:TE}{k:Nat}(hc:X.calm=true)(hr:Room k X.A)(ok:LamOk X.N X.env.scope scope x own)(hcode:X.env.code=.ref c)(C:PySem.W.CodeHd X.base c P)(B:ir X.mg X.base)
  (hg:Gl X "sorted") (hm:X.mg "sorted"=none) (hv:bootBuiltins "sorted"=some (.builtin "sorted")) (ha:PA X [e] t)
  (hb:∀(f c':Addr)(s:Shared)(H:Hp)(L:Addr)(cl:List (Str×Addr)),PE (pw X (x :: own.map (·.1)) X.A.in1.in1 s H (PySem.W.envX (X.env.qual++"<lambda>") scope L f (.ref c') cl)) body te)
  (hbind:∀(name qual:Str)(cl:List (Str×Addr))(pm cd ctv u:Value),bindArgs (PySem.W.kla_fn name qual params body scope cl pm cd ctv) ⟨[u],[]⟩=pure [(x,u)])
  (hdef:defaultsOf params X.env=([],[]))
  (hkw:backToKw pos (keywordEach [⟨some "key",.Lambda params body scope lpos,kpos⟩] X.env)=[(some (Str.ofString "key"),(do let v <-eval (.Lambda params body scope lpos) X.env;standAt pos;pure v))])
  (he1:backTo pos (starEach (e :: []) X.env)=(false,eval e X.env) :: backTo pos (starEach [] X.env))
  (hplain:(backTo pos (starEach (e :: []) X.env)).any (·.1)=false):
  PE X (.Call (.Name "sorted" p) [e] [⟨some "key",.Lambda params body scope lpos,kpos⟩] pos) (yM t te P own):=by
 intro pins s σ H Q I h
 refine wpAny_Call_Name_kw (i7 I hg hm hv ?_ (by decide) (by decide))
 refine callWith_kw (thn (ha pos pins s σ H _ I h) fun us s1 ⟨vs,H1,I1,r1,q⟩=>?_) he1 hplain (by rw[hkw];rfl) (by rw[hkw];rfl)
 match vs,q,r1 with
 |[x1],q,r1=>
  obtain⟨xs,kz,hcl,hlen,hZ,hP,q9⟩:=(show xx te P own σ Q x1 H1 from q)
  obtain⟨a,rfl,hcl⟩:=hcl
  rw[Vals.ref1 r1,hkw]
  show wpAny _ _ (evalAll [(do let v <-eval (.Lambda params body scope lpos) X.env;standAt pos;pure v)]) _ _ s1
  refine wpAny_evalAll_cons (wpAny_bind (w9 I1 ok hcode C hP trivial rfl B hdef fun f c' oc ctv vs t more s2 I2 hd hv=>wpAny_bind (wpAny_standAt (wpAny_pure (wpAny_evalAll_nil ?_)))))
  show wpAny _ _ (call (.builtin "sorted") [.ref a] [(Str.ofString "key",.ref f)]) _ _ s2
  have hnP:∀b,b≠P->upd H1 P (.tbl (#[]++more)) b=H1 b:=fun b hb=>ae hb
  obtain⟨q1,q2⟩:=q9 (upd H1 P (.tbl (#[]++more))) hnP ⟨_,af⟩
  have bx:iX X σ X.A.in1.in1 (.ref f) (pins++[(f,PySem.W.kla_obj "<lambda>" (X.env.qual++"<lambda>") params body scope (aT X.env.cells scope.names []) ((X.mg "__name__").getD .none) c' ctv),(c',oc)]) (upd H1 P (.tbl (#[]++more))) kz xs:=by
   intro i x u k ex r ek mr s' H' I' sm
   have pf:=(I'.pin (f,PySem.W.kla_obj "<lambda>" (X.env.qual++"<lambda>") params body scope (aT X.env.cells scope.names []) ((X.mg "__name__").getD .none) c' ctv) (by simp)).1
   have pc:=(I'.pin (c',oc) (by simp)).1
   exact wS I' ok rfl (I.ok.hd hc) hr.depth r pf ⟨c',oc,vs,t,rfl,pc,hd,hv⟩ (hbind _ _ _ _ _ _ _) (hb f c') (q1 i x k ex ek H' sm)
  have fin:∀{u:Value} {s':Shared},EP X (pins++[(f,PySem.W.kla_obj "<lambda>" (X.env.qual++"<lambda>") params body scope (aT X.env.cells scope.names []) ((X.mg "__name__").getD .none) c' ctv),(c',oc)]) σ Q u s'->EP X pins σ Q u s':=fun {u s'} ⟨v,H',J,r,z⟩=>⟨v,H',J.unpinned,r,z⟩
  rcases hcl with hl|⟨kvs,hl,rfl⟩
  ·have hla:a≠P:=fun z=>by rw[z,hP]at hl;cases hl
   exact thn (t7 I2 (by rw[ae hla];exact hl) hlen hZ bx q2) fun _ _ z=>fin z
  ·have hla:a≠P:=fun z=>by rw[z,hP]at hl;cases hl
   rw[List.length_map]at hlen hZ
   exact thn (t9 hc I2 (by rw[ae hla];exact hl) hlen hZ bx q2) fun _ _ z=>fin z
theorem p5 {k:Nat}{A:Around}(r:Room (k+2) A)(env:Env):Room k (A.in1.in1.deeper env):=
 ⟨r.hd,by have:=r.dp;show A.depth+1+3*k+5<_;omega,by have:=r.un;show A.units+1+1+3+16*k+200<_;omega⟩
end
section
open PySem.AutoSeq1
open PySem.MeetsSeq PySem.MeetsSeq2 PySem.MeetsSeq3
theorem mV (l:Addr)(items:Array Value)(n:Nat)(b:Addr)(items2:Array Value)(n2:Nat)(dd:Option Addr)(sl:Array (Option Value))(hs0:¬(!items.isEmpty&&Builtin.List.listTooLong (items.size+items2.size))=true)(hs1:items.size<=sizeLine)(hs2:items.size+items2.size<=sizeLine+1):
  Meets (Builtin.«list.extend» ⟨[.ref l,.ref b],[]⟩) (fun _ R s=>s.heap.get? l=some { cls:=.type "list",dict:=none,data:=.seq items n,slots:=#[] }/\s.heap.get? b=some { cls:=.type "tuple",dict:=dd,data:=.seq items2 n2,slots:=sl }/\R (.ok (.ret Value.none)) { s with heap:=s.heap.update l (Obj.mapSeq fun x=>x++items2),toks:=s.toks }):=
 .of_wp fun prog w A R s h=>by
  obtain⟨hp,g,d,tk,os⟩:=s;obtain⟨hl,hb,h⟩:=h;have f1:=AutoSeq1.idx_int;have f2:=AutoSeq1.sub_tuple_tuple;have f3:=AutoSeq1.sub_list_list;have f4:=AutoSeq1.sub_tuple_list;have f5:=AutoSeq1.sub_list_tuple;
  have hz':(items++items2).size<=sizeLine+1:=by rw[Array.size_append];exact hs2
  wp_walk using (wpAny_updateSeq hl rfl (hz:=hs1) (_hz':=hz')),wpAny_loadPart' hl,wpAny_loadPart' hb;exact⟨_,rfl,h⟩
end
section
variable {X:Cx}
def zI:V->List V->Hp->VK->Prop:=fun x vs H Q=>∃l b xs zs,x=.ref l/\vs=[.ref b]/\H l=some (.lst xs)/\H b=some (.tup zs)/\xs.length+zs.length<=sizeLine/\Q .non (upd H l (.lst (xs++zs)))
theorem tN:MtM X "list.extend" zI:=by
 intro pins s σ H x vs v us Q I rx rv h
 obtain⟨l,b,xs,zs,rfl,rfl,hH,hB,hz,q⟩:=h
 cases rx
 obtain⟨u,rfl,ru⟩:=rv.one
 cases ru
 obtain⟨z,its,n,r,hl,e⟩:=I.lstM hH
 obtain⟨z2,its2,r2,ob,e2,c2,n2,d2⟩:=I.hok b _ hB
 have hl2:=r2.length
 obtain⟨oc,od,odt,os⟩:=ob
 have c2:oc=.type "tuple":=c2
 have d2:odt=.seq its2.toArray n2:=d2
 subst c2
 subst d2
 have hsz:its.toArray.size+its2.toArray.size<=sizeLine:=by rw[List.size_toArray,List.size_toArray];omega
 have hlong:¬(!its.toArray.isEmpty&&Builtin.List.listTooLong (its.toArray.size+its2.toArray.size))=true:=by
  rw[lK hsz,Bool.and_false]
  exact Bool.false_ne_true
 refine call_meets F.slot_list_extend ⟨_,e,rfl⟩ F.entry_list_extend (F.args_list_extend_2 _ _)
  (mV l its.toArray n b its2.toArray n2 _ _ hlong (by rw[List.size_toArray];omega) (by omega)) ⟨e,e2,?_⟩
 refine⟨.non,_,I.lset (its':=its++its2) hH e (by simp) (r.append r2) ?_,rfl,q⟩
 rw[List.length_append]
 omega
def dk (K:PySem.W.Frag)(mg:Str->Option Value)(x:Str)(c:Addr):Prop:=∀f o,mg x=some (.ref f)->K.lookup f=some o->∀fd,o.data=.func fd->fd.code=.ref c
theorem DefAt.okC {P:Program}{w:World}{K:PySem.W.Frag}{mg:Str->Option Value}{base:Heap}{x:Str}{s:Stmt}{ps N:List Str}{k:Nat}{sp:Sp}{c:Addr}
  (D:DefAt K mg x s ps)(hc:dk K mg x c)(S:FnScope N ps (ai s))(len:∀vs H Q E,sp vs H Q E->vs.length=ps.length)
  (hbody:∀(f:Addr)(A:Around)(outer:List Env)(s0:Shared)(H:Hp)(vs:List V)(Q:VK)(E:XK),Room k (A.deeper (envOfC x (ai s) s0.heap.objs.size f (.ref c)))->sp vs H Q E->
   ∃t,PSs (jf CX0 P w K mg base N x (ai s) f (.ref c) A outer s0 H E).nox (b8 s) t/\t { nx:=fun _ H'=>Q .non H',rt:=Q } (start N vs) H) :
  Cal P w K mg base x ps (k+1) sp:=by
 obtain⟨f,fd,h1,h2,h3⟩:=D
 obtain⟨oc,od,kV,doc,pm,an,cdv,ct,osl,rfl,lk,hcd⟩:=h2.ex
 have e:cdv=.ref c:=hc f _ h1 lk _ rfl
 subst e
 refine⟨f,_,h1,h2.kp,h3,xF lk hcd S len fun A outer s H vs Q E hr hsp=>?_⟩
 obtain⟨t,h,q⟩:=hbody f A outer s H vs Q E hr hsp
 exact⟨t,h.nox,q⟩
def zh (N:List Str)(sc scope:Scope)(x:Str)(own:List (Str×Nat)):Bool:=
 (match scope.kind with|.function=>true|_=>false)&&!scope.isCoroutine&&!scope.isGenerator&&(scope.names.all fun y=>match y.2 with|.cell=>false|_=>true)&&decide (scope.names.lookup x=some .local) &&
  (scope.names.all fun y=>match y.2 with
   |.free=>(match sc.names.lookup y.1 with|some .cell=>true|_=>false)
   |_=>true)&&(own.all fun p=>decide (N[p.2]?=some p.1)&&decide (scope.names.lookup p.1=some .free))
theorem qz {N:List Str}{sc scope:Scope}{x:Str}{own:List (Str×Nat)}(h:zh N sc scope x own=true):LamOk N sc scope x own:=by
 unfold zh at h
 simp only[Bool.and_eq_true,List.all_eq_true,decide_eq_true_eq,Bool.not_eq_true']at h
 obtain⟨⟨⟨⟨⟨⟨h1,h2⟩,h3⟩,h4⟩,h5⟩,h6⟩,h7⟩:=h
 refine⟨?_,h2,h3,fun y hy e=>?_,h5,fun y hy e=>?_,fun p hp=>h7 p hp⟩
 ·split at h1
  ·assumption
  ·cases h1
 ·have:=h4 y hy
  rw[e]at this
  cases this
 ·have:=h6 y hy
  rw[e]at this
  simp only at this
  split at this
  ·assumption
  ·cases this
end
theorem zv {K:PySem.W.Frag}(h:PySem.W.noTabs K=true){b:Addr}{o:Obj}(e:K.lookup b=some o):o≠PySem.W.tabObj #[]:=fun q=>by
 have h2:=List.all_eq_true.mp h (b,o) (PySem.W.mem_of_lookupK e)
 subst q
 exact absurd (show false=true from h2) Bool.false_ne_true
theorem tH {tbs:List Addr}{P:Program}{w:World}{K:PySem.W.Frag}{mg mb:Str->Option Value}{k:Nat}{fa:Addr}{ps:List Str}{sp:Sp}{s₁:Shared}{us:List Value}{xs:List V}{ks:List AK}{ans:List Int}
  (KX:K.In s₁.heap) (hns:s₁.heap.Ns mainGlobals mg) (hb:s₁.heap.Ns builtinsNs mb) (hbb:∀x:Str,x≠"__name__"->mb x=bootBuiltins x) (hlim:s₁.heap.NoLimit) (hg:s₁.gens=#[])
  (hv:Vals xs us)(ha:Args (Arg s₁.heap) ks xs)(hl:∀ns,AK.l ns∈ks->ns.length<=sizeLine)(hr:Room k callerA)
  (hT:∀b∈tbs,s₁.heap.get? b=some (PySem.W.tabObj #[])/\isCodeTable s₁.heap b)(hnK:PySem.W.noTabs K=true)
  (F:∀base:Heap,K.In base->base.Ns mainGlobals mg->(∀b o,s₁.heap.get? b=some o->o.cls≠.none->(∀xs n,o.data≠.seq xs n)->base.get? b=some o)->∃fd:FuncData,Binds K fd ps []/\FnOk P w K mg base CX0 k fa fd ps sp)(hlen:us.length=ps.length)
  (hsp:∀H:Hp,Args (t8 K H) ks xs->(∀b∈tbs,H b=some (.tbl #[]))->sp xs H (fun v H'=>∃p,v=.ref p/\H' p=some (.lst (ans.map V.int))) E0):
  codeAny (model P w) callerA (.call (.ref fa) ⟨us,[]⟩) (fun r s'=>(∃(p:Addr)(its:List Value)(n:Nat),r=.ok (.ret (.ref p))/\s'.heap.get? p=some { cls:=.type "list",data:=.seq its.toArray n }/\IntsAre its ans)/\OldK s₁.heap s'.heap/\s'.os=s₁.os/\AllBare s'.gens) s₁:=by
 obtain⟨las,hl1,hl2⟩:=pA ha
 have tK:∀b∈tbs,K.lookup b=none:=fun b hb=>by
  cases e:K.lookup b with
  |none=>rfl
  |some o=>
   have e1:=KX b o e
   rw[(hT b hb).1]at e1
   cases e1
   exact absurd rfl (zv hnK e)
 have tL:∀x∈las,x.1 ∉ tbs:=fun x hx hb=>by
  have e:=(hT x.1 hb).1
  rw[(hl1 x hx).1]at e
  cases e
 let H:Hp:=fun b=>if b∈tbs then some (.tbl #[]) else if (K.lookup b).isNone=true then (las.find? fun x=>decide (x.1=b)).map fun x=>HO.frz { cls:=.type "list",data:=.seq x.2.1.toArray } (.lst (x.2.2.map V.int)) else none
 have Htb:∀b∈tbs,H b=some (.tbl #[]):=fun b hb=>if_pos hb
 have Hat:∀b u,H b=some u->(b∈tbs/\u=.tbl #[])∨(b ∉ tbs/\K.lookup b=none/\∃x∈las,x.1=b/\u=HO.frz { cls:=.type "list",data:=.seq x.2.1.toArray } (.lst (x.2.2.map V.int))):=by
  intro b u hu
  have hu:(if b∈tbs then some (.tbl #[]) else if (K.lookup b).isNone=true then (las.find? fun x=>decide (x.1=b)).map fun x=>HO.frz { cls:=.type "list",data:=.seq x.2.1.toArray } (.lst (x.2.2.map V.int)) else none)=some u:=hu
  split at hu
  ·rename_i hk
   cases hu
   exact .inl ⟨hk,rfl⟩
  ·rename_i hk0
   split at hu
   ·rename_i hk
    obtain⟨x,hx,e⟩:=Option.map_eq_some_iff.mp hu
    have h1:=List.mem_of_find?_eq_some hx
    have h2:=List.find?_some hx
    exact .inr ⟨hk0,Option.isNone_iff_eq_none.mp hk,x,h1,of_decide_eq_true h2,e.symm⟩
   ·cases hu
 have HK:∀b u,H b=some u->K.lookup b=none:=fun b u e=>by
  rcases Hat b u e with ⟨h,_⟩|⟨_,h,_⟩
  ·exact tK b h
  ·exact h
 have hsq:∀x∈las,SqL K H x.1 (x.2.2.map V.int):=by
  intro x hx
  obtain⟨ho,hi,hk⟩:=hl1 x hx
  have hlen:=hl _ hk
  have hvl:=hi.length
  cases e:K.lookup x.1 with
  |some o=>
   have e1:=KX x.1 o e
   rw[ho]at e1
   cases e1
   exact .inr ⟨_,x.2.1.toArray,_,e,rfl,rfl,rfl,by rw[List.size_toArray,hvl];exact hlen,by simpa using kt hi⟩
  |none=>
   cases e2:las.find? (fun y=>decide (y.1=x.1)) with
   |none=>
    rw[List.find?_eq_none]at e2
    exact absurd (decide_eq_true rfl) (e2 x hx)
   |some y=>
    have h1:=List.mem_of_find?_eq_some e2
    have h2:=List.find?_some e2
    have h2:y.1=x.1:=of_decide_eq_true h2
    obtain⟨ho',hi',_⟩:=hl1 y h1
    rw[h2,ho]at ho'
    have ev:x.2.1=y.2.1:=by
     have:=Option.some.inj ho'
     have e3:(Data.seq x.2.1.toArray 0)=Data.seq y.2.1.toArray 0:=congrArg Obj.data this
     injection e3 with e4 e5
     simpa using e4
    rw[ev]at hi
    have en:=oH hi hi'
    refine .inl (.inr ⟨{ cls:=.type "list",data:=.seq y.2.1.toArray },?_⟩)
    show (if x.1∈tbs then some (.tbl #[]) else if (K.lookup x.1).isNone=true then (las.find? fun z=>decide (z.1=x.1)).map fun z=>HO.frz { cls:=.type "list",data:=.seq z.2.1.toArray } (.lst (z.2.2.map V.int)) else none)=_
    rw[if_neg (tL x hx),e,e2,en]
    rfl
 have hargs:Args (t8 K H) ks xs:=hl2.mono fun k x hk=>by
  cases k with
  |i n=>exact hk
  |l ns=>
   obtain⟨a,vs,e,hm⟩:=hk
   exact⟨a,e,hsq _ hm⟩
 have hok:HOk P w H s₁.heap:=fun b u hu=>by
  rcases Hat b u hu with ⟨hb,rfl⟩|⟨_,_,x,hx,rfl,rfl⟩
  ·exact (hT b hb).1
  ·obtain⟨ho,hi,hk⟩:=hl1 x hx
   exact⟨ho,by rw[List.length_map];exact hl _ hk,x.2.1,_,kt hi,ho⟩
 have base_of:∀{b:Addr} {o:Obj},s₁.heap.get? b=some o->H b=none->(jm s₁.heap H).get? b=some o:=fun e n=>xa e n
 have noA:∀{b:Addr} {o:Obj},s₁.heap.get? b=some o->o≠PySem.W.tabObj #[]->(∀xs n,o.data≠.seq xs n)->H b=none:=fun {b o} e d1 d2=>by
  cases q:H b with
  |none=>rfl
  |some u=>
   rcases Hat b u q with ⟨hb,_⟩|⟨_,_,x,hx,rfl,rfl⟩
   ·rw[(hT b hb).1]at e
    cases e
    exact absurd rfl d1
   ·rw[(hl1 x hx).1]at e
    cases e
    exact absurd rfl (d2 _ _)
 have nsK:∀{b:Addr} {m:Str->Option Value},s₁.heap.Ns b m->(jm s₁.heap H).Ns b m:=fun {b m} ⟨o,es,ep,e,d,r⟩=>⟨o,es,ep,base_of e (noA e (fun z=>by rw[z]at d;cases d) (fun xs n z=>by rw[d]at z;cases z)),d,r⟩
 have hKb:K.In (jm s₁.heap H):=fun b o e=>base_of (KX b o e) (by
  cases q:H b with
  |none=>rfl
  |some u=>
   have:=HK b u q
   rw[this]at e;cases e)
 have hM:Mod K mg (jm s₁.heap H):=⟨hKb,nsK hns,⟨mb,nsK hb,hbb⟩,let ⟨mc,h1,h2⟩:=hlim;⟨mc,nsK h1,h2⟩⟩
 have e0:Env0 P w K mg (jm s₁.heap H) callerA [] s₁ H:=⟨rfl,hM,fun b o e=>xI e,Nat.le_of_eq (vV _ _),trivial,fun b hb=>absurd (show b∈([]:List Addr) from hb) (by simp),hok,.of_eq hg⟩
 obtain⟨fd,hbd,hF⟩:=F _ hKb (nsK hns) fun b o e d1 d2=>base_of e (noA e (fun z=>by rw[z]at d1;exact d1 rfl) d2)
 have hbind:=hbd s₁ us KX (by simpa using hlen)
 rw[List.append_nil]at hbind
 refine codeAny_mono (hF.run callerA [] s₁ H ⟨us,[]⟩ us xs _ _ hr e0 hbind hv (hsp H hargs Htb)) fun r s' h=>?_
 cases r with
 |error e=>exact False.elim h
 |ok fl=>
  cases fl with
  |next=>exact False.elim h
  |brk=>exact False.elim h
  |cont=>exact False.elim h
  |ret u=>
   obtain⟨v,H',os,bare,un,hok',r',p,q1,q2⟩:=h
   subst q1
   obtain rfl:u=Value.ref p:=r'
   obtain⟨_,its,n,rv,ho⟩:=hok' p _ q2
   have keep:∀b o,b ∉ tbs->s₁.heap.get? b=some o->s'.heap.get? b=some o:=fun b o nb e=>by
    cases q:H b with
    |none=>exact un.keep b o e q (by intro z;exact absurd (show b∈([]:List Addr) from z) (by simp)) (by simp)
    |some u=>
     rcases Hat b u q with ⟨hb,_⟩|⟨_,_,x,hx,rfl,rfl⟩
     ·exact absurd hb nb
     ·have z2:=un.frzs _ _ _ q
      obtain⟨e1,_⟩:=hok _ _ q
      obtain⟨e2,_⟩:=hok' _ _ z2
      rw[e]at e1;cases e1
      exact e2
   have grown:∀b∈tbs,∃more,s'.heap.get? b=some { cls:=.none,data:=.fields (#[]++more) }:=fun b hb=>by
    obtain⟨more,hm⟩:=un.tbls b #[] (Htb b hb)
    exact⟨more,hok' b _ hm⟩
   refine⟨⟨p,its,n,rfl,ho,rv.ints⟩,⟨fun b o e=>?_,fun b o e=>?_⟩,os,bare⟩
   ·by_cases hb:b∈tbs
    ·obtain⟨more,hm⟩:=grown b hb
     have e2:=(hT b hb).1
     rw[e]at e2
     cases e2
     exact .inr (.inl ⟨(hT b hb).2,rfl,#[],more,rfl,hm⟩)
    ·exact .inl (keep b o hb e)
   ·by_cases hb:b∈tbs
    ·obtain⟨more,hm⟩:=grown b hb
     exact⟨_,hm⟩
    ·exact⟨o,keep b o hb e⟩
structure Tabbed (K:PySem.W.Frag)(mg:Str->Option Value)(base:Heap)(ns:List Str)(ct pt:Str->Addr):Prop where
 code:∀x∈ns,dk K mg x (ct x)
 hd:∀x∈ns,PySem.W.CodeHd base (ct x) (pt x)
 bm:ir mg base
theorem tj {ns:List Str}{r:PySem.W.OpenSpec}{q:Program}{loose:List Str}{XP:(Str->Option Value)->Heap->Prop}{YP:World->Heap->Prop}{d:DefRec}{K:Params->PySem.W.Frag}{k:Nat}{ps:List Str}{sp:(Str->Addr)->PySem.W.Frag->Sp}
  (said:r.wellSaid=true)(hdf:d.params.defaults=[])(hr:Room k callerA)(hY:∀(w:World)(h:Heap),YP w h->(K w.params).In h)(hnK:∀w:World,PySem.W.noTabs (K w.params)=true)(hns:∀x∈ns,(recsOf q).any (fun e=>e.name==x)=true)
  (F:∀(w:World)(mg:Str->Option Value)(fa:Addr)(h:Heap),(K w.params).In h->h.Ns mainGlobals mg->mg d.name=some (.ref fa)->
   ∀base:Heap,(K w.params).In base->base.Ns mainGlobals mg->∀ct pt:Str->Addr,Tabbed (K w.params) mg base ns ct pt->Cal r.prog w (K w.params) mg base d.name ps k (sp pt (K w.params)))
  (hargs:∀a:PySem.W.Codec.denoteAll r.args,PySem.W.Codec.withinAll r.args a=true->PySem.W.Codec.app r.args r.asked a=true->∃(ks:List AK)(ans:List Int),PySem.W.Codec.encAll r.args a=ks.map AK.w/\ks.length=ps.length/\(∀ns,AK.l ns∈ks->ns.length<=sizeLine)/\
   r.ret.enc (PySem.W.Codec.app r.args r.f a)=.list (ans.map .int)/\∀(pt:Str->Addr)(K:PySem.W.Frag)(xs:List V)(H:Hp),Args (t8 K H) ks xs->(∀x∈ns,H (pt x)=some (.tbl #[]))->sp pt K xs H (fun v H'=>∃p,v=.ref p/\H' p=some (.lst (ans.map V.int))) E0) :
  PySem.W.WalkOS q loose XP YP r d [] (fun f vs=>PySem.call f vs):=by
 intro w s₀ s₁ mg mb G Y fa o pm cd doc dV kV ho hd hcd hD hmg hg args vals as hpre hlay hrd hwl hlo
 obtain⟨a,hw,hk,rfl⟩:=(PySem.W.OpenSpec.pre_iff said _).mp hpre
 obtain⟨ks,ans,e1,e2,e3,e4,e5⟩:=hargs a hw hk
 have hwl':=hwl
 rw[e1]at hwl'
 obtain⟨xs,hv,hax⟩:=n9 hwl'
 have KX:=hY w _ Y
 have hF:=F w mg fa _ KX G.T.g hmg
 have hlen:vals.length=ps.length:=by
  have h1:∀{ks:List AK} {xs:List V},Args (Arg s₁.heap) ks xs->xs.length=ks.length:=fun h=>by
   induction h with
   |nil=>rfl
   |cons _ _ ih=>simp[ih]
  rw[<-hv.length,h1 hax,e2]
 have tab:∀x,∃c P,x∈ns->(∃a o fd,mg x=some (.ref a)/\s₁.heap.get? a=some o/\o.data=.func fd/\fd.code=.ref c/\s₁.heap.IsCode c P #[]/\s₁.heap.TableAt c P #[]):=fun x=>by
  by_cases hx:x∈ns
  ·obtain⟨d',hd',en⟩:=List.any_eq_true.mp (hns x hx)
   obtain⟨a,o,fd,c,P,h1,h2,h3,h4,h5,h6⟩:=G.T.tab d' hd'
   have en:d'.name=x:=beq_iff_eq.mp en
   rw[en]at h1
   exact⟨c,P,fun _=>⟨a,o,fd,h1,h2,h3,h4,h5,h6⟩⟩
  ·exact⟨0,0,fun h=>absurd h hx⟩
 obtain⟨ct,tab⟩:=Classical.axiomOfChoice tab
 obtain⟨pt,tab⟩:=Classical.axiomOfChoice tab
 refine PySem.W.enter_call (codeAny_mono (tH (tbs:=ns.map pt) KX G.T.g G.T.b G.T.builtins G.T.nolimit hg hv hax e3 hr (fun b hb=>?_) (hnK w) (fun base kb nb keep=>by
  have TB:Tabbed (K w.params) mg base ns ct pt:=by
   refine⟨fun x hx=>?_,fun x hx=>?_,?_⟩
   ·intro f o' hm hl fd' hd'
    obtain⟨a,o,fd,t1,t2,t3,t4,_⟩:=tab x hx
    rw[hm]at t1
    cases t1
    have:=KX _ _ hl
    rw[t2]at this
    cases this
    rw[t3]at hd'
    cases hd'
    exact t4
   ·obtain⟨a,o,fd,t1,t2,t3,t4,t5,t6⟩:=tab x hx
    obtain⟨o2,vs,file,tf,flags,tg,inF,text,tt,c1,c2,c3,c4⟩:=PySem.W.CodeHd.of t5 t6
    exact⟨o2,vs,file,tf,flags,tg,inF,text,tt,keep _ _ c1 (by rw[c2];nofun) (fun xs n z=>by rw[c3]at z;cases z),c2,c3,c4⟩
   ·obtain⟨bm,ob,b1,b2,b3,b4,b5,b6⟩:=G.T.bmain
    exact⟨bm,ob,b1,b2,keep _ _ b3 (by rw[b4];nofun) (fun xs n z=>by rw[b6]at z;cases z),b4,b5,b6⟩
  obtain⟨f,fd,h1,_,h3,h4⟩:=hF base kb nb ct pt TB
  rw[hmg]at h1
  cases h1
  exact⟨fd,h3,h4⟩) hlen (fun H hH hT=>e5 pt _ xs H hH fun x hx=>hT _ (List.mem_map_of_mem hx))) fun r s' hq=>?_)
 ·obtain⟨x,hx,rfl⟩:=List.mem_map.mp hb
  obtain⟨a,o,fd,t1,t2,t3,t4,t5,t6⟩:=tab x hx
  exact⟨t6.2,t6.isCodeTable⟩
 ·obtain⟨⟨p,its,n,rfl,hp,hi⟩,h2,h3,h4⟩:=hq
  refine⟨.inl ⟨.ref p,.list (ans.map .int),[p],rfl,fun _=>rfl,.list hp rfl rfl (by simpa using mm hi),?_,fun h=>nomatch h⟩,h2,h3,h4⟩
  refine (PySem.W.OpenSpec.post_iff said hw _ _).mpr ?_
  rw[e4]
theorem vC {K:PySem.W.Frag}{h base:Heap}{mg:Str->Option Value}{x:Str}{st:Stmt}{f c c' T T':Addr}{oc oc2:Value}{od od2 an:Option Addr}{osl osl2:Array (Option Value)}{kV doc pm ct:Value}{vs:Array Value}(kb:K.In base)(X:K.In h)(G:h.Ns mainGlobals mg)(hc:dk K mg x c)(hh:PySem.W.CodeHd base c T)
  (a:PySem.W.nsIn K mainGlobals x=some (some (.ref f)))(l:K.lookup f=some ⟨oc,od,.func (PySem.W.fnOf x x (cZ st) (b8 st) (ai st) .none kV doc pm an (.ref c') ct),osl⟩)(m:K.lookup c'=some ⟨oc2,od2,.fields vs,osl2⟩)(v:vs[11]?=some (.ref T')):T=T':=by
 have e1:=hc f _ (PySem.W.mg_of X G a) l _ rfl
 have e1:Value.ref c'=.ref c:=e1
 cases e1
 obtain⟨o,vs',_,_,_,_,_,_,_,h1,_,h3,h4,_⟩:=hh
 have h5:=kb _ _ m
 rw[h1]at h5
 cases h5
 have h3:Data.fields vs=Data.fields vs':=h3
 cases h3
 rw[v]at h4
 cases h4
 rfl
theorem ye {K:PySem.W.Frag}{h base:Heap}{mg:Str->Option Value}{x y:Str}{st su:Stmt}{f c c' T T' g d d' U U':Addr}{oc oc2 pc pc2:Value}{od od2 an pd pd2 bn:Option Addr}{osl osl2 psl psl2:Array (Option Value)}{kV doc pm ct lV eoc qm du:Value}{vs us:Array Value}(kb:K.In base)(X:K.In h)(G:h.Ns mainGlobals mg)(hc:dk K mg x c)(hh:PySem.W.CodeHd base c T)(hd:dk K mg y d)(hi:PySem.W.CodeHd base d U)
  (a:PySem.W.nsIn K mainGlobals x=some (some (.ref f)))(l:K.lookup f=some ⟨oc,od,.func (PySem.W.fnOf x x (cZ st) (b8 st) (ai st) .none kV doc pm an (.ref c') ct),osl⟩)(m:K.lookup c'=some ⟨oc2,od2,.fields vs,osl2⟩)(v:vs[11]?=some (.ref T'))
  (b:PySem.W.nsIn K mainGlobals y=some (some (.ref g)))(k:K.lookup g=some ⟨pc,pd,.func (PySem.W.fnOf y y (cZ su) (b8 su) (ai su) .none lV eoc qm bn (.ref d') du),psl⟩)(n:K.lookup d'=some ⟨pc2,pd2,.fields us,psl2⟩)(w:us[11]?=some (.ref U'))(ne:T'≠U'):T≠U:=by
 rw[vC kb X G hc hh a l m v,vC kb X G hd hi b k n w]
 exact ne
def top (i:Nat):Stmt:=PySem.Challenge.pw_reasonhall_s05_reason.main.body.getD i (.Pass ⟨0,0,0,0⟩)
abbrev g7:Stmt:=top 12
abbrev jE:Stmt:=top 13
abbrev gC:Stmt:=top 14
abbrev iC:Stmt:=top 15
abbrev ic:Stmt:=top 16
abbrev kM:Stmt:=top 17
abbrev iP:Stmt:=top 18
abbrev gw:Stmt:=top 19
abbrev gm:Stmt:=top 20
abbrev jA:Stmt:=top 22
abbrev iO:Stmt:=top 23
abbrev fe:Stmt:=top 24
abbrev lJ:Stmt:=top 25
abbrev db:Stmt:=top 31
abbrev eG:Stmt:=top 32
abbrev eX:Stmt:=top 47
abbrev dS:Stmt:=top 48
abbrev fH:Stmt:=top 49
abbrev g0:Stmt:=top 50
abbrev dJ:Stmt:=top 51
abbrev iJ:Stmt:=top 52
abbrev gY:Stmt:=top 53
abbrev fw:Stmt:=top 54
abbrev fu:Stmt:=top 55
abbrev gZ:Stmt:=top 56
abbrev hO:Stmt:=top 57
abbrev dX:Stmt:=top 58
abbrev cX:Stmt:=top 59
abbrev df:Stmt:=top 60
abbrev bT:Stmt:=top 61
abbrev iK:Stmt:=top 62
abbrev c7:Stmt:=top 64
abbrev fW:Stmt:=top 65
abbrev fU:Stmt:=top 66
abbrev fP:Stmt:=top 67
abbrev bV:Stmt:=top 68
abbrev fD:Stmt:=top 70
abbrev gt:Stmt:=top 71
abbrev gk:Stmt:=top 72
abbrev j8:Stmt:=top 73
abbrev dn:Stmt:=top 74
abbrev de:Stmt:=top 75
abbrev ef:Stmt:=top 76
abbrev eA:Stmt:=top 77
abbrev dL:Stmt:=top 78
abbrev eC:Stmt:=top 79
abbrev fT:Stmt:=top 80
abbrev gE:Stmt:=top 81
abbrev eD:Stmt:=top 82
abbrev gv:Stmt:=top 84
abbrev cW:Stmt:=top 85
abbrev iH:Stmt:=top 86
abbrev dU:Stmt:=top 88
abbrev hJ:Stmt:=top 89
abbrev gn:Stmt:=top 90
abbrev ft:Stmt:=top 97
abbrev dW:Stmt:=top 98
abbrev lN:Stmt:=top 99
abbrev lR:Stmt:=i4 (top 10) 0
abbrev lT:Stmt:=i4 (top 11) 0
abbrev pX:Stmt:=i4 (top 30) 0
abbrev nv:Stmt:=i4 (top 45) 0
abbrev pH:Stmt:=i4 (top 46) 0
structure Adr where
 Clause:Addr
 Weight:Addr
 Step:Addr
 Draft:Addr
 Case:Addr
structure Txt (K:PySem.W.Frag)(mg:Str->Option Value)(A:Adr):Prop where
 c_LINE_FEED:GV mg "LINE_FEED" (.int 10)
 c_LETTERS:GV mg "LETTERS" (.str "abcdefghijklmnopqrstuvwxyz")
 c_NAME_SIGNS:GV mg "NAME_SIGNS" (.str "abcdefghijklmnopqrstuvwxyz0123456789-")
 c_LINE_SIGNS:GV mg "LINE_SIGNS" (.str "abcdefghijklmnopqrstuvwxyz0123456789- ~:,=>")
 c_NO_SIGN:GV mg "NO_SIGN" (.str "?")
 c_OPPOSITE:GV mg "OPPOSITE" (.str "~")
 c_MOST_NAME_SIGNS:GV mg "MOST_NAME_SIGNS" (.int 15)
 c_MOST_BODY:GV mg "MOST_BODY" (.int 6)
 c_BODILESS_WORDS:GV mg "BODILESS_WORDS" (.int 4)
 c_RULE_NAME:GV mg "RULE_NAME" (.int 0)
 c_LAW_HEAD:GV mg "LAW_HEAD" (.int 1)
 c_RULE_HEAD:GV mg "RULE_HEAD" (.int 2)
 c_MOST_LAWS:GV mg "MOST_LAWS" (.int 64)
 c_MOST_RULES:GV mg "MOST_RULES" (.int 10)
 c_MOST_ATOMS:GV mg "MOST_ATOMS" (.int 64)
 c_NO_FAULT:GV mg "NO_FAULT" (.int 0)
 c_NO_LINE:GV mg "NO_LINE" (.int 1)
 c_NAME_AGAIN:GV mg "NAME_AGAIN" (.int 2)
 c_CLAUSE_AGAIN:GV mg "CLAUSE_AGAIN" (.int 3)
 c_TOO_MANY:GV mg "TOO_MANY" (.int 4)
 c_NO_RULES_NAME:GV mg "NO_RULES_NAME" (.int 5)
 c_CIRCLE:GV mg "CIRCLE" (.int 6)
 c_LAWS_CLASH:GV mg "LAWS_CLASH" (.int 7)
 c_MOST_BYTES:GV mg "MOST_BYTES" (.int 8192)
 c_TAKEN:GV mg "TAKEN" (.int 0)
 c_OUT_OF_RANGE:GV mg "OUT_OF_RANGE" (.int (-1))
 c_NONE_THERE:GV mg "NONE_THERE" (.int (-3))
 c_NO_CASE:GV mg "NO_CASE" (.int (-6))
 b_all:mg "all"=none
 b_any:mg "any"=none
 b_enumerate:mg "enumerate"=none
 b_len:mg "len"=none
 b_list:mg "list"=none
 b_ord:mg "ord"=none
 b_range:mg "range"=none
 b_set:mg "set"=none
 b_sorted:mg "sorted"=none
 b_tuple:mg "tuple"=none
 cl_Clause:Cls K A.Clause
 k_Clause:ClassAt K mg "Clause" lR A.Clause ["self","name","body","head"]
 n_Clause_name:NoAttr K A.Clause "name"
 n_Clause_body:NoAttr K A.Clause "body"
 n_Clause_head:NoAttr K A.Clause "head"
 cl_Weight:Cls K A.Weight
 k_Weight:ClassAt K mg "Weight" lT A.Weight ["self","heavier","lighter"]
 n_Weight_heavier:NoAttr K A.Weight "heavier"
 n_Weight_lighter:NoAttr K A.Weight "lighter"
 cl_Step:Cls K A.Step
 k_Step:ClassAt K mg "Step" pX A.Step ["self","kind","number","body","literal"]
 n_Step_kind:NoAttr K A.Step "kind"
 n_Step_number:NoAttr K A.Step "number"
 n_Step_body:NoAttr K A.Step "body"
 n_Step_literal:NoAttr K A.Step "literal"
 cl_Draft:Cls K A.Draft
 k_Draft:ClassAt K mg "Draft" nv A.Draft ["self"]
 n_Draft_laws:NoAttr K A.Draft "laws"
 n_Draft_rules:NoAttr K A.Draft "rules"
 n_Draft_atoms:NoAttr K A.Draft "atoms"
 n_Draft_outweighed:NoAttr K A.Draft "outweighed"
 cl_Case:Cls K A.Case
 k_Case:ClassAt K mg "Case" pH A.Case ["self","atoms","laws","rules","names","outweighed"]
 n_Case_atoms:NoAttr K A.Case "atoms"
 n_Case_laws:NoAttr K A.Case "laws"
 n_Case_rules:NoAttr K A.Case "rules"
 n_Case_names:NoAttr K A.Case "names"
 n_Case_outweighed:NoAttr K A.Case "outweighed"
 d_sign_table:DefAt K mg "sign_table" g7 []
 d_line_end:DefAt K mg "line_end" jE ["t","place"]
 d_words_of:DefAt K mg "words_of" gC ["line","table"]
 d_is_name:DefAt K mg "is_name" iC ["word"]
 d_is_literal:DefAt K mg "is_literal" ic ["word"]
 d_atom_of:DefAt K mg "atom_of" kM ["literal"]
 d_read_body:DefAt K mg "read_body" iP ["words"]
 d_read_clause:DefAt K mg "read_clause" gw ["words","arrow"]
 d_read_weight:DefAt K mg "read_weight" gm ["words"]
 d_has_rule:DefAt K mg "has_rule" jA ["rules","number"]
 d_is_within:DefAt K mg "is_within" iO ["part","rules"]
 d_members_of:DefAt K mg "members_of" fe ["case","rules"]
 d_set_of:DefAt K mg "set_of" lJ ["numbers"]
 d_fresh_literals:DefAt K mg "fresh_literals" db ["steps","rounds"]
 d_literal_rounds:DefAt K mg "literal_rounds" eG ["steps"]
 d_stands_before:DefAt K mg "stands_before" eX ["clause","kin"]
 d_clause_atoms:DefAt K mg "clause_atoms" dS ["clause"]
 d_clause_fault:DefAt K mg "clause_fault" fH ["draft","clause","kin","most","atoms"]
 d_keep_atoms:DefAt K mg "keep_atoms" g0 ["draft","atoms"]
 d_laws_clash:DefAt K mg "laws_clash" dJ ["laws"]
 d_enter_law:DefAt K mg "enter_law" iJ ["draft","law"]
 d_enter_rule:DefAt K mg "enter_rule" gY ["draft","rule"]
 d_weight_fault:DefAt K mg "weight_fault" fw ["draft","weight"]
 d_enter_weight:DefAt K mg "enter_weight" fu ["draft","weight"]
 d_enter_line:DefAt K mg "enter_line" gZ ["draft","words"]
 d_enter_text:DefAt K mg "enter_text" hO ["draft","t"]
 d_literal_numbers:DefAt K mg "literal_numbers" dX ["atoms"]
 d_numbered_clause:DefAt K mg "numbered_clause" cX ["clause","numbers"]
 d_numbered_rules:DefAt K mg "numbered_rules" df ["names","order"]
 d_numbered_case:DefAt K mg "numbered_case" bT ["draft"]
 d_read_case:DefAt K mg "read_case" iK ["t"]
 d_possible_steps:DefAt K mg "possible_steps" c7 ["case","rules"]
 d_all_below:DefAt K mg "all_below" fW ["literals","rounds","bound"]
 d_told_step:DefAt K mg "told_step" fU ["steps","rounds","literal"]
 d_needed_steps:DefAt K mg "needed_steps" fP ["steps","rounds","literal"]
 d_told_derivation:DefAt K mg "told_derivation" bV ["steps","rounds","literal"]
 d_literal_bits:DefAt K mg "literal_bits" fD ["literals"]
 d_has_literal:DefAt K mg "has_literal" gt ["reached","literal"]
 d_clause_bits:DefAt K mg "clause_bits" gk ["clause"]
 d_gone_on:DefAt K mg "gone_on" j8 ["reached","clauses"]
 d_followers:DefAt K mg "followers" dn ["case"]
 d_opposites_meet:DefAt K mg "opposites_meet" de ["reached","atoms"]
 d_clash_table:DefAt K mg "clash_table" ef ["case","following"]
 d_strikers_of:DefAt K mg "strikers_of" eA ["number","outweighed","clashing"]
 d_all_strikers:DefAt K mg "all_strikers" dL ["case","following"]
 d_has_striker:DefAt K mg "has_striker" eC ["rules","own_strikers"]
 d_struck_by:DefAt K mg "struck_by" fT ["rules","strikers"]
 d_all_meet:DefAt K mg "all_meet" gE ["own_strikers","struck"]
 d_defended_by:DefAt K mg "defended_by" eD ["rules","strikers"]
 d_least_ranks:DefAt K mg "least_ranks" gv ["rules","strikers"]
 d_rules_with_rank:DefAt K mg "rules_with_rank" cW ["ranks"]
 d_ground_of:DefAt K mg "ground_of" iH ["strikers"]
 d_sets_for:DefAt K mg "sets_for" dU ["case","literal","following","ground"]
 d_told_steps:DefAt K mg "told_steps" hJ ["case","rules","literal"]
 d_told_reason:DefAt K mg "told_reason" gn ["case","literal"]
 d_text_refusal:DefAt K mg "text_refusal" ft ["t","case"]
 d_literal_refusal:DefAt K mg "literal_refusal" dW ["literal","t","case"]
 d_reason:DefAt K mg "reason" lN ["literal","t"]
theorem sc_sign_table:FnScope ["table","sign"] [] (ai g7):=⟨rfl,rfl,rfl,by decide +kernel,rfl,by decide +kernel,by decide +kernel⟩
theorem sc_line_end:FnScope ["t","place","end"] ["t","place"] (ai jE):=⟨rfl,rfl,rfl,by decide +kernel,rfl,by decide +kernel,by decide +kernel⟩
theorem sc_words_of:FnScope ["line","table","signs","byte"] ["line","table"] (ai gC):=⟨rfl,rfl,rfl,by decide +kernel,rfl,by decide +kernel,by decide +kernel⟩
theorem sc_is_name:FnScope ["word","sign"] ["word"] (ai iC):=⟨rfl,rfl,rfl,by decide +kernel,rfl,by decide +kernel,by decide +kernel⟩
theorem oZ:FnScope ["word"] ["word"] (ai ic):=⟨rfl,rfl,rfl,by decide +kernel,rfl,by decide +kernel,by decide +kernel⟩
theorem tG:FnScope ["literal"] ["literal"] (ai kM):=⟨rfl,rfl,rfl,by decide +kernel,rfl,by decide +kernel,by decide +kernel⟩
theorem sc_read_body:FnScope ["words","literals","place","word","literal"] ["words"] (ai iP):=⟨rfl,rfl,rfl,by decide +kernel,rfl,by decide +kernel,by decide +kernel⟩
theorem sc_read_clause:FnScope ["words","arrow","label","body"] ["words","arrow"] (ai gw):=⟨rfl,rfl,rfl,by decide +kernel,rfl,by decide +kernel,by decide +kernel⟩
theorem sc_read_weight:FnScope ["words"] ["words"] (ai gm):=⟨rfl,rfl,rfl,by decide +kernel,rfl,by decide +kernel,by decide +kernel⟩
theorem sc_has_rule:FnScope ["rules","number"] ["rules","number"] (ai jA):=⟨rfl,rfl,rfl,by decide +kernel,rfl,by decide +kernel,by decide +kernel⟩
theorem sc_is_within:FnScope ["part","rules"] ["part","rules"] (ai iO):=⟨rfl,rfl,rfl,by decide +kernel,rfl,by decide +kernel,by decide +kernel⟩
theorem sc_members_of:FnScope ["case","rules","number"] ["case","rules"] (ai fe):=⟨rfl,rfl,rfl,by decide +kernel,rfl,by decide +kernel,by decide +kernel⟩
theorem sc_set_of:FnScope ["numbers","rules","number"] ["numbers"] (ai lJ):=⟨rfl,rfl,rfl,by decide +kernel,rfl,by decide +kernel,by decide +kernel⟩
theorem sc_fresh_literals:FnScope ["steps","rounds","fresh","step","needed"] ["steps","rounds"] (ai db):=⟨rfl,rfl,rfl,by decide +kernel,rfl,by decide +kernel,by decide +kernel⟩
theorem sc_literal_rounds:FnScope ["steps","rounds","latest","fresh","literal"] ["steps"] (ai eG):=⟨rfl,rfl,rfl,by decide +kernel,rfl,by decide +kernel,by decide +kernel⟩
theorem sc_stands_before:FnScope ["clause","kin","other"] ["clause","kin"] (ai eX):=⟨rfl,rfl,rfl,by decide +kernel,rfl,by decide +kernel,by decide +kernel⟩
theorem sc_clause_atoms:FnScope ["clause","literal"] ["clause"] (ai dS):=⟨rfl,rfl,rfl,by decide +kernel,rfl,by decide +kernel,by decide +kernel⟩
theorem sc_clause_fault:FnScope ["draft","clause","kin","most","atoms"] ["draft","clause","kin","most","atoms"] (ai fH):=⟨rfl,rfl,rfl,by decide +kernel,rfl,by decide +kernel,by decide +kernel⟩
theorem sc_keep_atoms:FnScope ["draft","atoms","atom"] ["draft","atoms"] (ai g0):=⟨rfl,rfl,rfl,by decide +kernel,rfl,by decide +kernel,by decide +kernel⟩
theorem sc_laws_clash:FnScope ["laws","rounds","law","literal"] ["laws"] (ai dJ):=⟨rfl,rfl,rfl,by decide +kernel,rfl,by decide +kernel,by decide +kernel⟩
theorem sc_enter_law:FnScope ["draft","law","atoms","fault"] ["draft","law"] (ai iJ):=⟨rfl,rfl,rfl,by decide +kernel,rfl,by decide +kernel,by decide +kernel⟩
theorem sc_enter_rule:FnScope ["draft","rule","atoms","fault"] ["draft","rule"] (ai gY):=⟨rfl,rfl,rfl,by decide +kernel,rfl,by decide +kernel,by decide +kernel⟩
theorem sc_weight_fault:FnScope ["draft","weight"] ["draft","weight"] (ai fw):=⟨rfl,rfl,rfl,by decide +kernel,rfl,by decide +kernel,by decide +kernel⟩
theorem sc_enter_weight:FnScope ["draft","weight","fault","below","name","other"] ["draft","weight"] (ai fu):=⟨rfl,rfl,rfl,by decide +kernel,rfl,by decide +kernel,by decide +kernel⟩
theorem sc_enter_line:FnScope ["draft","words"] ["draft","words"] (ai gZ):=⟨rfl,rfl,rfl,by decide +kernel,rfl,by decide +kernel,by decide +kernel⟩
theorem sc_enter_text:FnScope ["draft","t","table","place","end","fault"] ["draft","t"] (ai hO):=⟨rfl,rfl,rfl,by decide +kernel,rfl,by decide +kernel,by decide +kernel⟩
theorem sc_literal_numbers:FnScope ["atoms","numbers","place","atom"] ["atoms"] (ai dX):=⟨rfl,rfl,rfl,by decide +kernel,rfl,by decide +kernel,by decide +kernel⟩
theorem sc_numbered_clause:FnScope ["clause","numbers","literal"] ["clause","numbers"] (ai cX):=⟨rfl,rfl,rfl,by decide +kernel,rfl,by decide +kernel,by decide +kernel⟩
theorem sc_numbered_rules:FnScope ["names","order","name"] ["names","order"] (ai df):=⟨rfl,rfl,rfl,by decide +kernel,rfl,by decide +kernel,by decide +kernel⟩
theorem sc_numbered_case:FnScope ["draft","atoms","numbers","laws","name","order","rules","names","outweighed"] ["draft"] (ai bT):=⟨rfl,rfl,rfl,by decide +kernel,rfl,by decide +kernel,by decide +kernel⟩
theorem sc_read_case:FnScope ["t","draft"] ["t"] (ai iK):=⟨rfl,rfl,rfl,by decide +kernel,rfl,by decide +kernel,by decide +kernel⟩
theorem sc_possible_steps:FnScope ["case","rules","members","steps","number","law"] ["case","rules"] (ai c7):=⟨rfl,rfl,rfl,by decide +kernel,rfl,by decide +kernel,by decide +kernel⟩
theorem sc_all_below:FnScope ["literals","rounds","bound","literal"] ["literals","rounds","bound"] (ai fW):=⟨rfl,rfl,rfl,by decide +kernel,rfl,by decide +kernel,by decide +kernel⟩
theorem sc_told_step:FnScope ["steps","rounds","literal","own","fitting","step"] ["steps","rounds","literal"] (ai fU):=⟨rfl,rfl,rfl,by decide +kernel,rfl,by decide +kernel,by decide +kernel⟩
theorem sc_needed_steps:FnScope ["steps","rounds","literal","told","waiting","needed","step"] ["steps","rounds","literal"] (ai fP):=⟨rfl,rfl,rfl,by decide +kernel,rfl,by decide +kernel,by decide +kernel⟩
theorem sc_told_derivation:FnScope ["steps","rounds","literal","told","row","needed"] ["steps","rounds","literal"] (ai bV):=⟨rfl,rfl,rfl,by decide +kernel,rfl,by decide +kernel,by decide +kernel⟩
theorem sc_literal_bits:FnScope ["literals","bits","literal"] ["literals"] (ai fD):=⟨rfl,rfl,rfl,by decide +kernel,rfl,by decide +kernel,by decide +kernel⟩
theorem sc_has_literal:FnScope ["reached","literal"] ["reached","literal"] (ai gt):=⟨rfl,rfl,rfl,by decide +kernel,rfl,by decide +kernel,by decide +kernel⟩
theorem sc_clause_bits:FnScope ["clause"] ["clause"] (ai gk):=⟨rfl,rfl,rfl,by decide +kernel,rfl,by decide +kernel,by decide +kernel⟩
theorem sc_gone_on:FnScope ["reached","clauses","before","body","head"] ["reached","clauses"] (ai j8):=⟨rfl,rfl,rfl,by decide +kernel,rfl,by decide +kernel,by decide +kernel⟩
theorem sc_followers:FnScope ["case","laws","law","heads","rule","table","rules","members","rest","given","number"] ["case"] (ai dn):=⟨rfl,rfl,rfl,by decide +kernel,rfl,by decide +kernel,by decide +kernel⟩
theorem sc_opposites_meet:FnScope ["reached","atoms","atom"] ["reached","atoms"] (ai de):=⟨rfl,rfl,rfl,by decide +kernel,rfl,by decide +kernel,by decide +kernel⟩
theorem sc_clash_table:FnScope ["case","following","reached"] ["case","following"] (ai ef):=⟨rfl,rfl,rfl,by decide +kernel,rfl,by decide +kernel,by decide +kernel⟩
theorem sc_strikers_of:FnScope ["number","outweighed","clashing","own","found","rules","least"] ["number","outweighed","clashing"] (ai eA):=⟨rfl,rfl,rfl,by decide +kernel,rfl,by decide +kernel,by decide +kernel⟩
theorem sc_all_strikers:FnScope ["case","following","clashing","number","outweighed"] ["case","following"] (ai dL):=⟨rfl,rfl,rfl,by decide +kernel,rfl,by decide +kernel,by decide +kernel⟩
theorem sc_has_striker:FnScope ["rules","own_strikers","one"] ["rules","own_strikers"] (ai eC):=⟨rfl,rfl,rfl,by decide +kernel,rfl,by decide +kernel,by decide +kernel⟩
theorem sc_struck_by:FnScope ["rules","strikers","number","own"] ["rules","strikers"] (ai fT):=⟨rfl,rfl,rfl,by decide +kernel,rfl,by decide +kernel,by decide +kernel⟩
theorem sc_all_meet:FnScope ["own_strikers","struck","one"] ["own_strikers","struck"] (ai gE):=⟨rfl,rfl,rfl,by decide +kernel,rfl,by decide +kernel,by decide +kernel⟩
theorem sc_defended_by:FnScope ["rules","strikers","struck","number","own"] ["rules","strikers"] (ai eD):=⟨rfl,rfl,rfl,by decide +kernel,rfl,by decide +kernel,by decide +kernel⟩
theorem sc_least_ranks:FnScope ["rules","strikers","ranks","latest","before","reached","number"] ["rules","strikers"] (ai gv):=⟨rfl,rfl,rfl,by decide +kernel,rfl,by decide +kernel,by decide +kernel⟩
theorem sc_rules_with_rank:FnScope ["ranks","number","rank"] ["ranks"] (ai cW):=⟨rfl,rfl,rfl,by decide +kernel,rfl,by decide +kernel,by decide +kernel⟩
theorem sc_ground_of:FnScope ["strikers","everything"] ["strikers"] (ai iH):=⟨rfl,rfl,rfl,by decide +kernel,rfl,by decide +kernel,by decide +kernel⟩
theorem sc_sets_for:FnScope ["case","literal","following","ground","found","rules","reached"] ["case","literal","following","ground"] (ai dU):=⟨rfl,rfl,rfl,by decide +kernel,rfl,by decide +kernel,by decide +kernel⟩
theorem sc_told_steps:FnScope ["case","rules","literal","steps"] ["case","rules","literal"] (ai hJ):=⟨rfl,rfl,rfl,by decide +kernel,rfl,by decide +kernel,by decide +kernel⟩
theorem sc_told_reason:FnScope ["case","literal","following","strikers","rules","ranks"] ["case","literal"] (ai gn):=⟨rfl,rfl,rfl,by decide +kernel,rfl,by decide +kernel,by decide +kernel⟩
theorem sc_text_refusal:FnScope ["t","case"] ["t","case"] (ai ft):=⟨rfl,rfl,rfl,by decide +kernel,rfl,by decide +kernel,by decide +kernel⟩
theorem sc_literal_refusal:FnScope ["literal","t","case","refusal"] ["literal","t","case"] (ai dW):=⟨rfl,rfl,rfl,by decide +kernel,rfl,by decide +kernel,by decide +kernel⟩
theorem sc_reason:FnScope ["literal","t","case","refusal","told"] ["literal","t"] (ai lN):=⟨rfl,rfl,rfl,by decide +kernel,rfl,by decide +kernel,by decide +kernel⟩
theorem uM:FnScope ["self","name","body","head"] ["self","name","body","head"] (ai lR):=⟨rfl,rfl,rfl,by decide +kernel,rfl,by decide +kernel,by decide +kernel⟩
theorem vH:FnScope ["self","heavier","lighter"] ["self","heavier","lighter"] (ai lT):=⟨rfl,rfl,rfl,by decide +kernel,rfl,by decide +kernel,by decide +kernel⟩
theorem yi:FnScope ["self","kind","number","body","literal"] ["self","kind","number","body","literal"] (ai pX):=⟨rfl,rfl,rfl,by decide +kernel,rfl,by decide +kernel,by decide +kernel⟩
theorem wZ:FnScope ["self"] ["self"] (ai nv):=⟨rfl,rfl,rfl,by decide +kernel,rfl,by decide +kernel,by decide +kernel⟩
theorem yg:FnScope ["self","atoms","laws","rules","names","outweighed"] ["self","atoms","laws","rules","names","outweighed"] (ai pH):=⟨rfl,rfl,rfl,by decide +kernel,rfl,by decide +kernel,by decide +kernel⟩
section
variable {P:Program}{w:World}{K:PySem.W.Frag}{mg:Str->Option Value}{base:Heap}{A:Adr}
def zd:Sp:=fun vs H Q _=>∃b:B,vs=[.str (st b)]/\b.length<=LB/\∀H',Same H H'->Q (.bl (Mo.isName b)) H'
theorem jz (T:Txt K mg A):Cal P w K mg base "is_name" ["word"] 1 zd:=by
 have nd:=sc_is_name.nd
 refine T.d_is_name.ok sc_is_name (fun vs H Q E h=>?_) (fun f cdv A0 outer s H vs Q E hr h=>?_)
 ·obtain⟨b,rfl,_⟩:=h
  rfl
 ·obtain⟨b,rfl,hb,k⟩:=h
  refine⟨_,(ag (aV (PW.pt (dM (aJ cM (aI jR rfl T.b_len PySem.boot_len (ab (pv 0) ah)) au (aK _)) (dM (aJ jB (aI jR rfl T.b_len PySem.boot_len (ab (pv 0) ah)) (aQ rfl T.c_MOST_NAME_SIGNS) (aK _)) (di (aJ o0 (bH zi (pv 0) au (fun _ _=>rfl)) (aQ rfl T.c_LETTERS) (by with_unfolding_all rfl)))))) (aj (al mS)) aF) (aj (al (aI (mK rfl) rfl T.b_all boot_all (ab (cq rfl nd (uS (pv 0)) (aU (N:=["word","sign"]) (sc:=ai iC) (own:=[("sign",1)]) (by decide +kernel)) (fun _ _ _ _ _=>(aw (i:=1) nd rfl lc_)) (fun _ _ _ _ _=>bj) (fun _ _ _ _ _=>(fN uf (pv 1) (aQ rfl T.c_NAME_SIGNS) (by with_unfolding_all rfl)))) ah))))),?_⟩
  have hl:(st b).length<=sizeLine:=by rw[bt];exact Nat.le_trans hb sN
  refine⟨_,rfl,_,rfl,hl,rfl,_,rfl,aW (fun h=>?_) (fun h=>?_)⟩
  ·
   have h1:=of_decide_eq_true h
   have h0:b.length=0:=by
    have:=V.int.inj h1
    rw[bt]at this
    omega
   have:Mo.isName b=false:=by rw[ca,h0];rfl
   rw[this]at k
   exact k _ (Same.refl _)
  have h0:¬b.length=0:=fun z=>h (decide_eq_true (by rw[bt,z];rfl))
  refine⟨_,rfl,_,rfl,hl,_,_,rfl,rfl,_,rfl,aW (fun h=>?_) (fun h=>?_)⟩
  ·have h1:(15:Int)<((st b).length:Int):=of_decide_eq_true h
   rw[bt]at h1
   have:Mo.isName b=false:=by
    rw[ca]
    have:decide (b.length<=15)=false:=decide_eq_false (by omega)
    rw[this]
    simp
   rw[this]at k
   exact k _ (Same.refl _)
  have h15:b.length<=15:=by
   have:¬(15:Int)<((st b).length:Int):=fun z=>h (decide_eq_true z)
   rw[bt]at this
   omega
  obtain⟨c,r,rfl⟩:∃c r,b=c :: r:=by
   cases b with
   |nil=>exact absurd rfl h0
   |cons c r=>exact⟨c,r,rfl⟩
  refine⟨_,rfl,_,_,c,rfl,rfl,hl,(by rw[e7];exact bu (j:=0) rfl),c,_,rfl,rfl,_,rfl,aW (fun h=>?_) (fun h=>?_)⟩
  ·have h1:decide (c∈eF)=false:=by
    rw[<-e7 eF,<-my]
    simpa using h
   rw[iG]at h1
   have:Mo.isName (c :: r)=false:=by
    rw[ca]
    show (_&&(_&&(Mo.isSmall c&&_)))=false
    rw[h1]
    simp
   rw[this]at k
   exact k _ (Same.refl _)
  have hc:Mo.isSmall c=true:=by
   rw[<-iG,<-e7 eF,<-my]
   simpa using h
  refine⟨_,rfl,_,rfl,fun D hD=>cy ox ((c :: r).map fun z=>V.bl (dh z)) (List.length_map _) (dQ hb) hD (fun _ _=>trivial) ?_ bB br ?_⟩
  ·rintro i x y H2 ⟨z,e,rfl⟩ hy sm R hR
   rw[List.getElem?_map,e]at hy
   cases hy
   refine⟨rfl,rfl,_,rfl,z,_,rfl,rfl,?_⟩
   rw[wI,e7,kF]
   exact hR _ (Same.refl _)
  ·intro H2 sm h2
   refine⟨D,(c :: r).map dh,rfl,?_,?_⟩
   ·rw[List.map_map]
    exact SqL.of h2
   have:Mo.isName (c :: r)=((c :: r).map dh).all id:=by
    rw[ca,List.all_map]
    have h1:decide (1<=(c :: r).length)=true:=decide_eq_true (by simp)
    have h2:decide ((c :: r).length<=15)=true:=decide_eq_true h15
    have h3:Mo.isSmall ((c :: r).headD 0)=true:=hc
    rw[h1,h2,h3]
    rfl
   rw[this]at k
   exact k _ sm
end
theorem jb:(Str.ofString "~")=st [126]:=c6 _ _ (by decide +kernel)
section
variable {P:Program}{w:World}{K:PySem.W.Frag}{mg:Str->Option Value}{base:Heap}{A:Adr}
def vc:Sp:=fun vs H Q _=>∃b:B,vs=[.str (st b)]/\b.length<=LB/\∀H',Same H H'->Q (.bl (Mo.litOf b).isSome) H'
theorem jH (T:Txt K mg A):Cal P w K mg base "is_literal" ["word"] 2 vc:=by
 have C_is_name:=jz (P:=P) (w:=w) (base:=base) T
 refine T.d_is_literal.ok oZ (fun vs H Q E h=>?_) (fun f cdv A0 outer s H vs Q E hr h=>?_)
 ·obtain⟨b,rfl,_⟩:=h
  rfl
 ·obtain⟨b,rfl,hb,k⟩:=h
  refine⟨_,(ag (aV (bE (kP F.slot_str_startswith F.type_str_startswith jN (pv 0) (aQ rfl T.c_OPPOSITE))) (aj (al (ao C_is_name (hr.mono (by decide)) rfl (ab (eE jW (pv 0) (dN au) i5) ah)))) aF) (aj (al (ao C_is_name (hr.mono (by decide)) rfl (ab (pv 0) ah))))),?_⟩
  refine⟨_,rfl,⟨_,rfl⟩,_,_,rfl,rfl,_,rfl,?_⟩
  rw[jb,l9]
  rw[uw]at k
  refine aW (fun h=>?_) (fun h=>?_)
  ·have h:=of_decide_eq_true h
   rw[if_pos h]at k
   refine⟨_,rfl,_,rfl,_,rfl,(by rw[bt];exact dQ hb),b.tail,?_,?_,k⟩
   ·rw[qC]
    rfl
   ·rw[List.length_tail]
    omega
  ·have h:¬b.head?=some 126:=fun z=>h (decide_eq_true z)
   rw[if_neg h]at k
   exact⟨_,rfl,b,rfl,hb,k⟩
def zk:Sp:=fun vs H Q _=>∃b:B,vs=[.str (st b)]/\b.length<=LB/\Q (.str (st (pk b))) H
theorem uq (T:Txt K mg A):Cal P w K mg base "atom_of" ["literal"] 1 zk:=by
 refine T.d_atom_of.ok tG (fun vs H Q E h=>?_) (fun f cdv A0 outer s H vs Q E hr h=>?_)
 ·obtain⟨b,rfl,_⟩:=h
  rfl
 ·obtain⟨b,rfl,hb,k⟩:=h
  refine⟨_,(ag (aV (bE (kP F.slot_str_startswith F.type_str_startswith jN (pv 0) (aQ rfl T.c_OPPOSITE))) (aj (al (eE jW (pv 0) (dN au) i5))) aF) (aj (al (pv 0)))),?_⟩
  refine⟨_,rfl,⟨_,rfl⟩,_,_,rfl,rfl,_,rfl,?_⟩
  rw[jb,l9]
  unfold pk at k
  refine aW (fun h=>?_) (fun h=>?_)
  ·have h:=of_decide_eq_true h
   rw[if_pos h]at k
   refine⟨_,rfl,_,rfl,_,rfl,(by rw[bt];exact dQ hb),?_⟩
   rw[qC]
   exact k
  ·have h:¬b.head?=some 126:=fun z=>h (decide_eq_true z)
   rw[if_neg h]at k
   exact⟨_,rfl,k⟩
def vN (K:PySem.W.Frag):Sp:=fun vs H Q _=>∃(a:Addr)(t:B)(i:Nat),vs=[.ref a,.int i]/\SqL K H a (t.map fun c=>.int (c:Nat))/\t.length<=LB/\i<=t.length/\Q (.int (bd t i:Nat)) H
theorem rB (T:Txt K mg A):Cal P w K mg base "line_end" ["t","place"] 1 (vN K):=by
 have nd:=sc_line_end.nd
 refine T.d_line_end.ok sc_line_end (fun vs H Q E h=>?_) (fun f cdv A0 outer s H vs Q E hr h=>?_)
 ·obtain⟨a,t,i,rfl,_⟩:=h
  rfl
 ·obtain⟨a,t,i,rfl,hS,hl,hi,k⟩:=h
  refine⟨_,(ag (ap (i:=2) nd rfl lc_ (pv 1)) (ag (fE PassesOwn.never (PW.pt (eY (aJ k3 (pv 2) (aI aP rfl T.b_len PySem.boot_len (ab (pv 0) ah)) (aK _)) (eM (aJ eh (bH bf (pv 0) (pv 2) (fun _ _=>rfl)) (aQ rfl T.c_LINE_FEED) (aK _))))) (aj (ap (i:=2) nd rfl lc_ (aO iR (pv 2) au)))) (aj (al (pv 2))))),?_⟩
  refine⟨_,rfl,?_⟩
  refine gN (fun σ H'=>H'=H/\∃j:Nat,i<=j/\j<=t.length/\bd t j=bd t i/\σ=[some (.ref a),some (.int i),some (.int (j:Nat))])
   (fun σ _=>match σ with|[_,_,some (.int j)]=>t.length-j.toNat|_=>0) ⟨rfl,i,Nat.le_refl _,hi,rfl,rfl⟩ ?_
  ·rintro σ H' ⟨rfl,j,hij,hj,he,rfl⟩
   refine⟨_,rfl,_,rfl,a,_,rfl,.inl hS,_,_,rfl,rfl,_,rfl,?_⟩
   rw[List.length_map]
   refine aW (fun h=>?_) (fun h=>?_)
   ·have h:(j:Int)<(t.length:Int):=of_decide_eq_true h
    have hjt:j<t.length:=by omega
    have hx:t[j]?=some t[j]:=by simp[hjt]
    have hd:t.drop j=t[j] :: t.drop (j+1):=List.drop_eq_getElem_cons hjt
    refine⟨_,rfl,_,rfl,a,_,_,.int (t[j]:Nat),rfl,rfl,hS,bu (by rw[List.getElem?_map,hx];rfl),rfl,_,rfl,?_⟩
    have e1:(!decide (V.int (t[j]:Nat)=V.int 10))=(t[j] != 10):=by
     by_cases e:t[j]=10
     ·rw[e];rfl
     ·have:¬V.int (t[j]:Nat)=V.int 10:=fun z=>e (by have:=V.int.inj z;omega)
      rw[decide_eq_false this]
      simp[e]
    rw[e1]
    refine aW (fun h2=>?_) (fun h2=>?_)
    ·refine⟨_,gT,_,rfl,_,_,rfl,rfl,?_⟩
     refine⟨⟨rfl,j+1,by omega,hjt,?_,rfl⟩,?_⟩
     ·rw[<-he]
      unfold bd
      rw[hd,List.takeWhile_cons,if_pos h2,List.length_cons]
      omega
     ·show t.length-((j:Int)+1).toNat<t.length-(j:Int).toNat
      omega
    ·refine⟨_,rfl,?_⟩
     have:bd t i=j:=by
      rw[<-he]
      unfold bd
      rw[hd,List.takeWhile_cons,if_neg h2]
      rfl
     rw[this]at k
     exact k
   ·have h:¬(j:Int)<(t.length:Int):=fun z=>h (decide_eq_true z)
    have hjt:j=t.length:=by omega
    refine⟨_,rfl,?_⟩
    have:bd t i=j:=by
     rw[<-he]
     unfold bd
     rw[List.drop_of_length_le (by omega)]
     rfl
    rw[this]at k
    exact k
end
theorem wu:(Str.ofString "?")=st [63]:=c6 _ _ (by decide +kernel)
theorem v0:(Str.ofString " ")=st [32]:=c6 _ _ (by decide +kernel)
theorem qd:(Str.ofString "")=st []:=c6 _ _ (by decide +kernel)
section
variable {P:Program}{w:World}{K:PySem.W.Frag}{mg:Str->Option Value}{base:Heap}{A:Adr}
def x8:Sp:=fun vs H Q _=>vs=[]/\∀p H',Same H H'->H p=none->H' p=some (.dK dR)->Q (.ref p) H'
theorem oU (T:Txt K mg A):Cal P w K mg base "sign_table" [] 1 x8:=by
 have nd:=sc_sign_table.nd
 refine T.d_sign_table.ok sc_sign_table (fun vs H Q E h=>?_) (fun f cdv A0 outer s H vs Q E hr h=>?_)
 ·obtain⟨rfl,_⟩:=h
  rfl
 ·obtain⟨rfl,k⟩:=h
  have hu:=b9 hr
  refine⟨_,(ag (ap (i:=0) nd rfl lc_ da) (ag (bO PassesOwn.never rfl (uS (aQ rfl T.c_LINE_SIGNS)) (aw (i:=1) nd rfl lc_) (aj (dr hu (pv 0) (aI xt rfl T.b_ord boot_ord (ab (pv 1) ah)) (pv 1) rfl))) (aj (al (pv 0))))),?_⟩
  intro p hp
  rw[wJ]
  refine⟨_,rfl,cz ox (fun i σ H2=>Same H H2/\H2 p=some (.dK ((lSIGNS.take i).map sgn))/\∃v,σ=[some (.ref p),v]) ?_ (fun _ _ _ _ _=>trivial) ?_ ?_⟩
  ·exact⟨ak hp,af,none,rfl⟩
  ·rintro i x σ H2 hi ⟨c,e,rfl⟩ ⟨sm,hp2,v,rfl⟩
   have nm:¬c∈lSIGNS.take i:=by
    have ndp:lSIGNS.Nodup:=by decide +kernel
    intro z
    obtain⟨j,hj,ej⟩:=List.mem_iff_getElem.mp z
    rw[List.length_take]at hj
    rw[List.getElem_take]at ej
    have:=mH ndp (i:=j) (j:=i) (x:=c) (by rw[List.getElem?_eq_getElem (by omega),ej]) e
    omega
   refine⟨_,rfl,_,rfl,_,rfl,_,rfl,(by rw[bt];rfl),p,_,rfl,DPut.k (k:=Sum.inl (c:Int)) hp2 ?_,?_⟩
   ·rw[List.length_map,List.length_take]
    have:lSIGNS.length<sizeLine:=by decide
    omega
   ·refine⟨aN sm hp,?_,_,rfl⟩
    rw[af,fO _ (gd fun z=>nm (sgn_mem.mp z)),List.take_succ,e]
    simp[sgn]
  ·rintro σ H2 ⟨sm,hp2,v,rfl⟩
   exact⟨_,rfl,k p H2 sm hp hp2⟩
def xL (K:PySem.W.Frag):Sp:=fun vs H Q _=>∃(a d:Addr)(l:B),vs=[.ref a,.ref d]/\SqL K H a (l.map fun c=>.int (c:Nat))/\l.length<=LB/\H d=some (.dK dR)/\
 ∀p H',Same H H'->H p=none->H' p=some (.lst ((Mo.wordsOf (l.map fix)).map fun b=>V.str (st b)))->Q (.ref p) H'
theorem rR (T:Txt K mg A):Cal P w K mg base "words_of" ["line","table"] 1 (xL K):=by
 have nd:=sc_words_of.nd
 refine T.d_words_of.ok sc_words_of (fun vs H Q E h=>?_) (fun f cdv A0 outer s H vs Q E hr h=>?_)
 ·obtain⟨a,d,l,rfl,_⟩:=h
  rfl
 ·obtain⟨a,d,l,rfl,hS,hl,hd,k⟩:=h
  have hu:=b9 hr
  refine⟨_,(ag (dF rfl nd (i:=2) rfl rfl (eK rfl rfl rfl rfl) (be (pv 0)) (aU (N:=["line","table","signs","byte"]) (sc:=ai gC) (own:=[("byte",3)]) (by decide +kernel)) (fun _ _ _ _ _=>(aw (i:=3) nd rfl lc_)) (fun _ _ _ _ _=>bj) (fun _ _ _ _ _=>(qg hu (pv 1) (pv 3) (aQ rfl T.c_NO_SIGN) ⟨rfl,rfl,rfl,rfl⟩))) (aj (al (wK (yj d6 (pv 2)) d6)))),?_⟩
  refine⟨_,rfl,a,rfl,⟨_,hS⟩,fun D hD=>cy (aR (xs:=l.map fun c=>.int (c:Nat))) ((l.map fix).map fun c=>V.str (st [c])) (by simp) (by rw[List.length_map];exact dQ hl) hD (fun H2 sm=>sm.seq hS) ?_ bB br ?_⟩
  ·rintro i x y H2 e hy sm R hR
   rw[List.getElem?_map]at e hy
   rw[List.getElem?_map]at hy
   cases ec:l[i]? with
   |none=>rw[ec]at e;cases e
   |some c=>
    rw[ec]at e hy
    cases e
    cases hy
    refine⟨rfl,rfl,_,rfl,d,rfl,.inl ⟨_,.inl (sm _ _ hd)⟩,_,rfl,_,DGet.k (k:=Sum.inl (c:Int)) (sm _ _ hd),?_⟩
    rw[wu,wj]
    exact hR _ (Same.refl _)
  ·intro H2 sm h2
   refine⟨⟨_,rfl⟩,_,rfl,_,D,(l.map fix).map fun c=>st [c],rfl,rfl,.inl ?_,?_,⟨_,rfl⟩,?_⟩
   ·rw[List.map_map]
    exact SqL.of h2
   ·have e1:(((l.map fix).map fun c=>st [c]).map (·.length)).sum=l.length:=by
     rw[List.map_map,List.map_map]
     have:((fun x:Str=>x.length) ∘ (fun c=>st [c])) ∘ fix=fun _=>1:=funext fun c=>bt _
     rw[this]
     clear hS k h2 hl
     induction l with
     |nil=>rfl
     |cons c r ih=>rw[List.map_cons,List.sum_cons,ih,List.length_cons];omega
    have e2:(Str.ofString "").length=0:=by rw[qd,bt];rfl
    rw[e1,e2]
    have:LB<=16777216:=by decide
    omega
   ·rw[qd,uD,v0]
    refine⟨_,_,rfl,rfl,(by rw[bt];rfl),?_,fun p hp=>?_⟩
    ·rw[bt,List.length_map]
     have:LB+2<=sizeLine:=by decide
     omega
    ·refine k p _ (aN sm (Same.free sm hp)) (Same.free sm hp) ?_
     rw[af,rk,List.map_map]
     rfl
end
theorem wt:(Str.ofString ",")=st [44]:=c6 _ _ (by decide +kernel)
theorem xo:(Str.ofString ":")=st [58]:=c6 _ _ (by decide +kernel)
section
variable {P:Program}{w:World}{K:PySem.W.Frag}{mg:Str->Option Value}{base:Heap}{A:Adr}
def zo (K:PySem.W.Frag):Sp:=fun vs H Q _=>∃(a:Addr)(ws:List B),vs=[.ref a]/\SqL K H a (ws.map sv)/\ws.length<=LB/\(∀x∈ws,x.length<=LB)/\
 (a7 ws=none->∀H',Same H H'->Q .non H')/\∀ls,a7 ws=some ls->∀p H',Same H H'->H p=none->H' p=some (.tup (ls.map sv))->Q (.ref p) H'
theorem qT (T:Txt K mg A):Cal P w K mg base "read_body" ["words"] 3 (zo K):=by
 have nd:=sc_read_body.nd
 have C_is_literal:=jH (P:=P) (w:=w) (base:=base) T
 refine T.d_read_body.ok sc_read_body (fun vs H Q E h=>?_) (fun f cdv A0 outer s H vs Q E hr h=>?_)
 ·obtain⟨a,ws,rfl,_⟩:=h
  rfl
 ·obtain⟨a,ws,rfl,hS,hl,hw,k0,k1⟩:=h
  refine⟨_,(ag (ap (i:=1) nd rfl lc_ (cx ah)) (ag (bO PassesOwn.never rfl (eJ rfl T.b_enumerate (ab (pv 0) ah)) (iY rfl (bw (aw (i:=2) nd rfl lc_) (bw (aw (i:=3) nd rfl lc_) dO))) (ag (ap (i:=4) nd rfl lc_ (pv 3)) (ag (aV (aJ k3 (pv 2) (aO qX (aI aP rfl T.b_len PySem.boot_len (ab (pv 0) ah)) au) (aK _)) (ag (aV (eV (bE (kP F.slot_str_endswith F.type_str_endswith k9 (pv 3) d6))) (aj (al dE)) aF) (aj (ap (i:=4) nd rfl lc_ (eE jW (pv 3) i5 (dN (gD eW au)))))) aF) (ag (aV (eV (bE (ao C_is_literal (hr.mono (by decide)) rfl (ab (pv 4) ah)))) (aj (al dE)) aF) (aj (cN (eU PySem.F.plainAttrs_list PySem.F.slot_list_append PySem.F.type_list_append cR (pv 1) (ab (pv 4) ah)))))))) (aj (al (dI jI rfl T.b_tuple boot_tuple (ab (pv 1) ah)))))),?_⟩
  refine⟨(by show 0<=sizeLine;decide),fun L hL=>?_⟩
  refine⟨_,rfl,a,_,rfl,(ak hL).seq hS,jG (xs:=ws.map sv) (fun i σ H2=>Same H H2/\∃(acc:List B)(v2 v3 v4:Option V),H2 L=some (.lst (acc.map sv))/\acc.length=i/\
   a7 ws=(a7 (ws.drop i)).map (acc++·)/\σ=[some (.ref a),some (.ref L),v2,v3,v4]) ?_ ?_ ?_ ?_⟩
  ·exact⟨ak hL,[],none,none,none,af,rfl,by simp,rfl⟩
  ·rintro i σ H2 _ ⟨sm,_⟩
   exact sm.seq hS
  ·rintro i x σ H2 Tp e ⟨sm,acc,v2,v3,v4,hL2,hacc,hgo,rfl⟩ hT
   rw[List.getElem?_map]at e
   obtain⟨x,ex,rfl⟩:∃y,ws[i]?=some y/\x=sv y:=by
    cases ec:ws[i]? with
    |none=>rw[ec]at e;cases e
    |some c=>rw[ec]at e;cases e;exact⟨c,rfl,rfl⟩
   have hi:i<ws.length:=(List.getElem?_eq_some_iff.mp ex).1
   have hd:ws.drop i=x :: ws.drop (i+1):=by
    rw[List.drop_eq_getElem_cons hi]
    congr 1
    exact (List.getElem?_eq_some_iff.mp ex).2
   have hx:x.length<=LB:=hw x (List.mem_of_getElem? ex)
   have sm3:Same H (upd H2 Tp (.tup [.int (i:Nat),sv x])):=aN sm (Same.free sm hT)
   have hL3:(upd H2 Tp (.tup [.int (i:Nat),sv x])) L=some (.lst (acc.map sv)):=ak hT _ _ hL2
   generalize upd H2 Tp (.tup [.int (i:Nat),sv x])=H3 at sm3 hL3
   have fin:∀(y:B)(v:V)(H4:Hp),Same H3 H4->(Mo.litOf y).isSome=true->a7 (ws.drop i)=(a7 (ws.drop (i+1))).map (y :: ·)->
     ∃acc':List B,(upd H4 L (.lst (acc.map sv++[sv y]))) L=some (.lst (acc'.map sv))/\acc'.length=i+1/\a7 ws=(a7 (ws.drop (i+1))).map (acc'++·):=by
    intro y v H4 s4 ly hg
    refine⟨acc++[y],by rw[af,List.map_append];rfl,by simp[hacc],?_⟩
    rw[hgo,hg,Option.map_map]
    congr 1
    funext z
    simp
   refine⟨_,rfl,_,rfl,_,rfl,a,_,rfl,.inl (sm3.seq hS),_,_,rfl,rfl,_,_,rfl,rfl,_,rfl,?_⟩
   rw[List.length_map]
   refine aW (fun h=>?_) (fun h=>?_)
   ·have h:(i:Int)<(ws.length:Int)-1:=of_decide_eq_true h
    obtain⟨x2,r,hr2⟩:∃x2 r,ws.drop (i+1)=x2 :: r:=by
     cases e:ws.drop (i+1) with
     |nil=>
      have:=List.drop_eq_nil_iff.mp e
      omega
     |cons x2 r=>exact⟨x2,r,rfl⟩
    have eg:a7 (ws.drop i)=if x.getLast?=some 44/\(Mo.litOf x.dropLast).isSome=true then (a7 (ws.drop (i+1))).map (x.dropLast :: ·) else none:=by
     rw[hd,hr2]
     rfl
    refine⟨_,rfl,⟨_,rfl⟩,_,_,rfl,rfl,_,rfl,?_⟩
    rw[wt,qP]
    refine aW (fun h2=>?_) (fun h2=>?_)
    ·have h2:¬x.getLast?=some 44:=by simpa using h2
     rw[if_neg (fun z=>h2 z.1)]at eg
     rw[eg]at hgo
     exact k0 hgo _ sm3
    have h2:x.getLast?=some 44:=by simpa using h2
    refine⟨_,rfl,_,rfl,_,rfl,_,rfl,(by rw[bt];exact dQ hx),?_⟩
    rw[lW]
    refine⟨_,rfl,x.dropLast,rfl,(by rw[List.length_dropLast];omega),fun H4 s4=>⟨_,rfl,?_⟩⟩
    refine aW (fun h3=>?_) (fun h3=>?_)
    ·have h3:¬(Mo.litOf x.dropLast).isSome=true:=kT h3
     rw[if_neg (fun z=>h3 z.2)]at eg
     rw[eg]at hgo
     exact k0 hgo _ (sm3.trans s4)
    have h3:(Mo.litOf x.dropLast).isSome=true:=kQ h3
    rw[if_pos ⟨h2,h3⟩]at eg
    obtain⟨acc',a1,a2,a3⟩:=fin x.dropLast .non H4 s4 h3 eg
    refine⟨_,rfl,.inl ⟨rfl,_,SqL.of (s4 _ _ hL3)⟩,_,rfl,L,_,_,rfl,rfl,s4 _ _ hL3,?_,aN (sm3.trans s4) hL,acc',_,_,_,a1,a2,a3,rfl⟩
    rw[List.length_map,hacc]
    have:LB<sizeLine:=by decide
    omega
   ·have h:¬(i:Int)<(ws.length:Int)-1:=fun z=>h (decide_eq_true z)
    have hr2:ws.drop (i+1)=[]:=List.drop_eq_nil_iff.mpr (by omega)
    have eg:a7 (ws.drop i)=if (Mo.litOf x).isSome=true then some [x] else none:=by
     rw[hd,hr2]
     rfl
    refine⟨_,rfl,x,rfl,hx,fun H4 s4=>⟨_,rfl,?_⟩⟩
    refine aW (fun h3=>?_) (fun h3=>?_)
    ·have h3:¬(Mo.litOf x).isSome=true:=kT h3
     rw[if_neg h3]at eg
     rw[eg]at hgo
     exact k0 hgo _ (sm3.trans s4)
    have h3:(Mo.litOf x).isSome=true:=kQ h3
    rw[if_pos h3]at eg
    obtain⟨acc',a1,a2,a3⟩:=fin x .non H4 s4 h3 (by rw[eg,hr2];rfl)
    refine⟨_,rfl,.inl ⟨rfl,_,SqL.of (s4 _ _ hL3)⟩,_,rfl,L,_,_,rfl,rfl,s4 _ _ hL3,?_,aN (sm3.trans s4) hL,acc',_,_,_,a1,a2,a3,rfl⟩
    rw[List.length_map,hacc]
    have:LB<sizeLine:=by decide
    omega
  ·rintro σ H2 ⟨sm,acc,v2,v3,v4,hL2,hacc,hgo,rfl⟩
   rw[List.length_map]at hgo
   rw[List.drop_length]at hgo
   have hgo:a7 ws=some acc:=by rw[hgo];simp[a7]
   refine⟨_,rfl,L,_,rfl,.inl ⟨SqL.of hL2,fun p hp=>k1 acc hgo p _ (aN sm (Same.free sm hp)) (Same.free sm hp) af⟩⟩
end
theorem bU {f:Str}{v:V}:∀{fs:List (Str×V)},¬f∈fs.map (·.1)->cG f v fs=fs++[(f,v)]
 |[],_=>rfl
 |(g,x) :: r,h=>by
  have h1:¬g=f:=fun e=>h (by rw[e];simp)
  have h2:¬f∈r.map (·.1):=fun e=>h (by simp at e ⊢;exact .inr e)
  show (if g=f then (g,v) :: r else (g,x) :: cG f v r)=_
  rw[if_neg h1,bU h2]
  rfl
section
variable {P:Program}{w:World}{K:PySem.W.Frag}{mg:Str->Option Value}{base:Heap}{A:Adr}
theorem oE (T:Txt K mg A):Mkr P w K mg base "Clause" A.Clause ["self","name","body","head"] 1 (j9 A.Clause ["name","body","head"]):=by
 refine T.k_Clause.ok uM (fun vs H Q E h=>?_) (fun f cdv A0 outer s H vs Q E hr h=>?_)
 ·obtain⟨p,dx,as,rfl,ha,_⟩:=h
  simpa using ha
 ·obtain⟨p,dx,as,rfl,ha,hp,k⟩:=h
  obtain⟨a,b,c,rfl⟩:∃a b c,as=[a,b,c]:=by
   match as,ha with
   |[a,b,c],_=>exact⟨a,b,c,rfl⟩
  refine⟨_,(ag (bY (pv 0) (pv 1) rfl) (ag (bY (pv 0) (pv 2) rfl) (aj (bY (pv 0) (pv 3) rfl)))),?_⟩
  refine⟨_,rfl,_,rfl,p,_,dx,_,rfl,hp,T.cl_Clause,T.n_Clause_name,(by show 0<1000;decide),?_⟩
  refine⟨_,rfl,_,rfl,p,_,dx,_,rfl,af,T.cl_Clause,T.n_Clause_body,(by show 1<1000;decide),?_⟩
  rw[bU (f:="body") (fs:=cG "name" a []) (by show ¬_∈[("name":Str)];decide +kernel)]
  refine⟨_,rfl,_,rfl,p,_,dx,_,rfl,af,T.cl_Clause,T.n_Clause_head,(by show 2<1000;decide),?_⟩
  rw[bU (f:="head") (by show ¬_∈[("name":Str),("body":Str)];decide +kernel),bW,bW]
  exact k
theorem vJ (T:Txt K mg A):Mkr P w K mg base "Weight" A.Weight ["self","heavier","lighter"] 1 (j9 A.Weight ["heavier","lighter"]):=by
 refine T.k_Weight.ok vH (fun vs H Q E h=>?_) (fun f cdv A0 outer s H vs Q E hr h=>?_)
 ·obtain⟨p,dx,as,rfl,ha,_⟩:=h
  simpa using ha
 ·obtain⟨p,dx,as,rfl,ha,hp,k⟩:=h
  obtain⟨a,b,rfl⟩:∃a b,as=[a,b]:=by
   match as,ha with
   |[a,b],_=>exact⟨a,b,rfl⟩
  refine⟨_,(ag (bY (pv 0) (pv 1) rfl) (aj (bY (pv 0) (pv 2) rfl))),?_⟩
  refine⟨_,rfl,_,rfl,p,_,dx,_,rfl,hp,T.cl_Weight,T.n_Weight_heavier,(by show 0<1000;decide),?_⟩
  refine⟨_,rfl,_,rfl,p,_,dx,_,rfl,af,T.cl_Weight,T.n_Weight_lighter,(by show 1<1000;decide),?_⟩
  rw[bU (f:="lighter") (fs:=cG "heavier" a []) (by show ¬_∈[("heavier":Str)];decide +kernel),bW]
  exact k
theorem sD (T:Txt K mg A):Mkr P w K mg base "Step" A.Step ["self","kind","number","body","literal"] 1 (j9 A.Step ["kind","number","body","literal"]):=by
 refine T.k_Step.ok yi (fun vs H Q E h=>?_) (fun f cdv A0 outer s H vs Q E hr h=>?_)
 ·obtain⟨p,dx,as,rfl,ha,_⟩:=h
  simpa using ha
 ·obtain⟨p,dx,as,rfl,ha,hp,k⟩:=h
  obtain⟨a,b,c,d,rfl⟩:∃a b c d,as=[a,b,c,d]:=by
   match as,ha with
   |[a,b,c,d],_=>exact⟨a,b,c,d,rfl⟩
  refine⟨_,(ag (bY (pv 0) (pv 1) rfl) (ag (bY (pv 0) (pv 2) rfl) (ag (bY (pv 0) (pv 3) rfl) (aj (bY (pv 0) (pv 4) rfl))))),?_⟩
  refine⟨_,rfl,_,rfl,p,_,dx,_,rfl,hp,T.cl_Step,T.n_Step_kind,(by show 0<1000;decide),?_⟩
  refine⟨_,rfl,_,rfl,p,_,dx,_,rfl,af,T.cl_Step,T.n_Step_number,(by show 1<1000;decide),?_⟩
  rw[bU (f:="number") (fs:=cG "kind" a []) (by show ¬_∈[("kind":Str)];decide +kernel)]
  refine⟨_,rfl,_,rfl,p,_,dx,_,rfl,af,T.cl_Step,T.n_Step_body,(by show 2<1000;decide),?_⟩
  rw[bU (f:="body") (by show ¬_∈[("kind":Str),("number":Str)];decide +kernel)]
  refine⟨_,rfl,_,rfl,p,_,dx,_,rfl,af,T.cl_Step,T.n_Step_literal,(by show 3<1000;decide),?_⟩
  rw[bU (f:="literal") (by show ¬_∈[("kind":Str),("number":Str),("body":Str)];decide +kernel),bW,bW,bW]
  exact k
theorem yp (T:Txt K mg A):Mkr P w K mg base "Case" A.Case ["self","atoms","laws","rules","names","outweighed"] 1 (j9 A.Case ["atoms","laws","rules","names","outweighed"]):=by
 refine T.k_Case.ok yg (fun vs H Q E h=>?_) (fun f cdv A0 outer s H vs Q E hr h=>?_)
 ·obtain⟨p,dx,as,rfl,ha,_⟩:=h
  simpa using ha
 ·obtain⟨p,dx,as,rfl,ha,hp,k⟩:=h
  obtain⟨a,b,c,d,e,rfl⟩:∃a b c d e,as=[a,b,c,d,e]:=by
   match as,ha with
   |[a,b,c,d,e],_=>exact⟨a,b,c,d,e,rfl⟩
  refine⟨_,(ag (bY (pv 0) (pv 1) rfl) (ag (bY (pv 0) (pv 2) rfl) (ag (bY (pv 0) (pv 3) rfl) (ag (bY (pv 0) (pv 4) rfl) (aj (bY (pv 0) (pv 5) rfl)))))),?_⟩
  refine⟨_,rfl,_,rfl,p,_,dx,_,rfl,hp,T.cl_Case,T.n_Case_atoms,(by show 0<1000;decide),?_⟩
  refine⟨_,rfl,_,rfl,p,_,dx,_,rfl,af,T.cl_Case,T.n_Case_laws,(by show 1<1000;decide),?_⟩
  rw[bU (f:="laws") (fs:=cG "atoms" a []) (by show ¬_∈[("atoms":Str)];decide +kernel)]
  refine⟨_,rfl,_,rfl,p,_,dx,_,rfl,af,T.cl_Case,T.n_Case_rules,(by show 2<1000;decide),?_⟩
  rw[bU (f:="rules") (by show ¬_∈[("atoms":Str),("laws":Str)];decide +kernel)]
  refine⟨_,rfl,_,rfl,p,_,dx,_,rfl,af,T.cl_Case,T.n_Case_names,(by show 3<1000;decide),?_⟩
  rw[bU (f:="names") (by show ¬_∈[("atoms":Str),("laws":Str),("rules":Str)];decide +kernel)]
  refine⟨_,rfl,_,rfl,p,_,dx,_,rfl,af,T.cl_Case,T.n_Case_outweighed,(by show 4<1000;decide),?_⟩
  rw[bU (f:="outweighed") (by show ¬_∈[("atoms":Str),("laws":Str),("rules":Str),("names":Str)];decide +kernel),bW,bW,bW,bW]
  exact k
end
theorem bQ (ws:List B)(i:Nat)(h:i<ws.length):(ws.map sv)[i]?=some (sv (ws.getD i [])):=by
 rw[List.getElem?_map,List.getElem?_eq_getElem h]
 simp[h]
theorem nz (ws:List B)(k:Nat)(h0:0<k)(h:k<=ws.length):atI (ws.map sv) (-(k:Int))=some (sv (ws.getD (ws.length-k) [])):=by
 unfold atI ixN
 rw[List.length_map,if_neg (by omega),if_pos (by omega)]
 show (ws.map sv)[(-(k:Int)+(ws.length:Int)).toNat]?=_
 have:(-(k:Int)+(ws.length:Int)).toNat=ws.length-k:=by omega
 rw[this]
 exact bQ ws _ (by omega)
theorem yc (ws:List B)(h:4<=ws.length):kB (ws.map sv) (some 2) (some (-2))=((ws.drop 2).take (ws.length-4)).map sv:=by
 unfold kB
 have e1:HT.sIx (ws.map sv).length 0 (some 2)=2:=by
  have:=HT.sIx_nat (ws.map sv).length 0 2
  rw[List.length_map]at this ⊢
  rw[show (some (2:Int))=some ((2:Nat):Int) from rfl,this]
  omega
 have e2:HT.sIx (ws.map sv).length (ws.map sv).length (some (-2))=ws.length-2:=by
  rw[List.length_map]
  show (if (-2:Int)<0 then ((-2:Int)+(ws.length:Int)).toNat else min (-2:Int).toNat ws.length)=_
  rw[if_pos (by decide)]
  omega
 rw[e1,e2,<-List.map_drop,<-List.map_take]
 congr 2
theorem kU {ws:List B}(hw:∀x∈ws,x.length<=LB)(i:Nat):(ws.getD i []).length<=LB:=by
 by_cases h:i<ws.length
 ·have:ws.getD i []=ws[i]:=by simp[h]
  rw[this]
  exact hw _ (List.getElem_mem h)
 ·have:ws.getD i []=[]:=by simp[List.getD,List.getElem?_eq_none (Nat.le_of_not_lt h)]
  rw[this]
  exact Nat.zero_le _
section
variable {P:Program}{w:World}{K:PySem.W.Frag}{mg:Str->Option Value}{base:Heap}{A:Adr}
def wA (K:PySem.W.Frag)(C:Addr):Sp:=fun vs H Q _=>∃(a:Addr)(ws:List B)(ar:B),vs=[.ref a,sv ar]/\SqL K H a (ws.map sv)/\ws.length<=LB/\(∀x∈ws,x.length<=LB)/\
 (cF ar ws=none->∀H',Same H H'->Q .non H')/\∀n ls h,cF ar ws=some (n,ls,h)->∀p H',Same H H'->H p=none->ClauseAt C H' p n (ls.map sv) (sv h)->Q (.ref p) H'
theorem m5 (T:Txt K mg A):Cal P w K mg base "read_clause" ["words","arrow"] 4 (wA K A.Clause):=by
 have nd:=sc_read_clause.nd
 have C_is_literal:=jH (P:=P) (w:=w) (base:=base) T
 have C_is_name:=jz (P:=P) (w:=w) (base:=base) T
 have C_read_body:=qT (P:=P) (w:=w) (base:=base) T
 have M_Clause:=oE (P:=P) (w:=w) (base:=base) T
 refine T.d_read_clause.ok sc_read_clause (fun vs H Q E h=>?_) (fun f cdv A0 outer s H vs Q E hr h=>?_)
 ·obtain⟨a,ws,ar,rfl,_⟩:=h
  rfl
 ·obtain⟨a,ws,ar,rfl,hS,hl,hw,k0,k1⟩:=h
  refine⟨_,(ag (aV (PW.pt (dM (aJ k3 (aI aP rfl T.b_len PySem.boot_len (ab (pv 0) ah)) (aQ rfl T.c_BODILESS_WORDS) (aK _)) (di (aJ jB (aI aP rfl T.b_len PySem.boot_len (ab (pv 0) ah)) (aO iR (aQ rfl T.c_BODILESS_WORDS) (aQ rfl T.c_MOST_BODY)) (aK _))))) (aj (al dE)) aF) (ag (ap (i:=2) nd rfl lc_ (bH bf (pv 0) au (fun _ _=>rfl))) (ag (aV (PW.pt (dM (eV (bE (kP F.slot_str_endswith F.type_str_endswith k9 (pv 2) d6))) (di (eV (bE (ao C_is_name (hr.mono (by decide)) rfl (ab (eE jW (pv 2) i5 (dN (gD eW au))) ah))))))) (aj (al dE)) aF) (ag (aV (PW.pt (dM (aJ eh (bH bf (pv 0) (gD eW au) (fun _ _=>rfl)) (pv 1) (aK _)) (di (eV (bE (ao C_is_literal (hr.mono (by decide)) rfl (ab (bH bf (pv 0) (gD eW au) (fun _ _=>rfl)) ah))))))) (aj (al dE)) aF) (ag (ap (i:=3) nd rfl lc_ (ao C_read_body (hr.mono (by decide)) rfl (ab (eE sA (pv 0) (dN au) (dN (gD eW au))) ah))) (ag (aV (cH (jd (pv 3))) (aj (al dE)) aF) (aj (al (ga M_Clause (hr.mono (by decide)) rfl (ab (eE jW (pv 2) i5 (dN (gD eW au))) (ab (pv 3) (ab (bH bf (pv 0) (gD eW au) (fun _ _=>rfl)) ah)))))))))))),?_⟩
  unfold cF at k0 k1
  refine⟨_,rfl,a,_,rfl,.inl hS,_,_,rfl,rfl,_,rfl,?_⟩
  rw[List.length_map]
  refine aW (fun h=>?_) (fun h=>?_)
  ·have h:((ws.length:Nat):Int)<4:=of_decide_eq_true h
   rw[if_neg (by omega)]at k0
   exact k0 rfl _ (Same.refl _)
  have h4:¬((ws.length:Nat):Int)<4:=fun z=>h (decide_eq_true z)
  refine⟨_,rfl,a,_,rfl,.inl hS,_,_,rfl,rfl,_,_,rfl,rfl,_,rfl,?_⟩
  rw[List.length_map]
  refine aW (fun h=>?_) (fun h=>?_)
  ·have h:(4:Int)+6<((ws.length:Nat):Int):=of_decide_eq_true h
   rw[if_neg (by omega)]at k0
   exact k0 rfl _ (Same.refl _)
  have h10:¬(4:Int)+6<((ws.length:Nat):Int):=fun z=>h (decide_eq_true z)
  have hlen:4<=ws.length/\ws.length<=10:=by omega
  rw[if_pos hlen]at k0
  rw[if_pos hlen]at k1
  refine⟨_,rfl,a,_,1,_,rfl,rfl,hS,bu (bQ ws 1 (by omega)),?_⟩
  refine⟨_,rfl,⟨_,rfl⟩,_,_,rfl,rfl,_,rfl,?_⟩
  rw[xo,qP]
  have hlb:(ws.getD 1 []).length<=LB:=kU hw 1
  refine aW (fun h=>?_) (fun h=>?_)
  ·have h:¬(ws.getD 1 []).getLast?=some 58:=by simpa using h
   rw[if_neg (fun z=>h z.1)]at k0
   exact k0 rfl _ (Same.refl _)
  have hc:(ws.getD 1 []).getLast?=some 58:=by simpa using h
  refine⟨_,rfl,_,rfl,_,rfl,_,rfl,(by rw[bt];exact dQ hlb),(ws.getD 1 []).dropLast,(by rw[lW];rfl),(by rw[List.length_dropLast];omega),fun H2 s2=>⟨_,rfl,?_⟩⟩
  refine aW (fun h=>?_) (fun h=>?_)
  ·have h:¬Mo.isName (ws.getD 1 []).dropLast=true:=kT h
   rw[if_neg (fun z=>h z.2)]at k0
   exact k0 rfl _ s2
  have hn:Mo.isName (ws.getD 1 []).dropLast=true:=kQ h
  rw[if_pos ⟨hc,hn⟩]at k0
  rw[if_pos ⟨hc,hn⟩]at k1
  refine⟨_,rfl,_,rfl,a,_,_,_,rfl,rfl,s2.seq hS,nz ws 2 (by omega) (by omega),_,rfl,rfl,_,rfl,?_⟩
  have ea:(!decide (sv (ws.getD (ws.length-2) [])=sv ar))=!decide (ws.getD (ws.length-2) []=ar):=by
   congr 1
   by_cases e:ws.getD (ws.length-2) []=ar
   ·rw[e];simp
   ·rw[decide_eq_false e,decide_eq_false fun z=>e (gh (V.str.inj z))]
  rw[ea]
  refine aW (fun h=>?_) (fun h=>?_)
  ·have h:¬ws.getD (ws.length-2) []=ar:=by simpa using h
   rw[if_neg (fun z=>h z.1)]at k0
   exact k0 rfl _ s2
  have har:ws.getD (ws.length-2) []=ar:=by simpa using h
  refine⟨_,rfl,_,rfl,a,_,_,_,rfl,rfl,s2.seq hS,nz ws 1 (by omega) (by omega),ws.getD (ws.length-1) [],rfl,kU hw _,fun H3 s3=>⟨_,rfl,?_⟩⟩
  refine aW (fun h=>?_) (fun h=>?_)
  ·have h:¬(Mo.litOf (ws.getD (ws.length-1) [])).isSome=true:=kT h
   rw[if_neg (fun z=>h z.2)]at k0
   exact k0 rfl _ (s2.trans s3)
  have hh:(Mo.litOf (ws.getD (ws.length-1) [])).isSome=true:=kQ h
  rw[if_pos ⟨har,hh⟩]at k0
  rw[if_pos ⟨har,hh⟩]at k1
  have s23:=s2.trans s3
  refine⟨_,rfl,_,rfl,_,rfl,_,rfl,a,_,rfl,s23.seq hS,fun p hp=>?_⟩
  rw[yc ws hlen.1]
  refine⟨p,(ws.drop 2).take (ws.length-4),rfl,SqL.of af,(by rw[List.length_take];omega),fun x hx=>hw x (List.mem_of_mem_drop (List.mem_of_mem_take hx)),fun e H4 s4=>?_,fun ls e bp H4 s4 hbp hb4=>?_⟩
  ·refine⟨_,rfl,_,rfl,?_⟩
   rw[e]at k0
   exact k0 rfl _ (s23.trans ((ak hp).trans s4))
  ·refine⟨_,rfl,_,rfl,?_⟩
   rw[e]at k1
   have s04:Same H H4:=s23.trans ((ak hp).trans s4)
   refine⟨_,rfl,_,rfl,_,rfl,_,rfl,(by rw[bt];exact dQ hlb),_,rfl,_,rfl,_,rfl,a,_,_,_,rfl,rfl,s04.seq hS,nz ws 1 (by omega) (by omega),rfl,fun x dx hx hdx hne=>?_⟩
   rw[lW]
   refine k1 _ _ _ rfl x _ (s04.trans (cu hx hdx)) (s04.free hx) ⟨dx,bp,gj,?_⟩
   exact cu hx hdx _ _ hb4
end
def lz (C:Addr)(H:Hp)(p:Addr)(x y:B):Prop:=∃dx,H p=some (.ins C dx [("heavier",sv x),("lighter",sv y)])
theorem x4:(Str.ofString ">")=st [62]:=c6 _ _ (by decide +kernel)
theorem g8 (a b:B):decide (sv a=sv b)=decide (a=b):=by
 by_cases e:a=b
 ·rw[e];simp
 ·rw[decide_eq_false e,decide_eq_false fun z=>e (gh (V.str.inj z))]
def StepAt (C:Addr)(H:Hp)(p:Addr)(s:Stp):Prop:=∃dx bp,H p=some (.ins C dx [("kind",.int s.kind),("number",.int s.number),("body",.ref bp),("literal",kV s.lit)])/\H bp=some (.tup (s.body.map kV))/\s.body.length<=LB
def StepsAt (C:Addr)(H:Hp)(ps:List Addr)(S:List Stp):Prop:=ps.length=S.length/\∀(i:Nat)(p:Addr)(s:Stp),ps[i]?=some p->S[i]?=some s->StepAt C H p s
theorem StepAt.same {C:Addr}{H H':Hp}{p:Addr}{s:Stp}(h:StepAt C H p s)(e:Same H H'):StepAt C H' p s:=
 let ⟨dx,bp,h1,h2,h3⟩:=h
 ⟨dx,bp,e _ _ h1,e _ _ h2,h3⟩
theorem StepsAt.same {C:Addr}{H H':Hp}{ps:List Addr}{S:List Stp}(h:StepsAt C H ps S)(e:Same H H'):StepsAt C H' ps S:=⟨h.1,fun i p s a b=>(h.2 i p s a b).same e⟩
theorem lX {C:Addr}{H:Hp}{p d:Addr}{s:Stp}{o:HO}{kvs:List (Key×V)}(h:StepAt C H p s)(hd:H d=some (.dK kvs)):StepAt C (upd H d o) p s:=by
 obtain⟨dx,bp,h1,h2,h3⟩:=h
 exact⟨dx,bp,by rw[ae (bo h1 hd (by intro z;cases z))];exact h1,by rw[ae (bo h2 hd (by intro z;cases z))];exact h2,h3⟩
theorem StepAt.putL {C:Addr}{H:Hp}{p d:Addr}{s:Stp}{o:HO}{xs:List V}(h:StepAt C H p s)(hd:H d=some (.lst xs)):StepAt C (upd H d o) p s:=by
 obtain⟨dx,bp,h1,h2,h3⟩:=h
 exact⟨dx,bp,by rw[ae (bo h1 hd (by intro z;cases z))];exact h1,by rw[ae (bo h2 hd (by intro z;cases z))];exact h2,h3⟩
section
variable {P:Program}{w:World}{K:PySem.W.Frag}{mg:Str->Option Value}{base:Heap}{A:Adr}
def xn (K:PySem.W.Frag)(C:Addr):Sp:=fun vs H Q _=>∃(a:Addr)(ws:List B),vs=[.ref a]/\SqL K H a (ws.map sv)/\ws.length<=LB/\(∀x∈ws,x.length<=LB)/\
 (ia ws=none->∀H',Same H H'->Q .non H')/\∀x y,ia ws=some (x,y)->∀p H',Same H H'->H p=none->lz C H' p x y->Q (.ref p) H'
theorem m8 (T:Txt K mg A):Cal P w K mg base "read_weight" ["words"] 3 (xn K A.Weight):=by
 have nd:=sc_read_weight.nd
 have C_is_name:=jz (P:=P) (w:=w) (base:=base) T
 have M_Weight:=vJ (P:=P) (w:=w) (base:=base) T
 refine T.d_read_weight.ok sc_read_weight (fun vs H Q E h=>?_) (fun f cdv A0 outer s H vs Q E hr h=>?_)
 ·obtain⟨a,ws,rfl,_⟩:=h
  rfl
 ·obtain⟨a,ws,rfl,hS,hl,hw,k0,k1⟩:=h
  refine⟨_,(ag (aV (PW.pt (dM (aJ eh (aI aP rfl T.b_len PySem.boot_len (ab (pv 0) ah)) au (aK _)) (di (aJ eh (bH bf (pv 0) au (fun _ _=>rfl)) d6 (aK _))))) (aj (al dE)) aF) (ag (aV (PW.pt (dM (eV (bE (ao C_is_name (hr.mono (by decide)) rfl (ab (bH bf (pv 0) au (fun _ _=>rfl)) ah)))) (di (eV (bE (ao C_is_name (hr.mono (by decide)) rfl (ab (bH bf (pv 0) au (fun _ _=>rfl)) ah))))))) (aj (al dE)) aF) (aj (al (ga M_Weight (hr.mono (by decide)) rfl (ab (bH bf (pv 0) au (fun _ _=>rfl)) (ab (bH bf (pv 0) au (fun _ _=>rfl)) ah))))))),?_⟩
  unfold ia at k0 k1
  refine⟨_,rfl,a,_,rfl,.inl hS,rfl,_,rfl,?_⟩
  rw[List.length_map]
  have e4:(!decide (V.int ((ws.length:Nat):Int)=V.int 4))=!decide (ws.length=4):=by
   congr 1
   by_cases e:ws.length=4
   ·rw[e];rfl
   ·rw[decide_eq_false e,decide_eq_false fun z=>e (by have:=V.int.inj z;omega)]
  rw[e4]
  refine aW (fun h=>?_) (fun h=>?_)
  ·have h:¬ws.length=4:=by simpa using h
   rw[if_neg (fun z=>h z.1)]at k0
   exact k0 rfl _ (Same.refl _)
  have h4:ws.length=4:=by simpa using h
  refine⟨_,rfl,a,_,2,_,rfl,rfl,hS,bu (bQ ws 2 (by omega)),rfl,_,rfl,?_⟩
  rw[x4,g8]
  refine aW (fun h=>?_) (fun h=>?_)
  ·have h:¬ws.getD 2 []=[62]:=by simpa using h
   rw[if_neg (fun z=>h z.2)]at k0
   exact k0 rfl _ (Same.refl _)
  have h2:ws.getD 2 []=[62]:=by simpa using h
  rw[if_pos ⟨h4,h2⟩]at k0
  rw[if_pos ⟨h4,h2⟩]at k1
  refine⟨_,rfl,a,_,1,_,rfl,rfl,hS,bu (bQ ws 1 (by omega)),ws.getD 1 [],rfl,kU hw 1,fun H2 s2=>⟨_,rfl,?_⟩⟩
  refine aW (fun h=>?_) (fun h=>?_)
  ·have h:¬Mo.isName (ws.getD 1 [])=true:=kT h
   rw[if_neg (fun z=>h z.1)]at k0
   exact k0 rfl _ s2
  have n1:=kQ h
  refine⟨_,rfl,a,_,3,_,rfl,rfl,s2.seq hS,bu (bQ ws 3 (by omega)),ws.getD 3 [],rfl,kU hw 3,fun H3 s3=>⟨_,rfl,?_⟩⟩
  refine aW (fun h=>?_) (fun h=>?_)
  ·have h:¬Mo.isName (ws.getD 3 [])=true:=kT h
   rw[if_neg (fun z=>h z.2)]at k0
   exact k0 rfl _ (s2.trans s3)
  have n3:=kQ h
  rw[if_pos ⟨n1,n3⟩]at k1
  have s23:=s2.trans s3
  refine⟨_,rfl,a,_,1,_,rfl,rfl,s23.seq hS,bu (bQ ws 1 (by omega)),_,rfl,a,_,3,_,rfl,rfl,s23.seq hS,bu (bQ ws 3 (by omega)),rfl,fun x dx hx hdx hne=>?_⟩
  exact k1 _ _ rfl x _ (s23.trans (cu hx hdx)) (s23.free hx) ⟨dx,gj⟩
def xQ (K:PySem.W.Frag)(C:Addr):Sp:=fun vs H Q _=>∃(a d:Addr)(ps:List Addr)(S:List Stp)(kvs:List (Key×V)),vs=[.ref a,.ref d]/\SqL K H a (ps.map V.ref)/\StepsAt C H ps S/\S.length<=LB/\H d=some (.dK kvs)/\
 ∀p H',Same H H'->H p=none->H' p=some (.lst ((ba S fun k=>(az kvs k).isSome).map kV))->Q (.ref p) H'
theorem k5 (T:Txt K mg A):Cal P w K mg base "fresh_literals" ["steps","rounds"] 1 (xQ K A.Step):=by
 have nd:=sc_fresh_literals.nd
 refine T.d_fresh_literals.ok sc_fresh_literals (fun vs H Q E h=>?_) (fun f cdv A0 outer s H vs Q E hr h=>?_)
 ·obtain⟨a,d,ps,S,kvs,rfl,_⟩:=h
  rfl
 ·obtain⟨a,d,ps,S,kvs,rfl,hS,hT,hl,hd,k⟩:=h
  have hu:=b9 hr
  refine⟨_,(ag (ap (i:=2) nd rfl lc_ (cx ah)) (ag (bO PassesOwn.never rfl (be (pv 0)) (aw (i:=3) nd rfl lc_) (aj (aV (PW.pt (eY (cH (io hu (aG K (pv 3)) (pv 1)) (by with_unfolding_all rfl)) (eM (bE (aI (mK rfl) rfl T.b_all boot_all (ab (cq rfl nd (kj (aG K (pv 3))) (aU (N:=["steps","rounds","fresh","step","needed"]) (sc:=ai db) (own:=[("needed",4)]) (by decide +kernel)) (fun _ _ _ _ _=>(aw (i:=4) nd rfl lc_)) (fun _ _ _ _ _=>bj) (fun _ _ _ _ _=>(vh (ja hu (pv 4) (pv 1)) (by with_unfolding_all rfl)))) ah)))))) (aj (cN (eU PySem.F.plainAttrs_list PySem.F.slot_list_append PySem.F.type_list_append cR (pv 2) (ab (aG K (pv 3)) ah)))) aF))) (aj (al (pv 2))))),?_⟩
  refine⟨(by show 0<=sizeLine;decide),fun L hL=>?_⟩
  refine⟨_,rfl,a,rfl,⟨_,(ak hL).seq hS⟩,cz (aR (xs:=ps.map V.ref)) (fun i σ H2=>Same H H2/\H2 L=some (.lst ((ba (S.take i) fun k=>(az kvs k).isSome).map kV))/\
   ∃v3 v4:Option V,σ=[some (.ref a),some (.ref d),some (.ref L),v3,v4]) ?_ ?_ ?_ ?_⟩
  ·exact⟨ak hL,af,none,none,rfl⟩
  ·rintro i σ H2 _ ⟨sm,_⟩
   exact sm.seq hS
  ·rintro i x σ H2 hi e ⟨sm,hL2,v3,v4,rfl⟩
   rw[List.length_map]at hi
   have hps:ps[i]?=some ps[i]:=by simp[hi]
   rw[List.getElem?_map,hps]at e
   cases e
   have hSi:i<S.length:=by rw[<-hT.1];exact hi
   have hs:S[i]?=some S[i]:=by simp[hSi]
   obtain⟨dx,bp,h1,h2,h3⟩:=(hT.2 i _ _ hps hs).same sm
   have et:ba (S.take (i+1)) (fun k=>(az kvs k).isSome)=ba (S.take i) (fun k=>(az kvs k).isSome)++if (!(az kvs S[i].lit).isSome&&S[i].body.all fun k=>(az kvs k).isSome)=true then [S[i].lit] else []:=by
    unfold ba
    rw[List.take_succ,hs,List.filter_append,List.map_append]
    congr 1
    show ([S[i]].filter _).map _=_
    rw[List.filter_cons]
    split<;>rfl
   have flen:(ba (S.take i) fun k=>(az kvs k).isSome).length<=i:=by
    unfold ba
    rw[List.length_map]
    refine Nat.le_trans (List.length_filter_le _ _) ?_
    rw[List.length_take]
    omega
   refine⟨_,rfl,_,A.Step,dx,_,_,rfl,h1,T.cl_Step,T.n_Step_literal,rfl,_,rfl,d,_,rfl,DGet.k (k:=S[i].lit) (sm _ _ hd),_,rfl,?_⟩
   refine aW (fun h=>?_) (fun h=>?_)
   ·refine⟨_,rfl,_,A.Step,dx,_,_,rfl,h1,T.cl_Step,T.n_Step_body,rfl,bp,rfl,⟨_,SqT.of h2⟩,fun D hD=>cy (gb (xs:=S[i].body.map kV)) (S[i].body.map fun k=>V.bl (az kvs k).isSome) (by simp) (by rw[List.length_map];exact dQ h3) hD (fun H3 s3=>SqT.of (s3 _ _ h2)) ?_ bB br ?_⟩
    ·rintro j x y H3 e hy s3 R hR
     rw[List.getElem?_map]at e hy
     cases ec:S[i].body[j]? with
     |none=>rw[ec]at e;cases e
     |some c=>
      rw[ec]at e hy
      cases e
      cases hy
      exact⟨rfl,rfl,_,rfl,_,rfl,d,_,rfl,DGet.k (k:=c) (s3 _ _ (sm _ _ hd)),hR _ (Same.refl _)⟩
    ·intro H3 s3 h3'
     refine⟨D,S[i].body.map fun k=>(az kvs k).isSome,rfl,?_,_,rfl,?_⟩
     ·rw[List.map_map]
      exact SqL.of h3'
     rw[List.all_map]
     have h:(!(az kvs S[i].lit).isSome)=true:=h
     refine aW (fun h4=>?_) (fun h4=>?_)
     ·refine⟨_,rfl,.inl ⟨rfl,_,SqL.of (s3 _ _ hL2)⟩,_,rfl,_,A.Step,dx,_,_,rfl,s3 _ _ h1,T.cl_Step,T.n_Step_literal,rfl,L,_,_,rfl,rfl,s3 _ _ hL2,?_,aN (sm.trans s3) hL,?_,_,_,rfl⟩
      ·rw[List.length_map]
       have:LB<sizeLine:=by decide
       omega
      ·rw[af,et]
       have h4:(S[i].body.all fun k=>(az kvs k).isSome)=true:=h4
       rw[h,h4,List.map_append]
       rfl
     ·have h4:¬(S[i].body.all fun k=>(az kvs k).isSome)=true:=h4
      refine⟨sm.trans s3,?_,_,_,rfl⟩
      rw[et,h,if_neg (by rw[Bool.true_and];exact h4),List.append_nil]
      exact s3 _ _ hL2
   ·refine⟨sm,?_,_,_,rfl⟩
    have h:¬(!(az kvs S[i].lit).isSome)=true:=h
    rw[et,if_neg (by rw[Bool.and_eq_true];exact fun z=>h z.1),List.append_nil]
    exact hL2
  ·rintro σ H2 ⟨sm,hL2,v3,v4,rfl⟩
   refine⟨_,rfl,k L H2 sm hL ?_⟩
   rw[List.length_map,hT.1,List.take_length]at hL2
   exact hL2
end
section
variable {P:Program}{w:World}{K:PySem.W.Frag}{mg:Str->Option Value}{base:Heap}{A:Adr}
def xk (K:PySem.W.Frag)(C:Addr):Sp:=fun vs H Q _=>∃(a:Addr)(ps:List Addr)(S:List Stp),vs=[.ref a]/\SqL K H a (ps.map V.ref)/\StepsAt C H ps S/\S.length<=LB/\
 ∀p kvs H',Same H H'->H p=none->H' p=some (.dK kvs)->Rds S kvs->kvs.length<=S.length->Q (.ref p) H'
theorem gx (T:Txt K mg A):Cal P w K mg base "literal_rounds" ["steps"] 2 (xk K A.Step):=by
 have nd:=sc_literal_rounds.nd
 have C_fresh_literals:=k5 (P:=P) (w:=w) (base:=base) T
 refine T.d_literal_rounds.ok sc_literal_rounds (fun vs H Q E h=>?_) (fun f cdv A0 outer s H vs Q E hr h=>?_)
 ·obtain⟨a,ps,S,rfl,_⟩:=h
  rfl
 ·obtain⟨a,ps,S,rfl,hS,hT,hl,k⟩:=h
  have hu:=b9 hr
  refine⟨_,(ag (ap (i:=1) nd rfl lc_ da) (ag (ap (i:=2) nd rfl lc_ au) (ag (ap (i:=3) nd rfl lc_ (ao C_fresh_literals (hr.mono (by decide)) rfl (ab (pv 0) (ab (pv 1) ah)))) (ag (fE PassesOwn.never (aJ jB (aI aP rfl T.b_len PySem.boot_len (ab (pv 3) ah)) au (aK _)) (ag (ap (i:=2) nd rfl lc_ (aO iR (pv 2) au)) (ag (bO PassesOwn.never rfl (be (pv 3)) (aw (i:=4) nd rfl lc_) (aj (dr hu (pv 1) (pv 4) (pv 2) rfl))) (aj (ap (i:=3) nd rfl lc_ (ao C_fresh_literals (hr.mono (by decide)) rfl (ab (pv 0) (ab (pv 1) ah)))))))) (aj (al (pv 1))))))),?_⟩
  intro d hd
  have s0:Same H (upd H d (.dK [])):=ak hd
  refine⟨_,rfl,_,rfl,a,d,ps,S,[],rfl,s0.seq hS,hT.same s0,hl,af,fun F H1 s1 hF hF1=>?_⟩
  rw[(nW S).dom]at hF1
  refine gN (fun σ H2=>Same H H2/\∃(n:Nat)(kvs:List (Key×V))(F:Addr)(v:Option V),H2 d=some (.dK kvs)/\Upto S n kvs/\H2 F=some (.lst ((ba S (aM S n)).map kV))/\σ=[some (.ref a),some (.ref d),some (.int (n:Nat)),some (.ref F),v])
   (fun σ H2=>match H2 d with|some (.dK kvs)=>S.length-kvs.length|_=>0) ⟨s0.trans s1,0,[],F,none,s1 _ _ af,nW S,hF1,rfl⟩ ?_
  rintro σ H2 ⟨s2,n,kvs,F,v,hd2,u,hF2,rfl⟩
  refine⟨_,rfl,F,_,rfl,.inl (SqL.of hF2),_,_,rfl,rfl,_,rfl,?_⟩
  rw[List.length_map]
  refine aW (fun h=>?_) (fun h=>?_)
  ·have hne:ba S (aM S n)≠[]:=fun z=>by
    rw[z]at h
    exact absurd (of_decide_eq_true h) (by decide)
   refine⟨_,gT,_,rfl,_,_,rfl,rfl,?_⟩
   refine⟨_,rfl,F,rfl,⟨_,SqL.of hF2⟩,cz (aR (xs:=(ba S (aM S n)).map kV)) (fun i σ H3=>Same H H3/\H3 F=some (.lst ((ba S (aM S n)).map kV))/\∃(kvs':List (Key×V))(v:Option V),
    H3 d=some (.dK kvs')/\Lay S n kvs ((ba S (aM S n)).take i) kvs'/\σ=[some (.ref a),some (.ref d),some (.int ((n:Nat)+1:Int)),some (.ref F),v]) ?_ ?_ ?_ ?_⟩
   ·exact⟨s2,hF2,kvs,v,hd2,Lay.start u.nd,rfl⟩
   ·rintro i σ H3 _ ⟨_,h3,_⟩
    exact SqL.of h3
   ·rintro i x σ H3 hi e ⟨s3,hF3,kvs',v',hd3,ly,rfl⟩
    rw[List.length_map]at hi
    have hx:(ba S (aM S n))[i]?=some (ba S (aM S n))[i]:=by simp[hi]
    rw[List.getElem?_map,hx]at e
    cases e
    refine⟨_,rfl,_,rfl,_,rfl,d,_,rfl,DPut.k (k:=(ba S (aM S n))[i]) hd3 ?_,?_⟩
    ·have:=ly.len u fun k hk=>List.mem_of_mem_take hk
     have:LB<sizeLine:=by decide
     omega
    ·refine⟨aN s3 hd,?_,_,_,af,?_,rfl⟩
     ·rw[ae (bo hF3 hd3 (by intro z;cases z))]
      exact hF3
     ·rw[List.take_succ,hx]
      exact ly.put
   ·rintro σ H3 ⟨s3,hF3,kvs',v',hd3,ly,rfl⟩
    rw[List.length_map,List.take_length]at ly
    have u':=ly.upto u
    refine⟨_,rfl,_,rfl,a,d,ps,S,kvs',rfl,s3.seq hS,hT.same s3,hl,hd3,fun F' H4 s4 hF' hF4=>?_⟩
    rw[u'.dom]at hF4
    refine⟨⟨s3.trans s4,n+1,kvs',F',v',s4 _ _ hd3,u',hF4,rfl⟩,?_⟩
    show (match H4 d with|some (.dK kvs)=>S.length-kvs.length|_=>0)<(match H2 d with|some (.dK kvs)=>S.length-kvs.length|_=>0)
    rw[s4 _ _ hd3,hd2]
    have h1:=ly.more u hne
    have h2:=u'.len
    show S.length-kvs'.length<S.length-kvs.length
    omega
  ·have he:ba S (aM S n)=[]:=by
    cases e:ba S (aM S n) with
    |nil=>rfl
    |cons x r=>exact absurd (decide_eq_true (by rw[e];simp)) h
   exact⟨_,rfl,k d kvs H2 s2 hd hd2 (u.done he) u.len⟩
end
section
variable {P:Program}{w:World}{K:PySem.W.Frag}{mg:Str->Option Value}{base:Heap}{A:Adr}
def RowsAt (C:Addr)(H:Hp)(l:List (Mo.Row×Addr)):Prop:=∀x∈l,RowAt C H x.2 x.1/\GoodR x.1
theorem RowsAt.same {C:Addr}{H H':Hp}{l:List (Mo.Row×Addr)}(h:RowsAt C H l)(s:Same H H'):RowsAt C H' l:=fun x hx=>⟨(h x hx).1.same s,(h x hx).2⟩
theorem RowsAt.put {C:Addr}{H:Hp}{d:Addr}{o:HO}{kvs:List (Key×V)}{l:List (Mo.Row×Addr)}(h:RowsAt C H l)(hd:H d=some (.dK kvs)):RowsAt C (upd H d o) l:=fun x hx=>⟨(h x hx).1.put hd,(h x hx).2⟩
def ww (C:Addr):Sp:=fun vs H Q _=>∃(p kA:Addr)(r:Mo.Row)(l:List (Mo.Row×Addr)),vs=[.ref p,.ref kA]/\RowAt C H p r/\GoodR r/\H kA=some (.dK (aZ l))/\RowsAt C H l/\Q (.bl ((l.map (·.1)).any (Mo.sameRow r))) H
theorem lP (T:Txt K mg A):Cal P w K mg base "stands_before" ["clause","kin"] 1 (ww A.Clause):=by
 have nd:=sc_stands_before.nd
 refine T.d_stands_before.ok sc_stands_before (fun vs H Q E h=>?_) (fun f cdv A0 outer s H vs Q E hr h=>?_)
 ·obtain⟨p,kA,r,l,rfl,_⟩:=h
  rfl
 ·obtain⟨p,kA,r,l,rfl,hp,gr,hk,hl,k⟩:=h
  refine⟨_,(ag (sM (bO PassesOwn.never rfl (vW (pv 1)) (aw (i:=2) nd rfl lc_) (aj (aV (PW.pt (eY (aJ (zj hr.units) (aG K (pv 2)) (aG K (pv 0)) (aK _)) (eM (aJ cM (aG K (pv 2)) (aG K (pv 0)) (aK _))))) (aj (al mS)) aF)))) (aj (al mS))),?_⟩
  refine⟨kA,_,hk,trivial,fun od=>?_⟩
  have hpf:=hp.put (o:=.frz od (.dK (aZ l))) hk
  have hlf:=hl.put (o:=.frz od (.dK (aZ l))) hk
  have hback:upd (upd H kA (.frz od (.dK (aZ l)))) kA (.dK (aZ l))=H:=z9 hk
  refine⟨_,rfl,kA,od,_,rfl,af,cz tT (fun i σ H2=>H2=upd H kA (.frz od (.dK (aZ l)))/\(∀x∈(l.take i).map (·.1),Mo.sameRow r x=false)/\∃v,σ=[some (.ref p),some (.ref kA),v]) ?_ ?_ ?_ ?_⟩
  ·exact⟨rfl,(fun x hx=>by simp at hx),none,rfl⟩
  ·rintro i σ H2 _ ⟨rfl,_⟩
   exact af
  ·rintro i x σ H2 hi ⟨ky,ex⟩ ⟨rfl,hno,v,rfl⟩
   unfold aZ at ex
   rw[List.getElem?_map]at ex
   obtain⟨y,ey,eq⟩:=Option.map_eq_some_iff.mp ex
   cases eq
   obtain⟨hy,gy⟩:=hlf y (List.mem_of_getElem? ey)
   obtain⟨dx,bp,h1,h2⟩:=id hy
   obtain⟨dx',bp',h1',h2'⟩:=id hpf
   refine⟨_,rfl,y.2,_,dx,_,_,rfl,h1,T.cl_Clause,T.n_Clause_body,dv,_,rfl,p,_,dx',_,_,rfl,h1',T.cl_Clause,T.n_Clause_body,dv,_,_,.tup (SqT.of h2) (jn _),.tup (SqT.of h2') (jn _),lb ?_,lb ?_,_,rfl,?_⟩
   ·intro b hb
    obtain⟨z,hz,rfl⟩:=List.mem_map.mp hb
    exact mq (gy.body z hz)
   ·intro b hb
    obtain⟨z,hz,rfl⟩:=List.mem_map.mp hb
    exact mq (gr.body z hz)
   have eb:PyData.eqv (.tuple ((y.1.body.map aS).map fun b=>PyData.str (st b))) (.tuple ((r.body.map aS).map fun b=>PyData.str (st b)))=decide (y.1.body=r.body):=by
    show PyData.eqvAll _ _=_
    rw[lm]
    by_cases z:y.1.body=r.body
    ·rw[z];simp
    ·rw[decide_eq_false z,decide_eq_false fun e=>z (j5 gy.body gr.body e)]
   rw[eb]
   have tk:(l.take (i+1)).map (·.1)=(l.take i).map (·.1)++[y.1]:=by
    rw[List.take_succ,ey]
    simp
   have step:Mo.sameRow r y.1=false->(∀x∈(l.take (i+1)).map (·.1),Mo.sameRow r x=false):=by
    intro hf x hx
    rw[tk]at hx
    rcases List.mem_append.mp hx with z|z
    ·exact hno x z
    ·simp at z;subst z;exact hf
   refine aW (fun e1=>?_) (fun e1=>?_)
   ·have e1:=of_decide_eq_true e1
    refine⟨_,rfl,y.2,_,dx,_,_,rfl,h1,T.cl_Clause,T.n_Clause_head,eN,_,rfl,p,_,dx',_,_,rfl,h1',T.cl_Clause,T.n_Clause_head,eN,rfl,_,rfl,?_⟩
    rw[g8]
    refine aW (fun e2=>?_) (fun e2=>?_)
    ·have e2:y.1.head=r.head:=jg gy.head gr.head (of_decide_eq_true e2)
     have hs:Mo.sameRow r y.1=true:=by unfold Mo.sameRow;rw[e1,e2];simp
     have:(l.map (·.1)).any (Mo.sameRow r)=true:=List.any_eq_true.mpr ⟨y.1,List.mem_map.mpr ⟨y,List.mem_of_getElem? ey,rfl⟩,hs⟩
     rw[this]at k
     refine⟨af,?_⟩
     rw[hback]
     exact k
    ·have e2:¬y.1.head=r.head:=fun z=>e2 (decide_eq_true (by rw[z]))
     refine⟨rfl,step ?_,_,rfl⟩
     unfold Mo.sameRow
     have:(r.head==y.1.head)=false:=beq_false_of_ne fun z=>e2 z.symm
     rw[this,Bool.and_false]
   ·have e1:¬y.1.body=r.body:=fun z=>e1 (decide_eq_true z)
    refine⟨rfl,step ?_,_,rfl⟩
    unfold Mo.sameRow
    have:(r.body==y.1.body)=false:=beq_false_of_ne fun z=>e1 z.symm
    rw[this,Bool.false_and]
  ·rintro σ H2 ⟨rfl,hno,v,rfl⟩
   refine⟨af,?_⟩
   rw[hback]
   have hl':(aZ l).length=l.length:=by unfold aZ;simp
   rw[hl',List.take_of_length_le (Nat.le_refl _)]at hno
   have:(l.map (·.1)).any (Mo.sameRow r)=false:=by
    rw[List.any_eq_false]
    intro x hx
    rw[hno x hx];decide
   rw[this]at k
   exact k
def aH (r:Mo.Row):List B:=r.body.map Mo.Lit.atom++[r.head.atom]
def o7 (C:Addr):Sp:=fun vs H Q _=>∃(p:Addr)(r:Mo.Row),vs=[.ref p]/\RowAt C H p r/\GoodR r/\∀q H',Same H H'->H q=none->H' q=some (.lst ((aH r).map sv))->Q (.ref q) H'
theorem iu (T:Txt K mg A):Cal P w K mg base "clause_atoms" ["clause"] 2 (o7 A.Clause):=by
 have nd:=sc_clause_atoms.nd
 have C_atom_of:=uq (P:=P) (w:=w) (base:=base) T
 refine T.d_clause_atoms.ok sc_clause_atoms (fun vs H Q E h=>?_) (fun f cdv A0 outer s H vs Q E hr h=>?_)
 ·obtain⟨p,r,rfl,_⟩:=h
  rfl
 ·obtain⟨p,r,rfl,hp,gr,k⟩:=h
  obtain⟨dx,bp,h1,h2⟩:=id hp
  refine⟨_,(aj (al (aO eT (cq rfl nd (kj (aG K (pv 0))) (aU (N:=["clause","literal"]) (sc:=ai dS) (own:=[("literal",1)]) (by decide +kernel)) (fun _ _ _ _ _=>(aw (i:=1) nd rfl lc_)) (fun _ _ _ _ _=>bj) (fun _ _ _ _ _=>(ao C_atom_of (hr.mono (by decide)) rfl (ab (pv 1) ah)))) (cx (ab (ao C_atom_of (hr.mono (by decide)) rfl (ab (aG K (pv 0)) ah)) ah))))),?_⟩
  have few:r.body.length<=6:=gr.few
  have sl6:7<=sizeLine:=by decide
  refine⟨_,rfl,p,_,dx,_,_,rfl,h1,T.cl_Clause,T.n_Clause_body,dv,bp,rfl,⟨_,SqT.of h2⟩,fun D hD=>cy (gb (xs:=(r.body.map aS).map sv)) ((r.body.map Mo.Lit.atom).map sv) (by simp) (by simp;omega) hD (fun H2 sm=>SqT.of (sm _ _ h2)) ?_ bB br ?_⟩
  ·rintro i x y H2 e hy sm R hR
   rw[List.getElem?_map]at e hy
   rw[List.getElem?_map]at e hy
   cases ec:r.body[i]? with
   |none=>rw[ec]at e;cases e
   |some l=>
    rw[ec]at e hy
    cases e
    cases hy
    have gl:=gr.body l (List.mem_of_getElem? ec)
    refine⟨rfl,rfl,_,rfl,aS l,rfl,(by have:=lC gl;have:16<=LB:=(by decide);omega),?_⟩
    rw[oS gl]
    exact hR _ (Same.refl _)
  ·intro H2 sm hD2
   refine⟨_,rfl,p,_,dx,_,_,rfl,sm _ _ h1,T.cl_Clause,T.n_Clause_head,eN,aS r.head,rfl,(by have:=lC gr.head;have:16<=LB:=(by decide);omega),(by show 1<=sizeLine;decide),fun L hL=>?_⟩
   rw[oS gr.head]
   refine⟨D,L,_,_,rfl,rfl,ak hL _ _ hD2,af,(by simp;omega),fun q hq=>?_⟩
   have s2:Same H (upd H2 L (.lst [sv r.head.atom])):=sm.trans (ak hL)
   refine k q _ (s2.trans (ak hq)) (s2.free hq) ?_
   rw[af]
   unfold aH
   rw[List.map_append]
   rfl
def cC (lA rA aA oA:Addr):List (Str×V):=[("laws",.ref lA),("rules",.ref rA),("atoms",.ref aA),("outweighed",.ref oA)]
theorem gS {a b c d:Addr}:(cC a b c d).lookup ("laws":Str)=some (.ref a):=rfl
theorem dD {a b c d:Addr}:(cC a b c d).lookup ("rules":Str)=some (.ref b):=by
 have h1:(("rules":Str)==("laws":Str))=false:=by decide +kernel
 simp[cC,List.lookup,h1]
theorem lY {a b c d:Addr}:(cC a b c d).lookup ("atoms":Str)=some (.ref c):=by
 have h1:(("atoms":Str)==("laws":Str))=false:=by decide +kernel
 have h2:(("atoms":Str)==("rules":Str))=false:=by decide +kernel
 simp[cC,List.lookup,h1,h2]
theorem gO {a b c d:Addr}:(cC a b c d).lookup ("outweighed":Str)=some (.ref d):=by
 have h1:(("outweighed":Str)==("laws":Str))=false:=by decide +kernel
 have h2:(("outweighed":Str)==("rules":Str))=false:=by decide +kernel
 have h3:(("outweighed":Str)==("atoms":Str))=false:=by decide +kernel
 simp[cC,List.lookup,h1,h2,h3]
def yN (C:Addr):Sp:=fun vs H Q _=>∃(d q dx lA rA aA oA:Addr)(l as:List B),vs=[.ref d,.ref q]/\H d=some (.ins C dx (cC lA rA aA oA))/\H aA=some (.dK (aX l))/\H q=some (.lst (as.map sv))/\l.length+as.length<=LB/\
 Q .non (upd H aA (.dK (aX (bN l as))))
theorem jO (T:Txt K mg A):Cal P w K mg base "keep_atoms" ["draft","atoms"] 1 (yN A.Draft):=by
 have nd:=sc_keep_atoms.nd
 refine T.d_keep_atoms.ok sc_keep_atoms (fun vs H Q E h=>?_) (fun f cdv A0 outer s H vs Q E hr h=>?_)
 ·obtain⟨d,q,dx,lA,rA,aA,oA,l,as,rfl,_⟩:=h
  rfl
 ·obtain⟨d,q,dx,lA,rA,aA,oA,l,as,rfl,hd,ha,hq,hlen,k⟩:=h
  have hu:=b9 hr
  refine⟨_,(aj (bO PassesOwn.never rfl (be (pv 1)) (aw (i:=2) nd rfl lc_) (aj (dr hu (aG K (pv 0)) (pv 2) mS rfl)))),?_⟩
  have ndA:d≠aA:=bo hd ha (by intro z;cases z)
  have nqA:q≠aA:=bo hq ha (by intro z;cases z)
  refine⟨_,rfl,q,rfl,⟨_,SqL.of hq⟩,cz (aR (xs:=as.map sv)) (fun i σ H2=>H2=upd H aA (.dK (aX (bN l (as.take i))))/\∃v,σ=[some (.ref d),some (.ref q),v]) ?_ ?_ ?_ ?_⟩
  ·refine⟨?_,none,rfl⟩
   show H=upd H aA (.dK (aX l))
   rw[lZ ha]
  ·rintro i σ H2 _ ⟨rfl,_⟩
   exact SqL.of (by rw[ae nqA];exact hq)
  ·rintro i x σ H2 hi e ⟨rfl,v,rfl⟩
   rw[List.getElem?_map]at e
   obtain⟨y,ey,rfl⟩:=Option.map_eq_some_iff.mp e
   refine⟨_,rfl,d,_,dx,_,_,rfl,(by rw[ae ndA];exact hd),T.cl_Draft,T.n_Draft_atoms,lY,_,rfl,aA,_,rfl,DPut.k (k:=kN y) af ?_,?_⟩
   ·have h1:=ji (as.take i) l
    rw[List.length_take]at h1
    have h2:LB<sizeLine:=by decide
    unfold aX
    rw[List.length_map]
    omega
   ·refine⟨?_,_,rfl⟩
    rw[bW,pB]
    have:as.take (i+1)=as.take i++[y]:=by rw[List.take_succ,ey];rfl
    rw[this]
    unfold bN
    rw[List.foldl_append]
    rfl
  ·rintro σ H2 ⟨rfl,v,rfl⟩
   rw[List.length_map,List.take_of_length_le (Nat.le_refl _)]
   exact k
end
theorem re (l:List B):(ded (l.map st)).length<l.length↔¬l.Nodup:=by
 have h1:=si (l.map st)
 rw[List.length_map]at h1
 constructor
 ·intro h nd
  have:(l.map st).length<=(ded (l.map st)).length:=cf (by
   refine List.pairwise_map.mpr ?_
   exact List.Pairwise.imp (fun hab e=>hab (gh e)) nd) fun x hx=>(sk _ _).mpr hx
  rw[List.length_map]at this
  omega
 ·intro nd
  apply Decidable.byContradiction
  intro h
  apply nd
  have key:∀(l a:List Str),(l.foldl ci a).length=a.length+l.length->l.Nodup/\∀x∈l,¬x∈a:=by
   intro l
   induction l with
   |nil=>intro a _;exact⟨List.nodup_nil,fun x h=>nomatch h⟩
   |cons x r ih=>
    intro a e
    have up:∀(l a:List Str),(l.foldl ci a).length<=a.length+l.length:=by
     intro l
     induction l with
     |nil=>intro a;simp
     |cons x r ih=>
      intro a
      have:=ih (ci a x)
      have h2:(ci a x).length<=a.length+1:=by unfold ci;split<;>simp
      simp only[List.foldl_cons,List.length_cons]
      omega
    have e:(r.foldl ci (ci a x)).length=a.length+(r.length+1):=e
    have hx:¬x∈a:=by
     intro hx
     have:ci a x=a:=by
      unfold ci
      rw[if_pos (List.any_eq_true.mpr ⟨x,hx,decide_eq_true rfl⟩)]
     rw[this]at e
     have:=up r a
     omega
    have e1:ci a x=a++[x]:=by
     unfold ci
     rw[if_neg]
     intro z
     obtain⟨y,hy,e⟩:=List.any_eq_true.mp z
     have:=of_decide_eq_true e
     subst this;exact hx hy
    rw[e1]at e
    obtain⟨i1,i2⟩:=ih (a++[x]) (by rw[e];simp;omega)
    refine⟨List.nodup_cons.mpr ⟨fun z=>i2 x z (by simp),i1⟩,fun y hy=>?_⟩
    rcases List.mem_cons.mp hy with z|z
    ·subst z;exact hx
    ·exact fun q=>i2 y z (by simp[q])
  have:=(key (l.map st) [] (by
   have e:(ded (l.map st)).length=l.length:=by omega
   show (ded (l.map st)).length=_
   rw[e];simp)).1
  exact List.Pairwise.imp (fun hab e=>hab (by rw[e])) (List.pairwise_map.mp this)
theorem jJ (l as m:List B)(hm:m.Nodup)(h:∀x,x∈m↔x∈l∨x∈as):(ded ((l++as).map st)).length=m.length:=by
 have:(ded ((l++as).map st)).length=(m.map st).length:=i3 (uX _) (by
   refine List.pairwise_map.mpr ?_
   exact List.Pairwise.imp (fun hab e=>hab (gh e)) hm) fun x=>by
  rw[sk,List.mem_map,List.mem_map]
  constructor
  ·rintro⟨y,hy,rfl⟩;exact⟨y,(h y).mpr (List.mem_append.mp hy),rfl⟩
  ·rintro⟨y,hy,rfl⟩;exact⟨y,List.mem_append.mpr ((h y).mp hy),rfl⟩
 rw[this,List.length_map]
section
variable {P:Program}{w:World}{K:PySem.W.Frag}{mg:Str->Option Value}{base:Heap}{A:Adr}
def dm (lps rps kps:List (Mo.Row×Addr))(l as:List B)(most:Int)(r:Mo.Row):Nat:=
 if r.name∈(lps.map fun y=>y.1.name)∨r.name∈(rps.map fun y=>y.1.name) then 2
 else if ¬r.body.Nodup∨(kps.map (·.1)).any (Mo.sameRow r)=true then 3
 else if most<=kps.length∨64<(ded ((l++as).map st)).length then 4 else 0
def xq (CD CC:Addr):Sp:=fun vs H Q _=>∃(d p kA q dx lA rA aA oA:Addr)(lps rps kps:List (Mo.Row×Addr))(l as:List B)(most:Int)(r:Mo.Row),vs=[.ref d,.ref p,.ref kA,.int most,.ref q]/\
 H d=some (.ins CD dx (cC lA rA aA oA))/\H lA=some (.dK (aZ lps))/\H rA=some (.dK (aZ rps))/\H aA=some (.dK (aX l))/\H kA=some (.dK (aZ kps))/\RowsAt CC H kps/\RowAt CC H p r/\GoodR r/\H q=some (.lst (as.map sv))/\
 l.length+as.length<=1000/\∀H',Same H H'->Q (.int (dm lps rps kps l as most r:Nat)) H'
theorem iw (T:Txt K mg A):Cal P w K mg base "clause_fault" ["draft","clause","kin","most","atoms"] 2 (xq A.Draft A.Clause):=by
 have nd:=sc_clause_fault.nd
 have C_stands_before:=lP (P:=P) (w:=w) (base:=base) T
 refine T.d_clause_fault.ok sc_clause_fault (fun vs H Q E h=>?_) (fun f cdv A0 outer s H vs Q E hr h=>?_)
 ·obtain⟨d,p,kA,q,dx,lA,rA,aA,oA,lps,rps,kps,l,as,most,r,rfl,_⟩:=h
  rfl
 ·obtain⟨d,p,kA,q,dx,lA,rA,aA,oA,lps,rps,kps,l,as,most,r,rfl,hd,hlA,hrA,haA,hkA,hks,hp,gr,hq,hlen,k⟩:=h
  have hu:=b9 hr
  obtain⟨dy,bp,h1,h2⟩:=id hp
  refine⟨_,(ag (aV (PW.pt (dM (cH (ja hu (aG K (pv 1)) (aG K (pv 0))) (by with_unfolding_all rfl)) (di (cH (ja hu (aG K (pv 1)) (aG K (pv 0))) (by with_unfolding_all rfl))))) (aj (al (aQ rfl T.c_NAME_AGAIN))) aF) (ag (aV (PW.pt (dM (aJ k3 (aI ol rfl T.b_len PySem.boot_len (ab (dI (nY rfl) rfl T.b_set PyProof.Rows.boot_set (ab (aG K (pv 1)) ah)) ah)) (aI aP rfl T.b_len PySem.boot_len (ab (aG K (pv 1)) ah)) (aK _)) (di (bE (ao C_stands_before (hr.mono (by decide)) rfl (ab (pv 1) (ab (pv 2) ah))))))) (aj (al (aQ rfl T.c_CLAUSE_AGAIN))) aF) (ag (aV (PW.pt (dM (aJ xG (aI vD rfl T.b_len PySem.boot_len (ab (pv 2) ah)) (pv 3) (aK _)) (di (aJ jB (aI ol rfl T.b_len PySem.boot_len (ab (dI (nY rfl) rfl T.b_set PyProof.Rows.boot_set (ab (aO eT (dI (jM rfl) rfl T.b_list PyProof.Rows.boot_list (ab (aG K (pv 0)) ah)) (pv 4)) ah)) ah)) (aQ rfl T.c_MOST_ATOMS) (aK _))))) (aj (al (aQ rfl T.c_TOO_MANY))) aF) (aj (al (aQ rfl T.c_NO_FAULT)))))),?_⟩
  have sb:1001<scanBound:=by decide
  have few:=gr.few
  unfold dm at k
  refine⟨_,rfl,p,_,dy,_,_,rfl,h1,T.cl_Clause,T.n_Clause_name,fq,_,rfl,d,_,dx,_,_,rfl,hd,T.cl_Draft,T.n_Draft_laws,gS,lA,_,rfl,DGet.k (k:=kN r.name) hlA,_,rfl,?_⟩
  rw[jh]
  refine aW (fun h=>?_) (fun h=>?_)
  ·rw[if_pos (.inl (of_decide_eq_true h))]at k
   exact k _ (Same.refl _)
  have n1:¬r.name∈(lps.map fun y=>y.1.name):=fun z=>h (decide_eq_true z)
  refine⟨_,rfl,p,_,dy,_,_,rfl,h1,T.cl_Clause,T.n_Clause_name,fq,_,rfl,d,_,dx,_,_,rfl,hd,T.cl_Draft,T.n_Draft_rules,dD,rA,_,rfl,DGet.k (k:=kN r.name) hrA,_,rfl,?_⟩
  rw[jh]
  refine aW (fun h=>?_) (fun h=>?_)
  ·rw[if_pos (.inr (of_decide_eq_true h))]at k
   exact k _ (Same.refl _)
  have n2:¬r.name∈(rps.map fun y=>y.1.name):=fun z=>h (decide_eq_true z)
  rw[if_neg (fun z=>z.elim n1 n2)]at k
  have eb:(r.body.map aS).map sv=((r.body.map aS).map st).map V.str:=by rw[List.map_map (f:=st)];rfl
  refine⟨_,rfl,p,_,dy,_,_,rfl,h1,T.cl_Clause,T.n_Clause_body,dv,bp,(r.body.map aS).map st,rfl,.inr (by rw[<-eb];exact SqT.of h2),(by simp;omega),fun p1 hp1=>?_⟩
  have s1:Same H (upd H p1 (mZ P w p1 (ded ((r.body.map aS).map st)).length)):=ak hp1
  refine⟨p1,_,rfl,af,_,rfl,p,_,dy,_,_,rfl,s1 _ _ h1,T.cl_Clause,T.n_Clause_body,dv,bp,_,rfl,.inr (SqT.of (s1 _ _ h2)),_,_,rfl,rfl,_,rfl,?_⟩
  have hnd:((ded ((r.body.map aS).map st)).length:Int)<(((r.body.map aS).map sv).length:Nat)↔¬r.body.Nodup:=by
   have:=re (r.body.map aS)
   rw[List.length_map,Int.ofNat_lt,this]
   have e:(r.body.map aS).Nodup↔r.body.Nodup:=by
    constructor
    ·intro h;exact List.Pairwise.imp (fun hab e=>hab (by rw[e])) (List.pairwise_map.mp h)
    ·intro h
     refine List.pairwise_map.mpr ?_
     refine List.Pairwise.imp_of_mem (fun ha hb hab e=>hab (jg (gr.body _ ha) (gr.body _ hb) e)) h
   rw[e]
  refine aW (fun h=>?_) (fun h=>?_)
  ·rw[if_pos (.inl (hnd.mp (of_decide_eq_true h)))]at k
   exact k _ s1
  have n3:¬¬r.body.Nodup:=fun z=>h (decide_eq_true (hnd.mpr z))
  refine⟨_,rfl,_,rfl,p,kA,r,kps,rfl,hp.same s1,gr,s1 _ _ hkA,hks.same s1,_,rfl,?_⟩
  refine aW (fun h=>?_) (fun h=>?_)
  ·rw[if_pos (.inr h)]at k
   exact k _ s1
  rw[if_neg (fun z=>z.elim n3 h)]at k
  refine⟨_,rfl,kA,_,rfl,s1 _ _ hkA,_,rfl,_,_,rfl,rfl,_,rfl,?_⟩
  have el:(aZ kps).length=kps.length:=by unfold aZ;simp
  rw[el]
  refine aW (fun h=>?_) (fun h=>?_)
  ·rw[if_pos (.inl (of_decide_eq_true h))]at k
   exact k _ s1
  have n4:¬most<=(kps.length:Int):=fun z=>h (decide_eq_true z)
  refine⟨_,rfl,d,_,dx,_,_,rfl,s1 _ _ hd,T.cl_Draft,T.n_Draft_atoms,lY,aA,_,rfl,s1 _ _ haA,fun p2 hp2=>?_⟩
  have ek:((aX l).map fun z=>kV z.1)=l.map sv:=by unfold aX;rw[List.map_map];rfl
  have s2:=s1.trans (ak (o:=.lst (l.map sv)) hp2)
  rw[ek]
  refine⟨_,rfl,p2,q,_,_,rfl,rfl,af,s2 _ _ hq,(by simp;have:1000<=sizeLine:=(by decide);omega),fun p3 hp3=>?_⟩
  have s3:=s2.trans (ak (o:=.lst (l.map sv++as.map sv)) hp3)
  have ea:l.map sv++as.map sv=((l++as).map st).map V.str:=by rw[<-List.map_append,List.map_map];rfl
  refine⟨p3,(l++as).map st,rfl,.inl (by rw[<-ea];exact SqL.of af),(by simp;omega),fun p4 hp4=>?_⟩
  have s4:=s3.trans (ak (o:=mZ P w p4 (ded ((l++as).map st)).length) hp4)
  refine⟨p4,_,rfl,af,_,_,rfl,rfl,_,rfl,?_⟩
  refine aW (fun h=>?_) (fun h=>?_)
  ·rw[if_pos (.inr (by have:=of_decide_eq_true h;omega))]at k
   exact k _ s4
  ·rw[if_neg (fun z=>z.elim n4 fun y=>h (decide_eq_true (by omega)))]at k
   exact k _ s4
end
section
variable {P:Program}{w:World}{K:PySem.W.Frag}{mg:Str->Option Value}{base:Heap}{A:Adr}
def rf (K:PySem.W.Frag)(C:Addr):Sp:=fun vs H Q _=>∃(a:Addr)(l:List (Mo.Row×Addr)),vs=[.ref a]/\H a=some (.lst (l.map fun x=>V.ref x.2))/\RowsAt C H l/\l.length<=1000/\
 ∀b H',(b=true↔∃t,Dr (cJ (l.map (·.1))) t/\Dr (cJ (l.map (·.1))) (126 :: t))->Same H H'->Q (.bl b) H'
theorem oW (T:Txt K mg A):Cal P w K mg base "laws_clash" ["laws"] 3 (rf K A.Clause):=by
 have nd:=sc_laws_clash.nd
 have C_literal_rounds:=gx (P:=P) (w:=w) (base:=base) T
 have M_Step:=sD (P:=P) (w:=w) (base:=base) T
 refine T.d_laws_clash.ok sc_laws_clash (fun vs H Q E h=>?_) (fun f cdv A0 outer s H vs Q E hr h=>?_)
 ·obtain⟨a,l,rfl,_⟩:=h
  rfl
 ·obtain⟨a,l,rfl,ha,hl,hlen,k⟩:=h
  have hu:=b9 hr
  refine⟨_,(ag (ap (i:=1) nd rfl lc_ (ao C_literal_rounds (hr.mono (by decide)) rfl (ab (cq rfl nd (be (pv 0)) (aU (N:=["laws","rounds","law","literal"]) (sc:=ai dJ) (own:=[("law",2)]) (by decide +kernel)) (fun _ _ _ _ _=>(aw (i:=2) nd rfl lc_)) (fun _ _ _ _ _=>bj) (fun _ _ _ _ _=>(ga M_Step (hr.mono (by decide)) rfl (ab (aQ rfl T.c_LAW_HEAD) (ab au (ab (aG K (pv 2)) (ab (aG K (pv 2)) ah))))))) ah))) (aj (al (aI (l6 rfl) rfl T.b_any boot_any (ab (sh (cq rfl nd (nE (pv 1)) (aU (N:=["laws","rounds","law","literal"]) (sc:=ai dJ) (own:=[("literal",3)]) (by decide +kernel)) (fun _ _ _ _ _=>(aw (i:=3) nd rfl lc_)) (fun _ _ _ _ _=>bj) (fun _ _ _ _ _=>(vh (ja hu (aO mR (aQ rfl T.c_OPPOSITE) (pv 3)) (pv 1)) (by with_unfolding_all rfl))))) ah))))),?_⟩
  have sl:2000<=sizeLine:=by decide
  refine⟨_,rfl,a,rfl,⟨_,SqL.of ha⟩,fun D hD=>gW (aR (xs:=l.map fun x=>V.ref x.2)) l.length (by simp) (by rw[List.length_map];omega) hD (fun H2 s2=>SqL.of (s2 _ _ ha)) (fun i H2 p=>∃x,l[i]?=some x/\StepAt A.Step H2 p (qx x.1)) (fun i H2 H3 p s3 ⟨x,hx,hs⟩=>⟨x,hx,hs.same s3⟩) (fun i H2 p L xs ys hL ⟨x,hx,hs⟩=>⟨x,hx,hs.putL hL⟩) ?_ ?_⟩
  ·rintro i x H2 e s2 R hR
   rw[List.getElem?_map]at e
   obtain⟨y,ey,rfl⟩:=Option.map_eq_some_iff.mp e
   obtain⟨hy,gy⟩:=hl y (List.mem_of_getElem? ey)
   obtain⟨dy,bp,h1,h2⟩:=id (hy.same s2)
   refine⟨rfl,rfl,_,rfl,y.2,_,dy,_,_,rfl,h1,T.cl_Clause,T.n_Clause_body,dv,_,rfl,y.2,_,dy,_,_,rfl,h1,T.cl_Clause,T.n_Clause_head,eN,rfl,fun q dq hq hdq hne=>?_⟩
   refine hR q _ hq (cu hq hdq) ⟨y,ey,dq,bp,gj,?_,?_⟩
   ·have:=cu (C:=A.Step) (fs:=[("kind",V.int 1),("number",V.int 0),("body",V.ref bp),("literal",sv (aS y.1.head))]) hq hdq _ _ h2
    rw[List.map_map]at this
    show _=some (HO.tup (((y.1.body.map aS).map kN).map kV))
    rw[List.map_map,List.map_map]
    exact this
   ·show ((y.1.body.map aS).map kN).length<=LB
    have:=gy.few
    simp
    have:6<=LB:=by decide
    omega
  ·intro H2 ps hps hD2 s2 hall
   have hst:StepsAt A.Step H2 ps ((l.map (·.1)).map qx):=by
    refine⟨by simp[hps],fun i p s hp hs=>?_⟩
    obtain⟨x,hx,hx2⟩:=hall i p hp
    rw[List.getElem?_map,List.getElem?_map,hx]at hs
    cases hs
    exact hx2
   refine⟨D,ps,_,rfl,SqL.of hD2,hst,(by simp;have:1000<=LB:=(by decide);omega),fun d kvs H3 s3 hd hd3 rds hkl=>?_⟩
   have s03:=s2.trans s3
   rw[List.length_map,List.length_map]at hkl
   refine⟨d,_,hd3,trivial,fun od=>?_⟩
   have hkeys:∀z∈kvs,∃t,z.1=kN t:=by
    intro z hz
    obtain⟨v,hv⟩:=gR (List.mem_map.mpr ⟨z,hz,rfl⟩)
    obtain⟨m,_,hm⟩:=rds.yes _ v hv
    have:=eL hm.1
    rw[List.map_map,List.map_map,List.mem_map]at this
    obtain⟨r,_,e⟩:=this
    exact⟨_,e.symm⟩
   have hfz:(upd H3 d (.frz od (.dK kvs))) d=some (.frz od (.dK kvs)):=af
   let tOf:Key×V->B:=fun z=>match z.1 with|.inr x=>x.cps.toList|.inl _=>[]
   have htOf:∀z∈kvs,z.1=kN (tOf z):=fun z hz=>by
    obtain⟨t,e⟩:=hkeys z hz
    show z.1=kN (match z.1 with|.inr x=>x.cps.toList|.inl _=>[])
    rw[e]
    show kN t=kN (st t).cps.toList
    rw[e7]
   refine⟨_,rfl,d,od,rfl,.inl ⟨kvs,hfz,fun D2 hD2'=>cy (jj (d:=d) (o:=od) (kvs:=kvs)) ((kvs.map fun z=>(az kvs (kN (126 :: tOf z))).isSome).map V.bl) (by simp) (by omega) hD2' (fun H4 s4=>s4 _ _ hfz) ?_ bB br ?_⟩⟩
   ·rintro i x y H4 ⟨ky,vy,ez,rfl⟩ hy s4 R hR
    rw[List.getElem?_map,List.getElem?_map,ez]at hy
    cases hy
    have hk:=htOf _ (List.mem_of_getElem? ez)
    have hlen16:(tOf (ky,vy)).length<=1000:=by
     obtain⟨v,hv⟩:=gR (List.mem_map.mpr ⟨_,List.mem_of_getElem? ez,rfl⟩)
     obtain⟨m,_,hm⟩:=rds.yes _ v hv
     have:=eL hm.1
     rw[List.map_map,List.map_map,List.mem_map]at this
     obtain⟨x,hx,e⟩:=this
     have e:kN (aS x.1.head)=kN (tOf (ky,vy)):=e.trans hk
     rw[<-d7 e]
     have:=lC (hl x hx).2.head
     omega
    have hk:ky=kN (tOf (ky,vy)):=hk
    refine⟨rfl,rfl,_,rfl,_,st (tOf (ky,vy)),rfl,(by rw[hk];rfl),?_,_,rfl,d,_,rfl,.inl ⟨kvs,kN (126 :: tOf (ky,vy)),.inr ⟨od,s4 _ _ hfz⟩,?_,rfl⟩,hR _ (Same.refl _)⟩
    ·rw[jb,bt,bt]
     simp
     omega
    ·rw[jb,oF]
     rfl
   ·intro H4 s4 hD4
    refine⟨s4 _ _ hfz,D2,(kvs.map fun z=>(az kvs (kN (126 :: tOf z))).isSome),rfl,SqL.of ?_,?_⟩
    ·rw[ae (bo hD4 (s4 _ _ hfz) (by intro z;cases z))]
     exact hD4
    refine k _ _ ?_ (s03.trans (nQ hd3 s4))
    rw[List.any_map,List.any_eq_true]
    constructor
    ·rintro⟨z,hz,h⟩
     refine⟨tOf z,lawStp_dr.mp ((rds.dom _).mp ?_),lawStp_dr.mp ((rds.dom _).mp h)⟩
     rw[<-htOf z hz]
     obtain⟨v,hv⟩:=gR (List.mem_map.mpr ⟨z,hz,rfl⟩)
     rw[hv];rfl
    ·rintro⟨t,h1,h2⟩
     have g1:=(rds.dom _).mpr (lawStp_dr.mpr h1)
     have g2:=(rds.dom _).mpr (lawStp_dr.mpr h2)
     obtain⟨v,hv⟩:=Option.isSome_iff_exists.mp g1
     obtain⟨z,hz,ez⟩:=List.mem_map.mp (iU hv)
     refine⟨z,hz,?_⟩
     have:tOf z=t:=d7 ((htOf z hz).symm.trans ez)
     show (az kvs (kN (126 :: tOf z))).isSome=true
     rw[this];exact g2
end
def dA (l:List (Mo.Row×Addr×List B)):List (Key×V):=l.map fun x=>(kN x.1.name,V.ref x.2.1)
structure DA (A:Adr)(H0 H:Hp)(d dx lA rA aA oA:Addr)(lps rps:List (Mo.Row×Addr))(atoms:List B)(ops:List (Mo.Row×Addr×List B))(c:Mo.Case):Prop where
 same:Same H0 H
 ob:H d=some (.ins A.Draft dx (cC lA rA aA oA))
 la:H lA=some (.dK (aZ lps))
 ra:H rA=some (.dK (aZ rps))
 aa:H aA=some (.dK (aX atoms))
 oa:H oA=some (.dK (dA ops))
 rl:RowsAt A.Clause H lps
 rr:RowsAt A.Clause H rps
 ow:∀x∈ops,H x.2.1=some (.dK (aX x.2.2))/\x.2.2.Nodup/\∀y,y∈x.2.2↔TC c.weighs x.1.name y
 el:lps.map (·.1)=c.laws
 er:rps.map (·.1)=c.rules
 eo:ops.map (·.1)=c.rules
 an:atoms.Nodup
 am:∀x,x∈atoms↔x∈b7 c
 dist:([lA,rA,aA,oA]++ops.map (fun x=>x.2.1)).Nodup
 free:∀x∈[lA,rA,aA,oA]++ops.map (fun x=>x.2.1),H0 x=none
 good:GoodC c
def DraftAt (A:Adr)(H0 H:Hp)(d:Addr)(c:Mo.Case):Prop:=∃dx lA rA aA oA lps rps atoms ops,DA A H0 H d dx lA rA aA oA lps rps atoms ops c
theorem DA.mono {A:Adr}{H0 H H':Hp}{d dx lA rA aA oA:Addr}{lps rps:List (Mo.Row×Addr)}{atoms:List B}{ops:List (Mo.Row×Addr×List B)}{c:Mo.Case}(D:DA A H0 H d dx lA rA aA oA lps rps atoms ops c)(s:Same H H'):
  DA A H0 H' d dx lA rA aA oA lps rps atoms ops c:=
 { D with same:=D.same.trans s,ob:=s _ _ D.ob,la:=s _ _ D.la,ra:=s _ _ D.ra,aa:=s _ _ D.aa,oa:=s _ _ D.oa,rl:=D.rl.same s,rr:=D.rr.same s,ow:=fun x hx=>⟨s _ _ (D.ow x hx).1,(D.ow x hx).2⟩ }
theorem DA.natoms {A:Adr}{H0 H:Hp}{d dx lA rA aA oA:Addr}{lps rps:List (Mo.Row×Addr)}{atoms:List B}{ops:List (Mo.Row×Addr×List B)}{c:Mo.Case}(D:DA A H0 H d dx lA rA aA oA lps rps atoms ops c):atoms.length=c.atoms.length:=
 i3 D.an (d0 c) fun x=>by rw[D.am,mem_atoms]
theorem fc {r:Mo.Row}{x:B}:x∈aH r↔x∈r.atoms:=by
 unfold aH Mo.Row.atoms
 rw[List.mem_append,List.mem_singleton,List.mem_cons]
 exact Or.comm
theorem oj {c:Mo.Case}{l:Mo.Line}{k:Nat}(h:Mo.wrong c l=some k):1<=k:=by
 unfold Mo.wrong at h
 cases l with
 |law r=>
  simp only at h
  split at h
  ·cases h;decide
  split at h
  ·cases h;decide
  split at h
  ·cases h;decide
  split at h
  ·cases h;decide
  ·cases h
 |rule r=>
  simp only at h
  split at h
  ·cases h;decide
  split at h
  ·cases h;decide
  split at h
  ·cases h;decide
  ·cases h
 |weigh x y=>
  simp only at h
  split at h
  ·cases h;decide
  split at h
  ·cases h;decide
  ·cases h
theorem jS (l:List Mo.Lit):Mo.distinct l=false↔¬l.Nodup:=by
 unfold Mo.distinct
 simp
theorem vg {A:Adr}{H0 H:Hp}{d dx lA rA aA oA:Addr}{lps rps:List (Mo.Row×Addr)}{atoms:List B}{ops:List (Mo.Row×Addr×List B)}{c:Mo.Case}(D:DA A H0 H d dx lA rA aA oA lps rps atoms ops c)(r:Mo.Row):
  Mo.wrong c (.law r)=if dm lps rps lps atoms (aH r) 64 r=0 then (if (c.add (.law r)).numbered.clash 0=true then some 7 else none) else some (dm lps rps lps atoms (aH r) 64 r):=by
 have e1:(c.names.contains r.name=true)↔(r.name∈(lps.map fun y=>y.1.name)∨r.name∈(rps.map fun y=>y.1.name)):=by
  rw[eR,<-D.el,<-D.er,List.map_map,List.map_map]
  rfl
 have e2:(Mo.distinct r.body=false∨c.laws.any (Mo.sameRow r)=true)↔(¬r.body.Nodup∨(lps.map (·.1)).any (Mo.sameRow r)=true):=by
  rw[jS,D.el]
 have e3:(Mo.LAWS<(c.add (.law r)).laws.length∨Mo.ATOMS<(c.add (.law r)).atoms.length)↔((64:Int)<=lps.length∨64<(ded ((atoms++aH r).map st)).length):=by
  have h1:(ded ((atoms++aH r).map st)).length=(c.add (.law r)).atoms.length:=jJ _ _ _ (d0 _) fun x=>by rw[mem_atoms,sw,D.am,fc]
  have h2:lps.length=c.laws.length:=by rw[<-D.el];simp
  rw[h1,h2]
  show 64<(c.laws++[r]).length∨64<_↔_
  rw[List.length_append]
  simp only[List.length_singleton]
  omega
 unfold Mo.wrong dm
 simp only
 by_cases a:c.names.contains r.name=true
 ·rw[if_pos a,if_pos (e1.mp a)];rfl
 rw[if_neg a,if_neg (fun z=>a (e1.mpr z))]
 by_cases b:Mo.distinct r.body=false∨c.laws.any (Mo.sameRow r)=true
 ·rw[if_pos b,if_pos (e2.mp b)];rfl
 rw[if_neg b,if_neg (fun z=>b (e2.mpr z))]
 by_cases f:Mo.LAWS<(c.add (.law r)).laws.length∨Mo.ATOMS<(c.add (.law r)).atoms.length
 ·rw[if_pos f,if_pos (e3.mp f)];rfl
 rw[if_neg f,if_neg (fun z=>f (e3.mpr z))]
 rfl
theorem ur {A:Adr}{H0 H:Hp}{d dx lA rA aA oA:Addr}{lps rps:List (Mo.Row×Addr)}{atoms:List B}{ops:List (Mo.Row×Addr×List B)}{c:Mo.Case}(D:DA A H0 H d dx lA rA aA oA lps rps atoms ops c)(r:Mo.Row):
  Mo.wrong c (.rule r)=if dm lps rps rps atoms (aH r++[r.name]) 10 r=0 then none else some (dm lps rps rps atoms (aH r++[r.name]) 10 r):=by
 have e1:(c.names.contains r.name=true)↔(r.name∈(lps.map fun y=>y.1.name)∨r.name∈(rps.map fun y=>y.1.name)):=by
  rw[eR,<-D.el,<-D.er,List.map_map,List.map_map]
  rfl
 have e2:(Mo.distinct r.body=false∨c.rules.any (Mo.sameRow r)=true)↔(¬r.body.Nodup∨(rps.map (·.1)).any (Mo.sameRow r)=true):=by
  rw[jS,D.er]
 have e3:(Mo.RULES<(c.add (.rule r)).rules.length∨Mo.ATOMS<(c.add (.rule r)).atoms.length)↔((10:Int)<=rps.length∨64<(ded ((atoms++(aH r++[r.name])).map st)).length):=by
  have h1:(ded ((atoms++(aH r++[r.name])).map st)).length=(c.add (.rule r)).atoms.length:=jJ _ _ _ (d0 _) fun x=>by
   rw[mem_atoms,qW,D.am,List.mem_append,fc,List.mem_singleton]
  have h2:rps.length=c.rules.length:=by rw[<-D.er];simp
  rw[h1,h2]
  show 10<(c.rules++[r]).length∨64<_↔_
  rw[List.length_append]
  simp only[List.length_singleton]
  omega
 unfold Mo.wrong dm
 simp only
 by_cases a:c.names.contains r.name=true
 ·rw[if_pos a,if_pos (e1.mp a)];rfl
 rw[if_neg a,if_neg (fun z=>a (e1.mpr z))]
 by_cases b:Mo.distinct r.body=false∨c.rules.any (Mo.sameRow r)=true
 ·rw[if_pos b,if_pos (e2.mp b)];rfl
 rw[if_neg b,if_neg (fun z=>b (e2.mpr z))]
 by_cases f:Mo.RULES<(c.add (.rule r)).rules.length∨Mo.ATOMS<(c.add (.rule r)).atoms.length
 ·rw[if_pos f,if_pos (e3.mp f)];rfl
 rw[if_neg f,if_neg (fun z=>f (e3.mpr z))]
 rfl
theorem kO {a b c d:Addr}{l:List Addr}(h:([a,b,c,d]++l).Nodup):a≠b/\a≠c/\a≠d/\b≠c/\b≠d/\c≠d/\(∀x∈l,x≠a/\x≠b/\x≠c/\x≠d)/\l.Nodup:=by
 simp only[List.cons_append,List.nil_append,List.nodup_cons,List.mem_cons,not_or]at h
 obtain⟨⟨h1,h2,h3,h4⟩,⟨h5,h6,h7⟩,⟨h8,h9⟩,h10,h11⟩:=h
 exact⟨h1,h2,h3,h5,h6,h8,fun x hx=>⟨fun e=>h4 (e▸hx),fun e=>h7 (e▸hx),fun e=>h9 (e▸hx),fun e=>h10 (e▸hx)⟩,h11⟩
theorem DA.law {A:Adr}{H0 H:Hp}{d dx lA rA aA oA p:Addr}{lps rps:List (Mo.Row×Addr)}{atoms:List B}{ops:List (Mo.Row×Addr×List B)}{c:Mo.Case}{r:Mo.Row}(D:DA A H0 H d dx lA rA aA oA lps rps atoms ops c)(hp:RowAt A.Clause H p r)(gr:GoodR r)(hw:Mo.wrong c (.law r)=none):
  DA A H0 (upd (upd H lA (.dK (aZ (lps++[(r,p)])))) aA (.dK (aX (bN atoms (aH r))))) d dx lA rA aA oA (lps++[(r,p)]) rps (bN atoms (aH r)) ops (c.add (.law r)):=by
 obtain⟨n1,n2,n3,n4,n5,n6,n7,n8⟩:=kO D.dist
 have nd:d≠lA:=bo D.ob D.la (by intro z;cases z)
 have nd2:d≠aA:=bo D.ob D.aa (by intro z;cases z)
 have ha1:(upd H lA (.dK (aZ (lps++[(r,p)])))) aA=some (.dK (aX atoms)):=by rw[ae n2.symm];exact D.aa
 have sp:=dZ (aH r) atoms D.an
 refine { same:=aN (aN D.same (D.free lA (by simp))) (D.free aA (by simp)),ob:=?_,la:=?_,ra:=?_,aa:=af,oa:=?_,rl:=?_,rr:=?_,ow:=?_,el:=?_,er:=D.er,eo:=D.eo,an:=sp.1,am:=?_,dist:=D.dist,free:=D.free,good:=wO D.good gr hw }
 ·rw[ae nd2,ae nd];exact D.ob
 ·rw[ae n2,af]
 ·rw[ae n4,ae n1.symm];exact D.ra
 ·rw[ae n6.symm,ae n3.symm];exact D.oa
 ·intro x hx
  rcases List.mem_append.mp hx with z|z
  ·exact⟨((D.rl x z).1.put D.la).put ha1,(D.rl x z).2⟩
  ·simp at z;subst z
   exact⟨(hp.put D.la).put ha1,gr⟩
 ·exact (D.rr.put D.la).put ha1
 ·intro x hx
  obtain⟨m1,m2,m3,m4⟩:=n7 x.2.1 (List.mem_map.mpr ⟨x,hx,rfl⟩)
  refine⟨?_,(D.ow x hx).2⟩
  rw[ae m3,ae m1];exact (D.ow x hx).1
 ·rw[List.map_append,D.el];rfl
 ·intro x
  rw[sp.2,sw,D.am,fc]
theorem DA.rule {A:Adr}{H0 H:Hp}{d dx lA rA aA oA p q:Addr}{lps rps:List (Mo.Row×Addr)}{atoms:List B}{ops:List (Mo.Row×Addr×List B)}{c:Mo.Case}{r:Mo.Row}(D:DA A H0 H d dx lA rA aA oA lps rps atoms ops c)(hp:RowAt A.Clause H p r)(gr:GoodR r)(hw:Mo.wrong c (.rule r)=none)(hq:H q=none):
  DA A H0 (upd (upd (upd (upd H rA (.dK (aZ (rps++[(r,p)])))) q (.dK [])) oA (.dK (dA (ops++[(r,q,[])])))) aA (.dK (aX (bN atoms (aH r++[r.name]))))) d dx lA rA aA oA lps (rps++[(r,p)]) (bN atoms (aH r++[r.name])) (ops++[(r,q,[])]) (c.add (.rule r)):=by
 obtain⟨n1,n2,n3,n4,n5,n6,n7,n8⟩:=kO D.dist
 have nd:d≠rA:=bo D.ob D.ra (by intro z;cases z)
 have nd2:d≠aA:=bo D.ob D.aa (by intro z;cases z)
 have nd3:d≠oA:=bo D.ob D.oa (by intro z;cases z)
 have nq:∀{b:Addr} {o:HO},H b=some o->b≠q:=fun e=>aD e hq
 have h1q:(upd H rA (.dK (aZ (rps++[(r,p)])))) q=none:=by rw[ae (nq D.ra).symm];exact hq
 have keep:∀{x:Mo.Row×Addr},RowAt A.Clause H x.2 x.1->RowAt A.Clause (upd (upd (upd (upd H rA (.dK (aZ (rps++[(r,p)])))) q (.dK [])) oA (.dK (dA (ops++[(r,q,[])])))) aA (.dK (aX (bN atoms (aH r++[r.name]))))) x.2 x.1:=by
  intro x hx
  have a1:=(hx.put (o:=.dK (aZ (rps++[(r,p)]))) D.ra).same (ak (o:=.dK []) h1q)
  have o1:(upd (upd H rA (.dK (aZ (rps++[(r,p)])))) q (.dK [])) oA=some (.dK (dA ops)):=by rw[ae (nq D.oa),ae n5.symm];exact D.oa
  have a2:=a1.put (o:=.dK (dA (ops++[(r,q,[])]))) o1
  have o2:(upd (upd (upd H rA (.dK (aZ (rps++[(r,p)])))) q (.dK [])) oA (.dK (dA (ops++[(r,q,[])])))) aA=some (.dK (aX atoms)):=by rw[ae n6,ae (nq D.aa),ae n4.symm];exact D.aa
  exact a2.put o2
 have sp:=dZ (aH r++[r.name]) atoms D.an
 have hn:¬r.name∈c.names:=by
  simp only[Mo.wrong]at hw
  split at hw
  ·cases hw
  ·rename_i h;simpa using h
 have g:=vT D.good gr hw
 have H0q:H0 q=none:=D.same.free hq
 refine { same:=aN (aN (aN (aN D.same (D.free rA (by simp))) H0q) (D.free oA (by simp))) (D.free aA (by simp)),ob:=?_,la:=?_,ra:=?_,aa:=af,oa:=?_,rl:=fun x hx=>⟨keep (D.rl x hx).1,(D.rl x hx).2⟩,rr:=?_,ow:=?_,el:=D.el,er:=?_,eo:=?_,an:=sp.1,am:=?_,dist:=?_,free:=?_,good:=g }
 ·rw[ae nd2,ae nd3,ae (nq D.ob),ae nd];exact D.ob
 ·rw[ae n2,ae n3,ae (nq D.la),ae n1];exact D.la
 ·rw[ae n4,ae n5,ae (nq D.ra),af]
 ·rw[ae n6.symm,af]
 ·intro x hx
  rcases List.mem_append.mp hx with z|z
  ·exact⟨keep (D.rr x z).1,(D.rr x z).2⟩
  ·simp at z;subst z
   exact⟨keep (x:=(r,p)) hp,gr⟩
 ·intro x hx
  rcases List.mem_append.mp hx with z|z
  ·obtain⟨m1,m2,m3,m4⟩:=n7 x.2.1 (List.mem_map.mpr ⟨x,z,rfl⟩)
   refine⟨?_,(D.ow x z).2⟩
   rw[ae m3,ae m4,ae (nq (D.ow x z).1),ae m2];exact (D.ow x z).1
  ·simp at z;subst z
   refine⟨?_,List.nodup_nil,fun y=>⟨(fun h=>nomatch h),fun h=>?_⟩⟩
   ·show (upd _ aA _) q=_
    rw[ae (nq D.aa).symm,ae (nq D.oa).symm,af];rfl
   ·obtain⟨z,hz⟩:=h.src
    have:=(D.good.wr _ hz).1
    exact absurd (by unfold Mo.Case.names;rw[List.map_append];exact List.mem_append.mpr (.inr this)) hn
 ·rw[List.map_append,D.er];rfl
 ·rw[List.map_append,D.eo];rfl
 ·intro x
  rw[sp.2,qW,D.am,List.mem_append,fc,List.mem_singleton]
 ·rw[List.map_append,<-List.append_assoc]
  refine i9 D.dist fun hm=>?_
  simp only[List.mem_append,List.mem_cons,List.not_mem_nil,or_false,List.mem_map]at hm
  rcases hm with (h|h|h|h)|⟨x,hx,h⟩
  ·exact nq D.la h.symm
  ·exact nq D.ra h.symm
  ·exact nq D.aa h.symm
  ·exact nq D.oa h.symm
  ·exact nq (D.ow x hx).1 h
 ·intro x hx
  rw[List.map_append,<-List.append_assoc]at hx
  rcases List.mem_append.mp hx with z|z
  ·exact D.free x z
  ·simp at z;subst z;exact H0q
section
variable {P:Program}{w:World}{K:PySem.W.Frag}{mg:Str->Option Value}{base:Heap}{A:Adr}
def um (A:Adr):Sp:=fun vs H Q _=>∃(H0:Hp)(d:Addr)(c:Mo.Case),DraftAt A H0 H d c/\((vs=[.ref d,.non]/\Q (.int 1) H)∨∃p r,vs=[.ref d,.ref p]/\RowAt A.Clause H p r/\GoodR r/\
 (∀k:Nat,Mo.wrong c (.law r)=some k->∀H',Same H0 H'->Q (.int k) H')/\(Mo.wrong c (.law r)=none->∀H',DraftAt A H0 H' d (c.add (.law r))->Q (.int 0) H'))
theorem qh (T:Txt K mg A):Cal P w K mg base "enter_law" ["draft","law"] 4 (um A):=by
 have nd:=sc_enter_law.nd
 have C_clause_atoms:=iu (P:=P) (w:=w) (base:=base) T
 have C_clause_fault:=iw (P:=P) (w:=w) (base:=base) T
 have C_laws_clash:=oW (P:=P) (w:=w) (base:=base) T
 have C_keep_atoms:=jO (P:=P) (w:=w) (base:=base) T
 refine T.d_enter_law.ok sc_enter_law (fun vs H Q E h=>?_) (fun f cdv A0 outer s H vs Q E hr h=>?_)
 ·obtain⟨H0,d,c,_,⟨rfl,_⟩|⟨p,r,rfl,_⟩⟩:=h<;>rfl
 ·obtain⟨H0,d,c,DD,⟨rfl,k⟩|⟨p,r,rfl,hp,gr,k0,k1⟩⟩:=h
  all_goals have hu:=b9 hr
  all_goals refine⟨_,(ag (aV (cH (jd (pv 1))) (aj (al (aQ rfl T.c_NO_LINE))) aF) (ag (ap (i:=2) nd rfl lc_ (ao C_clause_atoms (hr.mono (by decide)) rfl (ab (pv 1) ah))) (ag (ap (i:=3) nd rfl lc_ (ao C_clause_fault (hr.mono (by decide)) rfl (ab (pv 0) (ab (pv 1) (ab (aG K (pv 0)) (ab (aQ rfl T.c_MOST_LAWS) (ab (pv 2) ah))))))) (ag (aV (aJ eh (pv 3) (aQ rfl T.c_NO_FAULT) (aK _)) (aj (al (pv 3))) aF) (ag (aV (bE (ao C_laws_clash (hr.mono (by decide)) rfl (ab (aO eT (dI (pj rfl) rfl T.b_list PyProof.Rows.boot_list (ab (va (aG K (pv 0))) ah)) (cx (ab (pv 1) ah))) ah))) (aj (al (aQ rfl T.c_LAWS_CLASH))) aF) (ag (dr hu (aG K (pv 0)) (aG K (pv 1)) (pv 1) rfl) (ag (cN (ao C_keep_atoms (hr.mono (by decide)) rfl (ab (pv 0) (ab (pv 2) ah)))) (aj (al (aQ rfl T.c_NO_FAULT)))))))))),?_⟩
  ·exact⟨_,rfl,_,rfl,cw k⟩
  obtain⟨dx,lA,rA,aA,oA,lps,rps,atoms,ops,D⟩:=DD
  refine⟨_,rfl,_,rfl,bX ?_⟩
  refine⟨_,rfl,p,r,rfl,hp,gr,fun q H1 s1 hq hq1=>?_⟩
  have D1:=D.mono s1
  have hlen:atoms.length+(aH r).length<=1000:=by
   have h1:=D.natoms
   have h2:=D.good.na
   have h3:=gr.few
   unfold aH
   simp
   omega
  refine⟨_,rfl,_,rfl,_,rfl,d,_,dx,_,_,rfl,D1.ob,T.cl_Draft,T.n_Draft_laws,gS,_,rfl,d,p,lA,q,dx,lA,rA,aA,oA,lps,rps,lps,atoms,aH r,64,r,rfl,D1.ob,D1.la,D1.ra,D1.aa,D1.la,D1.rl,hp.same s1,gr,hq1,hlen,fun H2 s2=>?_⟩
  have D2:=D1.mono s2
  have s12:=s1.trans s2
  have hw:=vg D r
  refine⟨_,rfl,rfl,_,rfl,?_⟩
  refine aW (fun h=>?_) (fun h=>?_)
  ·have hne:¬dm lps rps lps atoms (aH r) 64 r=0:=fun z=>by rw[z]at h;exact absurd h (by decide)
   rw[if_neg hne]at hw
   exact⟨_,rfl,k0 _ hw _ (D.same.trans s12)⟩
  have hz:dm lps rps lps atoms (aH r) 64 r=0:=by
   apply Decidable.byContradiction
   intro hne
   refine h ?_
   rw[Bool.not_eq_true',decide_eq_false]
   intro z
   have:=V.int.inj z
   omega
  rw[if_pos hz]at hw
  refine⟨_,rfl,d,_,dx,_,_,rfl,D2.ob,T.cl_Draft,T.n_Draft_laws,gS,lA,_,rfl,D2.la,fun v hv=>?_⟩
  have s3:=ak (o:=pp v lA) hv
  refine⟨v,lA,_,rfl,af,s3 _ _ D2.la,fun p1 hp1=>?_⟩
  have s4:=s3.trans (ak (o:=.lst ((aZ lps).map (·.2))) hp1)
  refine⟨_,rfl,(by show 1<=sizeLine;decide),fun p2 hp2=>?_⟩
  have s5:=s4.trans (ak (o:=.lst [V.ref p]) hp2)
  have nl:lps.length<=64:=by have:=D.good.nl;rw[<-D.el]at this;simpa using this
  refine⟨p1,p2,_,_,rfl,rfl,ak hp2 _ _ af,af,(by unfold aZ;simp;have:100<=sizeLine:=(by decide);omega),fun p3 hp3=>?_⟩
  have s6:=s5.trans (ak (o:=.lst ((aZ lps).map (·.2)++[V.ref p])) hp3)
  have elist:(aZ lps).map (·.2)++[V.ref p]=(lps++[(r,p)]).map fun x=>V.ref x.2:=by
   unfold aZ
   rw[List.map_map,List.map_append]
   rfl
  refine⟨p3,lps++[(r,p)],rfl,(by rw[<-elist];exact af),?_,(by simp;omega),fun b H3 hb s7=>?_⟩
  ·intro x hx
   rcases List.mem_append.mp hx with z|z
   ·exact⟨(D2.rl x z).1.same s6,(D2.rl x z).2⟩
   ·simp at z;subst z
    exact⟨(hp.same s12).same s6,gr⟩
  have D3:=D2.mono (s6.trans s7)
  have hb2:b=true↔(c.add (.law r)).numbered.clash 0=true:=by
   rw[hb,tu,uc]
   ·have:(lps++[(r,p)]).map (·.1)=(c.add (.law r)).laws:=by
     rw[List.map_append,D.el];rfl
    rw[this]
   ·intro x hx
    rw[List.map_append,D.el]at hx
    rcases List.mem_append.mp hx with z|z
    ·exact D.good.rows x (.inl z)
    ·simp at z;subst z;exact gr
  refine⟨_,rfl,?_⟩
  refine aW (fun h=>?_) (fun h=>?_)
  ·rw[if_pos (hb2.mp h)]at hw
   exact k0 _ hw _ D3.same
  rw[if_neg (fun z=>h (hb2.mpr z))]at hw
  have hpr:=(hp.same s12).same (s6.trans s7)
  obtain⟨dy,bp,h1,h2⟩:=id hpr
  have hnm:¬r.name∈(lps.map fun y=>y.1.name):=fun z=>by
   have:¬c.names.contains r.name=true:=by
    simp only[Mo.wrong]at hw
    split at hw
    ·cases hw
    ·assumption
   refine this ((eR c r.name).mpr (.inl ?_))
   rw[<-D.el,List.map_map];exact z
  refine⟨_,rfl,_,rfl,d,_,dx,_,_,rfl,D3.ob,T.cl_Draft,T.n_Draft_laws,gS,_,rfl,p,_,dy,_,_,rfl,h1,T.cl_Clause,T.n_Clause_name,fq,lA,_,rfl,DPut.k (k:=kN r.name) D3.la (by unfold aZ;simp;have:100<=sizeLine:=(by decide);omega),?_⟩
  rw[pO hnm]
  obtain⟨n1,n2,n3,n4,n5,n6,n7,n8⟩:=kO D.dist
  have ndl:d≠lA:=bo D3.ob D3.la (by intro z;cases z)
  have hq3:H3 q=some (.lst ((aH r).map sv)):=(s6.trans s7) _ _ (s2 _ _ hq1)
  refine⟨_,rfl,_,rfl,d,q,dx,lA,rA,aA,oA,atoms,aH r,rfl,(by rw[ae ndl];exact D3.ob),(by rw[ae n2.symm];exact D3.aa),(by rw[ae (bo hq3 D3.la (by intro z;cases z))];exact hq3),(by have:1000<=LB:=(by decide);omega),?_⟩
  exact k1 hw _ ⟨dx,lA,rA,aA,oA,_,_,_,_,D3.law hpr gr hw⟩
def rT (A:Adr):Sp:=fun vs H Q _=>∃(H0:Hp)(d:Addr)(c:Mo.Case),DraftAt A H0 H d c/\((vs=[.ref d,.non]/\Q (.int 1) H)∨∃p r,vs=[.ref d,.ref p]/\RowAt A.Clause H p r/\GoodR r/\
 (∀k:Nat,Mo.wrong c (.rule r)=some k->∀H',Same H0 H'->Q (.int k) H')/\(Mo.wrong c (.rule r)=none->∀H',DraftAt A H0 H' d (c.add (.rule r))->Q (.int 0) H'))
theorem o8 (T:Txt K mg A):Cal P w K mg base "enter_rule" ["draft","rule"] 3 (rT A):=by
 have nd:=sc_enter_rule.nd
 have C_clause_atoms:=iu (P:=P) (w:=w) (base:=base) T
 have C_clause_fault:=iw (P:=P) (w:=w) (base:=base) T
 have C_keep_atoms:=jO (P:=P) (w:=w) (base:=base) T
 refine T.d_enter_rule.ok sc_enter_rule (fun vs H Q E h=>?_) (fun f cdv A0 outer s H vs Q E hr h=>?_)
 ·obtain⟨H0,d,c,_,⟨rfl,_⟩|⟨p,r,rfl,_⟩⟩:=h<;>rfl
 ·obtain⟨H0,d,c,DD,⟨rfl,k⟩|⟨p,r,rfl,hp,gr,k0,k1⟩⟩:=h
  all_goals have hu:=b9 hr
  all_goals refine⟨_,(ag (aV (cH (jd (pv 1))) (aj (al (aQ rfl T.c_NO_LINE))) aF) (ag (ap (i:=2) nd rfl lc_ (aO eT (ao C_clause_atoms (hr.mono (by decide)) rfl (ab (pv 1) ah)) (cx (ab (aG K (pv 1)) ah)))) (ag (ap (i:=3) nd rfl lc_ (ao C_clause_fault (hr.mono (by decide)) rfl (ab (pv 0) (ab (pv 1) (ab (aG K (pv 0)) (ab (aQ rfl T.c_MOST_RULES) (ab (pv 2) ah))))))) (ag (aV (aJ eh (pv 3) (aQ rfl T.c_NO_FAULT) (aK _)) (aj (al (pv 3))) aF) (ag (dr hu (aG K (pv 0)) (aG K (pv 1)) (pv 1) rfl) (ag (dr hu (aG K (pv 0)) (aG K (pv 1)) da rfl) (ag (cN (ao C_keep_atoms (hr.mono (by decide)) rfl (ab (pv 0) (ab (pv 2) ah)))) (aj (al (aQ rfl T.c_NO_FAULT)))))))))),?_⟩
  ·exact⟨_,rfl,_,rfl,cw k⟩
  obtain⟨dx,lA,rA,aA,oA,lps,rps,atoms,ops,D⟩:=DD
  refine⟨_,rfl,_,rfl,bX ?_⟩
  refine⟨_,rfl,p,r,rfl,hp,gr,fun q0 H1 s1 hq0 hq01=>?_⟩
  obtain⟨dy,bp,h1,h2⟩:=id (hp.same s1)
  have few:=gr.few
  refine⟨_,rfl,p,_,dy,_,_,rfl,h1,T.cl_Clause,T.n_Clause_name,fq,(by show 1<=sizeLine;decide),fun q1 hq1=>?_⟩
  have s2:=s1.trans (ak (o:=.lst [sv r.name]) hq1)
  refine⟨q0,q1,_,_,rfl,rfl,ak hq1 _ _ hq01,af,(by unfold aH;simp;have:100<=sizeLine:=(by decide);omega),fun q hq=>?_⟩
  have s3:=s2.trans (ak (o:=.lst ((aH r).map sv++[sv r.name])) hq)
  have hqv:(upd (upd H1 q1 (.lst [sv r.name])) q (.lst ((aH r).map sv++[sv r.name]))) q=some (.lst ((aH r++[r.name]).map sv)):=by
   rw[af,List.map_append]
   rfl
  generalize upd (upd H1 q1 (.lst [sv r.name])) q (.lst ((aH r).map sv++[sv r.name]))=H2 at s3 hqv
  have D2:=D.mono s3
  have hlen:atoms.length+(aH r++[r.name]).length<=1000:=by
   have h1:=D.natoms
   have h2:=D.good.na
   unfold aH
   simp
   omega
  refine⟨_,rfl,_,rfl,_,rfl,d,_,dx,_,_,rfl,D2.ob,T.cl_Draft,T.n_Draft_rules,dD,_,rfl,d,p,rA,q,dx,lA,rA,aA,oA,lps,rps,rps,atoms,aH r++[r.name],10,r,rfl,D2.ob,D2.la,D2.ra,D2.aa,D2.ra,D2.rr,hp.same s3,gr,hqv,hlen,fun H3 s4=>?_⟩
  have D3:=D2.mono s4
  have s34:=s3.trans s4
  have hw:=ur D r
  refine⟨_,rfl,rfl,_,rfl,?_⟩
  refine aW (fun h=>?_) (fun h=>?_)
  ·have hne:¬dm lps rps rps atoms (aH r++[r.name]) 10 r=0:=fun z=>by rw[z]at h;exact absurd h (by decide)
   rw[if_neg hne]at hw
   exact⟨_,rfl,k0 _ hw _ (D.same.trans s34)⟩
  have hz:dm lps rps rps atoms (aH r++[r.name]) 10 r=0:=by
   apply Decidable.byContradiction
   intro hne
   refine h ?_
   rw[Bool.not_eq_true',decide_eq_false]
   intro z
   have:=V.int.inj z
   omega
  rw[if_pos hz]at hw
  have hpr:=hp.same s34
  obtain⟨dy',bp',h1',h2'⟩:=id hpr
  have nr:rps.length<=10:=by have:=D.good.nu;rw[<-D.er]at this;simpa using this
  have hcn:¬c.names.contains r.name=true:=by
   have hw:=hw
   simp only[Mo.wrong]at hw
   split at hw
   ·cases hw
   ·assumption
  have hnm:¬r.name∈(rps.map fun y=>y.1.name):=fun z=>by
   refine hcn ((eR c r.name).mpr (.inr ?_))
   rw[<-D.er,List.map_map];exact z
  obtain⟨n1,n2,n3,n4,n5,n6,n7,n8⟩:=kO D.dist
  have ndr:d≠rA:=bo D3.ob D3.ra (by intro z;cases z)
  have ndo:d≠oA:=bo D3.ob D3.oa (by intro z;cases z)
  have sl:100<=sizeLine:=by decide
  refine⟨_,rfl,_,rfl,d,_,dx,_,_,rfl,D3.ob,T.cl_Draft,T.n_Draft_rules,dD,_,rfl,p,_,dy',_,_,rfl,h1',T.cl_Clause,T.n_Clause_name,fq,rA,_,rfl,DPut.k (k:=kN r.name) D3.ra (by unfold aZ;simp;omega),?_⟩
  rw[pO hnm]
  have hpr2:=hpr.put (o:=.dK (aZ (rps++[(r,p)]))) D3.ra
  obtain⟨dz,bz,h1z,h2z⟩:=id hpr2
  intro q2 hq2
  have sq2:=ak (o:=.dK []) hq2
  have hq2':H3 q2=none:=by
   rw[ae]at hq2
   ·exact hq2
   ·intro z
    subst z
    rw[af]at hq2;cases hq2
  have hoA:(upd H3 rA (.dK (aZ (rps++[(r,p)])))) oA=some (.dK (dA ops)):=by rw[ae n5.symm];exact D3.oa
  have nop:ops.length<=10:=by have:=D.good.nu;rw[<-D.eo]at this;simpa using this
  have hno:¬r.name∈ops.map fun y=>y.1.name:=fun z=>by
   refine hcn ((eR c r.name).mpr (.inr ?_))
   rw[<-D.eo,List.map_map];exact z
  refine⟨_,rfl,d,_,dx,_,_,rfl,sq2 _ _ (by rw[ae ndr];exact D3.ob),T.cl_Draft,T.n_Draft_outweighed,gO,_,rfl,p,_,dz,_,_,rfl,sq2 _ _ h1z,T.cl_Clause,T.n_Clause_name,fq,oA,_,rfl,DPut.k (k:=kN r.name) (sq2 _ _ hoA) (by unfold dA;simp;omega),?_⟩
  have eput:bI (dA ops) (kN r.name) (.ref q2)=dA (ops++[(r,q2,[])]):=by
   have hk:(dA ops).map (·.1)=(ops.map fun y=>y.1.name).map kN:=by unfold dA;rw[List.map_map,List.map_map];rfl
   rw[fO _ (gd (by rw[hk];exact fun z=>hno (mem_kN.mp z)))]
   unfold dA
   rw[List.map_append]
   rfl
  rw[eput]
  have hq3:H3 q=some (.lst ((aH r++[r.name]).map sv)):=s4 _ _ hqv
  have hfin:=D3.rule hpr gr hw hq2'
  have nq2:∀{b:Addr} {o:HO},H3 b=some o->b≠q2:=fun e=>aD e hq2'
  refine⟨_,rfl,_,rfl,d,q,dx,lA,rA,aA,oA,atoms,aH r++[r.name],rfl,(by rw[ae ndo,ae (nq2 D3.ob),ae ndr];exact D3.ob),(by rw[ae n6,ae (nq2 D3.aa),ae n4.symm];exact D3.aa),
   (by rw[ae (bo hq3 D3.oa (by intro z;cases z)),ae (nq2 hq3),ae (bo hq3 D3.ra (by intro z;cases z))];exact hq3),(by have:1000<=LB:=(by decide);omega),?_⟩
  exact k1 hw _ ⟨dx,lA,rA,aA,oA,_,_,_,_,hfin⟩
end
theorem qi:∀{l:List (Mo.Row×Addr×List B)} {x:Mo.Row×Addr×List B},(l.map fun y=>y.1.name).Nodup->x∈l->az (dA l) (kN x.1.name)=some (.ref x.2.1)
 |y :: l,x,hn,hx=>by
  rw[List.map_cons,List.nodup_cons]at hn
  by_cases e:y.1.name=x.1.name
  ·have:x=y:=by
    rcases List.mem_cons.mp hx with z|z
    ·exact z
    ·exact absurd (e▸List.mem_map.mpr ⟨x,z,rfl⟩) hn.1
   subst this
   exact bL rfl
  ·have n:¬(kN y.1.name)=kN x.1.name:=fun z=>e (d7 z)
   show az ((kN y.1.name,V.ref y.2.1) :: dA l) _=_
   rw[bM n]
   rcases List.mem_cons.mp hx with z|z
   ·subst z;exact absurd rfl e
   ·exact qi hn.2 z
theorem DA.names {A:Adr}{H0 H:Hp}{d dx lA rA aA oA:Addr}{lps rps:List (Mo.Row×Addr)}{atoms:List B}{ops:List (Mo.Row×Addr×List B)}{c:Mo.Case}(D:DA A H0 H d dx lA rA aA oA lps rps atoms ops c):(ops.map fun y=>y.1.name).Nodup/\(rps.map fun y=>y.1.name).Nodup/\(lps.map fun y=>y.1.name).Nodup:=by
 have nd:=D.good.nd
 unfold Mo.Case.names at nd
 rw[List.map_append]at nd
 have h:=List.nodup_append.mp nd
 refine⟨?_,?_,?_⟩
 ·have:=h.2.1
  rw[<-D.eo,List.map_map]at this
  exact this
 ·have:=h.2.1
  rw[<-D.er,List.map_map]at this
  exact this
 ·have:=h.1
  rw[<-D.el,List.map_map]at this
  exact this
theorem DA.isRule {A:Adr}{H0 H:Hp}{d dx lA rA aA oA:Addr}{lps rps:List (Mo.Row×Addr)}{atoms:List B}{ops:List (Mo.Row×Addr×List B)}{c:Mo.Case}(D:DA A H0 H d dx lA rA aA oA lps rps atoms ops c)(x:B):(c.ruleNo x).isNone=true↔¬x∈rps.map fun y=>y.1.name:=by
 rw[iI,<-D.er,List.map_map]
 rfl
theorem DA.entry {A:Adr}{H0 H:Hp}{d dx lA rA aA oA:Addr}{lps rps:List (Mo.Row×Addr)}{atoms:List B}{ops:List (Mo.Row×Addr×List B)}{c:Mo.Case}(D:DA A H0 H d dx lA rA aA oA lps rps atoms ops c){x:B}(h:x∈rps.map fun y=>y.1.name):∃q∈ops,q.1.name=x:=by
 have:x∈(ops.map (·.1)).map Mo.Row.name:=by
  rw[D.eo,<-D.er,List.map_map]
  exact h
 rw[List.map_map]at this
 obtain⟨q,hq,e⟩:=List.mem_map.mp this
 exact⟨q,hq,e⟩
theorem ik {a b:V}:([(("heavier":Str),a),("lighter",b)]:List (Str×V)).lookup ("heavier":Str)=some a:=rfl
theorem ii {a b:V}:([(("heavier":Str),a),("lighter",b)]:List (Str×V)).lookup ("lighter":Str)=some b:=by
 have h1:(("lighter":Str)==("heavier":Str))=false:=by decide +kernel
 simp[List.lookup,h1]
def upW (x y:B)(ly:List B)(q:Mo.Row×Addr×List B):List B:=if q.1.name=x∨x∈q.2.2 then bN q.2.2 (y :: ly) else q.2.2
theorem DA.weigh {A:Adr}{H0 H H':Hp}{d dx lA rA aA oA:Addr}{lps rps:List (Mo.Row×Addr)}{atoms:List B}{ops:List (Mo.Row×Addr×List B)}{c:Mo.Case}{x y:B}{ly:List B}(D:DA A H0 H d dx lA rA aA oA lps rps atoms ops c)(hw:Mo.wrong c (.weigh x y)=none)(hy:∀z,z∈ly↔TC c.weighs y z)
  (k1:∀b o,H b=some o->(∀q∈ops,b≠q.2.1)->H' b=some o)(k2:∀q∈ops,H' q.2.1=some (.dK (aX (upW x y ly q)))):
  DA A H0 H' d dx lA rA aA oA lps rps atoms (ops.map fun q=>(q.1,q.2.1,upW x y ly q)) (c.add (.weigh x y)):=by
 obtain⟨n1,n2,n3,n4,n5,n6,n7,n8⟩:=kO D.dist
 have other:∀{b:Addr} {o:HO},H b=some o->(∀kvs,o≠.dK kvs)->H' b=some o:=fun {b o} hb ho=>k1 b o hb fun q hq e=>by
  have:=(D.ow q hq).1
  rw[<-e,hb]at this
  exact ho _ (Option.some.inj this)
 have four:∀b∈[lA,rA,aA,oA],∀q∈ops,b≠q.2.1:=fun b hb q hq e=>by
  obtain⟨m1,m2,m3,m4⟩:=n7 q.2.1 (List.mem_map.mpr ⟨q,hq,rfl⟩)
  simp at hb
  rcases hb with z|z|z|z
  ·exact m1 (e.symm.trans z)
  ·exact m2 (e.symm.trans z)
  ·exact m3 (e.symm.trans z)
  ·exact m4 (e.symm.trans z)
 have rows:∀{z:Mo.Row×Addr},RowAt A.Clause H z.2 z.1->RowAt A.Clause H' z.2 z.1:=fun ⟨dz,bp,a,b⟩=>⟨dz,bp,other a (by intro _ z;cases z),other b (by intro _ z;cases z)⟩
 have eaddr:(ops.map fun q=>(q.1,q.2.1,upW x y ly q)).map (fun q=>q.2.1)=ops.map fun q=>q.2.1:=by rw[List.map_map];rfl
 refine { same:=fun b o hb=>k1 b o (D.same b o hb) fun q hq e=>?_,ob:=other D.ob (by intro _ z;cases z),la:=k1 _ _ D.la (four lA (by simp)),ra:=k1 _ _ D.ra (four rA (by simp)),aa:=k1 _ _ D.aa (four aA (by simp)),oa:=?_,rl:=fun z hz=>⟨rows (D.rl z hz).1,(D.rl z hz).2⟩,rr:=fun z hz=>⟨rows (D.rr z hz).1,(D.rr z hz).2⟩,ow:=?_,el:=D.el,er:=D.er,eo:=?_,an:=D.an,am:=D.am,dist:=by rw[eaddr];exact D.dist,free:=by rw[eaddr];exact D.free,good:=ub D.good hw }
 ·have:=D.free q.2.1 (List.mem_append.mpr (.inr (List.mem_map.mpr ⟨q,hq,rfl⟩)))
  rw[<-e,hb]at this;cases this
 ·have:=k1 _ _ D.oa (four oA (by simp))
  rw[this]
  unfold dA
  rw[List.map_map]
  rfl
 ·intro z hz
  obtain⟨q,hq,rfl⟩:=List.mem_map.mp hz
  obtain⟨_,o2,o3⟩:=D.ow q hq
  refine⟨k2 q hq,?_,fun z=>?_⟩
  ·show (upW x y ly q).Nodup
   unfold upW
   split
   ·exact (dZ _ _ o2).1
   ·exact o2
  ·show z∈upW x y ly q↔TC (c.weighs++[(x,y)]) q.1.name z
   rw[TC_snoc,or_false]
   unfold upW
   by_cases h:q.1.name=x∨x∈q.2.2
   ·rw[if_pos h,(dZ _ _ o2).2,o3]
    rw[o3]at h
    simp only[List.mem_cons,hy]
    constructor
    ·rintro (a|a)
     ·exact .inl a
     ·exact .inr ⟨h,a⟩
    ·rintro (a|⟨_,a⟩)
     ·exact .inl a
     ·exact .inr a
   ·rw[if_neg h,o3]
    rw[o3]at h
    constructor
    ·exact .inl
    ·rintro (a|⟨a,_⟩)
     ·exact a
     ·exact absurd a h
 ·rw[List.map_map]
  exact D.eo
section
variable {P:Program}{w:World}{K:PySem.W.Frag}{mg:Str->Option Value}{base:Heap}{A:Adr}
theorem ig {H:Hp}{oA:Addr}{ops:List (Mo.Row×Addr×List B)}{q:Mo.Row×Addr×List B}{y:B}(h:H oA=some (.dK (dA ops)))(hn:(ops.map fun y=>y.1.name).Nodup)(hq:q∈ops)(e:q.1.name=y):DGet H oA (sv y) (some (.ref q.2.1)):=by
 subst e
 rw[<-qi hn hq]
 exact DGet.k (k:=kN q.1.name) h
theorem sj {K:PySem.W.Frag}{mg:Str->Option Value}{A:Adr}(T:Txt K mg A){D:Ends}{H:Hp}{d p L dx lA rA aA oA qa:Addr}{name:B}{bl l0:List B}{fv v5:Option V}(hd:H d=some (.ins A.Draft dx (cC lA rA aA oA)))(hg:∀o,DGet (upd H qa o) oA (sv name) (some (.ref qa)))
  (hL:H L=some (.lst (bl.map sv)))(hq:H qa=some (.dK (aX l0)))(hlen:l0.length+bl.length<=1000)(k:∀v5',D.nx [some (.ref d),some (.ref p),fv,some (.ref L),some (sv name),v5'] (upd H qa (.dK (aX (bN l0 bl))))):
  zg (xz K (mY 3)) (fi 5) (xB (xD (wf K (mY 0) "outweighed") (mY 4)) (mY 5) (tC (.bl true))) D [some (.ref d),some (.ref p),fv,some (.ref L),some (sv name),v5] H:=by
 have nd:d≠qa:=bo hd hq (by intro z;cases z)
 have nL:L≠qa:=bo hL hq (by intro z;cases z)
 refine⟨_,rfl,L,rfl,⟨_,SqL.of hL⟩,cz (aR (xs:=bl.map sv)) (fun i σ H2=>H2=upd H qa (.dK (aX (bN l0 (bl.take i))))/\∃v5',σ=[some (.ref d),some (.ref p),fv,some (.ref L),some (sv name),v5']) ?_ ?_ ?_ ?_⟩
 ·refine⟨?_,v5,rfl⟩
  show H=upd H qa (.dK (aX l0))
  rw[lZ hq]
 ·rintro i σ H2 _ ⟨rfl,_⟩
  exact SqL.of (by rw[ae nL];exact hL)
 ·rintro i z σ H2 hi e ⟨rfl,v5',rfl⟩
  rw[List.getElem?_map]at e
  obtain⟨y,ey,rfl⟩:=Option.map_eq_some_iff.mp e
  refine⟨_,rfl,d,_,dx,_,_,rfl,(by rw[ae nd];exact hd),T.cl_Draft,T.n_Draft_outweighed,gO,_,rfl,oA,_,rfl,hg _,_,rfl,qa,_,rfl,DPut.k (k:=kN y) af ?_,?_⟩
  ·have h1:=ji (bl.take i) l0
   rw[List.length_take]at h1
   have h2:1000<sizeLine:=by decide
   unfold aX
   rw[List.length_map]
   omega
  ·refine⟨?_,_,rfl⟩
   rw[bW,pB]
   have:bl.take (i+1)=bl.take i++[y]:=by rw[List.take_succ,ey];rfl
   rw[this]
   unfold bN
   rw[List.foldl_append]
   rfl
 ·rintro σ H2 ⟨rfl,v5',rfl⟩
  rw[List.length_map,List.take_of_length_le (Nat.le_refl _)]
  exact k v5'
def xm (A:Adr):Sp:=fun vs H Q _=>∃(H0:Hp)(d p:Addr)(c:Mo.Case)(x y:B),vs=[.ref d,.ref p]/\DraftAt A H0 H d c/\lz A.Weight H p x y/\Q (.int ((Mo.wrong c (.weigh x y)).getD 0:Nat)) H
theorem mT (T:Txt K mg A):Cal P w K mg base "weight_fault" ["draft","weight"] 1 (xm A):=by
 have nd:=sc_weight_fault.nd
 refine T.d_weight_fault.ok sc_weight_fault (fun vs H Q E h=>?_) (fun f cdv A0 outer s H vs Q E hr h=>?_)
 ·obtain⟨H0,d,p,c,x,y,rfl,_⟩:=h
  rfl
 ·obtain⟨H0,d,p,c,x,y,rfl,⟨dx,lA,rA,aA,oA,lps,rps,atoms,ops,D⟩,⟨dw,hp⟩,k⟩:=h
  have hu:=b9 hr
  refine⟨_,(ag (aV (PW.pt (dM (cH (io hu (aG K (pv 1)) (aG K (pv 0))) (by with_unfolding_all rfl)) (di (cH (io hu (aG K (pv 1)) (aG K (pv 0))) (by with_unfolding_all rfl))))) (aj (al (aQ rfl T.c_NO_RULES_NAME))) aF) (ag (aV (PW.pt (dM (aJ cM (aG K (pv 1)) (aG K (pv 1)) (aK _)) (di (cH (ja hu (aG K (pv 1)) (cn hu (aG K (pv 0)) (aG K (pv 1)) (fun _ _=>rfl))) (by with_unfolding_all rfl))))) (aj (al (aQ rfl T.c_CIRCLE))) aF) (aj (al (aQ rfl T.c_NO_FAULT))))),?_⟩
  simp only[Mo.wrong]at k
  refine⟨_,rfl,p,_,dw,_,_,rfl,hp,T.cl_Weight,T.n_Weight_heavier,ik,_,rfl,d,_,dx,_,_,rfl,D.ob,T.cl_Draft,T.n_Draft_rules,dD,rA,_,rfl,DGet.k (k:=kN x) D.ra,_,rfl,?_⟩
  rw[jh]
  refine aW (fun h=>?_) (fun h=>?_)
  ·have h:¬x∈rps.map fun y=>y.1.name:=by simpa using h
   rw[if_pos (.inl ((D.isRule x).mpr h))]at k
   exact k
  have hx:x∈rps.map fun y=>y.1.name:=by simpa using h
  refine⟨_,rfl,p,_,dw,_,_,rfl,hp,T.cl_Weight,T.n_Weight_lighter,ii,_,rfl,d,_,dx,_,_,rfl,D.ob,T.cl_Draft,T.n_Draft_rules,dD,rA,_,rfl,DGet.k (k:=kN y) D.ra,_,rfl,?_⟩
  rw[jh]
  refine aW (fun h=>?_) (fun h=>?_)
  ·have h:¬y∈rps.map fun y=>y.1.name:=by simpa using h
   rw[if_pos (.inr ((D.isRule y).mpr h))]at k
   exact k
  have hy:y∈rps.map fun y=>y.1.name:=by simpa using h
  rw[if_neg (fun z=>z.elim (fun z=>(D.isRule x).mp z hx) (fun z=>(D.isRule y).mp z hy))]at k
  have hg:=m6 (w:=c.weighs) (x:=x) (y:=y) D.good.nr
  refine⟨_,rfl,p,_,dw,_,_,rfl,hp,T.cl_Weight,T.n_Weight_heavier,ik,_,rfl,p,_,dw,_,_,rfl,hp,T.cl_Weight,T.n_Weight_lighter,ii,rfl,_,rfl,?_⟩
  rw[g8]
  refine aW (fun h=>?_) (fun h=>?_)
  ·rw[if_pos (hg.mpr (.inl (of_decide_eq_true h)))]at k
   exact k
  have hne:¬x=y:=fun z=>h (decide_eq_true z)
  obtain⟨q,hq,rfl⟩:=D.entry hy
  obtain⟨o1,o2,o3⟩:=D.ow q hq
  refine⟨_,rfl,p,_,dw,_,_,rfl,hp,T.cl_Weight,T.n_Weight_heavier,ik,_,rfl,d,_,dx,_,_,rfl,D.ob,T.cl_Draft,T.n_Draft_outweighed,gO,_,rfl,p,_,dw,_,_,rfl,hp,T.cl_Weight,T.n_Weight_lighter,ii,oA,_,rfl,ig D.oa D.names.1 hq rfl,q.2.1,_,rfl,DGet.k (k:=kN x) o1,_,rfl,?_⟩
  rw[qv]
  refine aW (fun h=>?_) (fun h=>?_)
  ·rw[if_pos (hg.mpr (.inr ((o3 x).mp (of_decide_eq_true h))))]at k
   exact k
  ·rw[if_neg (fun z=>(hg.mp z).elim hne fun z=>h (decide_eq_true ((o3 x).mpr z)))]at k
   exact k
def oX (A:Adr):Sp:=fun vs H Q _=>∃(H0:Hp)(d:Addr)(c:Mo.Case),DraftAt A H0 H d c/\((vs=[.ref d,.non]/\Q (.int 1) H)∨∃p x y,vs=[.ref d,.ref p]/\lz A.Weight H p x y/\
 (∀k:Nat,Mo.wrong c (.weigh x y)=some k->Q (.int k) H)/\(Mo.wrong c (.weigh x y)=none->∀H',DraftAt A H0 H' d (c.add (.weigh x y))->Q (.int 0) H'))
theorem mC (T:Txt K mg A):Cal P w K mg base "enter_weight" ["draft","weight"] 2 (oX A):=by
 have nd:=sc_enter_weight.nd
 have C_weight_fault:=mT (P:=P) (w:=w) (base:=base) T
 refine T.d_enter_weight.ok sc_enter_weight (fun vs H Q E h=>?_) (fun f cdv A0 outer s H vs Q E hr h=>?_)
 ·obtain⟨H0,d,c,_,⟨rfl,_⟩|⟨p,x,y,rfl,_⟩⟩:=h<;>rfl
 ·obtain⟨H0,d,c,DD,⟨rfl,k⟩|⟨p,x,y,rfl,hp,k0,k1⟩⟩:=h
  all_goals have hu:=b9 hr
  all_goals refine⟨_,(ag (aV (cH (jd (pv 1))) (aj (al (aQ rfl T.c_NO_LINE))) aF) (ag (ap (i:=2) nd rfl lc_ (ao C_weight_fault (hr.mono (by decide)) rfl (ab (pv 0) (ab (pv 1) ah)))) (ag (aV (aJ eh (pv 2) (aQ rfl T.c_NO_FAULT) (aK _)) (aj (al (pv 2))) aF) (ag (ap (i:=3) nd rfl lc_ (aO eT (cx (ab (aG K (pv 1)) ah)) (dI (jM rfl) rfl T.b_list PyProof.Rows.boot_list (ab (cn hu (aG K (pv 0)) (aG K (pv 1)) (fun _ _=>rfl)) ah)))) (ag (sM (bO PassesOwn.never rfl (nE (aG K (pv 0))) (aw (i:=4) nd rfl lc_) (aj (aV (PW.pt (dM (aJ cM (pv 4) (aG K (pv 1)) (aK _)) (di (cH (ja hu (aG K (pv 1)) (cn hu (aG K (pv 0)) (pv 4) (fun _ _=>rfl))) (by with_unfolding_all rfl))))) (aj (bO PassesOwn.never rfl (be (pv 3)) (aw (i:=5) nd rfl lc_) (aj (dr hu (cn hu (aG K (pv 0)) (pv 4) (fun _ _=>rfl)) (pv 5) mS rfl)))) aF)))) (aj (al (aQ rfl T.c_NO_FAULT)))))))),?_⟩
  ·exact⟨_,rfl,_,rfl,cw k⟩
  refine⟨_,rfl,_,rfl,bX ?_⟩
  refine⟨_,rfl,_,rfl,H0,d,p,c,x,y,rfl,DD,hp,?_⟩
  obtain⟨dx,lA,rA,aA,oA,lps,rps,atoms,ops,D⟩:=DD
  refine⟨_,rfl,rfl,_,rfl,?_⟩
  refine aW (fun h=>?_) (fun h=>?_)
  ·cases e:Mo.wrong c (.weigh x y) with
   |none=>rw[e]at h;exact absurd h (by decide)
   |some n=>exact⟨_,rfl,k0 n e⟩
  have hw:Mo.wrong c (.weigh x y)=none:=by
   cases e:Mo.wrong c (.weigh x y) with
   |none=>rfl
   |some n=>
    exfalso
    refine h ?_
    rw[e,Bool.not_eq_true',decide_eq_false]
    intro z
    have:=V.int.inj z
    have h1:=oj e
    simp at this
    omega
  have hxy:x∈(rps.map fun y=>y.1.name)/\y∈(rps.map fun y=>y.1.name):=by
   simp only[Mo.wrong]at hw
   split at hw
   ·cases hw
   rename_i h1
   rw[not_or,D.isRule,D.isRule,Decidable.not_not,Decidable.not_not]at h1
   exact h1
  obtain⟨dw,hp⟩:=hp
  obtain⟨qy,hqy,ey⟩:=D.entry hxy.2
  obtain⟨y1,y2,y3⟩:=D.ow qy hqy
  obtain⟨n1,n2,n3,n4,n5,n6,n7,n8⟩:=kO D.dist
  have lenS:∀q∈ops,q.2.2.length<=10:=fun q hq=>by
   obtain⟨_,o2,o3⟩:=D.ow q hq
   have:=cf (m:=c.rules.map Mo.Row.name) o2 fun z hz=>by
    obtain⟨u,hu⟩:=((o3 z).mp hz).tgt
    exact (D.good.wr _ hu).2
   rw[List.length_map]at this
   have:=D.good.nu
   omega
  have sl:100<=sizeLine:=by decide
  refine⟨_,rfl,p,_,dw,_,_,rfl,hp,T.cl_Weight,T.n_Weight_lighter,ii,(by show 1<=sizeLine;decide),fun L1 hL1=>?_⟩
  have s1:=ak (o:=.lst [sv y]) hL1
  refine⟨_,rfl,d,_,dx,_,_,rfl,s1 _ _ D.ob,T.cl_Draft,T.n_Draft_outweighed,gO,_,rfl,p,_,dw,_,_,rfl,s1 _ _ hp,T.cl_Weight,T.n_Weight_lighter,ii,oA,_,rfl,ig (s1 _ _ D.oa) D.names.1 hqy ey,qy.2.1,_,rfl,s1 _ _ y1,fun L2 hL2=>?_⟩
  have s2:=s1.trans (ak (o:=.lst ((aX qy.2.2).map fun z=>kV z.1)) hL2)
  have ek:((aX qy.2.2).map fun z=>kV z.1)=qy.2.2.map sv:=by unfold aX;rw[List.map_map];rfl
  have hly:=lenS qy hqy
  rw[ek]at s2 ⊢
  refine⟨L1,L2,_,_,rfl,rfl,ak hL2 _ _ af,af,(by simp;omega),fun L3 hL3=>?_⟩
  have s3:=s2.trans (ak (o:=.lst ([sv y]++qy.2.2.map sv)) hL3)
  have hb3:(upd (upd (upd H L1 (.lst [sv y])) L2 (.lst (qy.2.2.map sv))) L3 (.lst ([sv y]++qy.2.2.map sv))) L3=some (.lst ((y :: qy.2.2).map sv)):=af
  generalize upd (upd (upd H L1 (.lst [sv y])) L2 (.lst (qy.2.2.map sv))) L3 (.lst ([sv y]++qy.2.2.map sv))=H1 at s3 hb3
  have D1:=D.mono s3
  have hp1:=s3 _ _ hp
  refine⟨rA,_,D1.ra,trivial,fun od=>?_⟩
  have fz:∀{b:Addr} {o:HO},H1 b=some o->b≠rA->(upd H1 rA (.frz od (.dK (aZ rps)))) b=some o:=fun hb hne=>by rw[ae hne];exact hb
  have nq:∀q∈ops,q.2.1≠rA:=fun q hq=>(n7 q.2.1 (List.mem_map.mpr ⟨q,hq,rfl⟩)).2.1
  let new:Nat->Nat->Mo.Row×Addr×List B->List B:=fun i j q=>if j<i then upW x y qy.2.2 q else q.2.2
  refine⟨_,rfl,d,_,dx,_,_,rfl,fz D1.ob (bo D1.ob D1.ra (by intro z;cases z)),T.cl_Draft,T.n_Draft_rules,dD,rA,od,rfl,.inl ⟨_,af,cz jj (fun i σ H2=>(∀b o,(upd H1 rA (.frz od (.dK (aZ rps)))) b=some o->(∀q∈ops,b≠q.2.1)->H2 b=some o)/\(∀j q,ops[j]?=some q->H2 q.2.1=some (.dK (aX (new i j q))))/\
   ∃v4 v5 fv,σ=[some (.ref d),some (.ref p),fv,some (.ref L3),v4,v5]) ?_ ?_ ?_ ?_⟩⟩
  ·refine⟨fun b o hb _=>hb,fun j q hq=>?_,none,none,_,rfl⟩
   have hm:=List.mem_of_getElem? hq
   rw[ae (nq q hm)]
   show _=some (HO.dK (aX (if j<0 then _ else q.2.2)))
   rw[if_neg (by omega)]
   exact (D1.ow q hm).1
  ·rintro i σ H2 _ ⟨g1,_⟩
   refine g1 rA _ af fun q hq e=>nq q hq e.symm
  ·rintro i ky σ H2 hi ⟨kk,vv,ekk,rfl⟩ ⟨g1,g2,v4,v5,fv,rfl⟩
   have hlr:(aZ rps).length=rps.length:=by unfold aZ;simp
   rw[hlr]at hi
   have hlo:ops.length=rps.length:=by
    have h1:=congrArg List.length D.eo
    have h2:=congrArg List.length D.er
    simp at h1 h2
    omega
   have hio:i<ops.length:=by omega
   obtain⟨q,hq⟩:∃q,ops[i]?=some q:=⟨ops[i],by simp[hio]⟩
   have hqm:=List.mem_of_getElem? hq
   have ekey:kk=kN q.1.name:=by
    unfold aZ at ekk
    rw[List.getElem?_map]at ekk
    obtain⟨z,hz,e⟩:=Option.map_eq_some_iff.mp ekk
    have e1:kN z.1.name=kk:=congrArg Prod.fst e
    have h1:c.rules[i]?=some z.1:=by rw[<-D.er,List.getElem?_map,hz];rfl
    have h2:c.rules[i]?=some q.1:=by rw[<-D.eo,List.getElem?_map,hq];rfl
    rw[h1]at h2
    rw[<-e1,Option.some.inj h2]
   subst ekey
   have old:∀{b:Addr} {o:HO},H1 b=some o->b≠rA->(∀kvs,o≠.dK kvs)->H2 b=some o:=fun {b o} hb hne ho=>g1 b o (fz hb hne) fun q hq e=>by
    have:=(D1.ow q hq).1
    rw[<-e,hb]at this
    exact ho _ (Option.some.inj this)
   have hd2:H2 d=some (.ins A.Draft dx (cC lA rA aA oA)):=old D1.ob (bo D1.ob D1.ra (by intro z;cases z)) (by intro _ z;cases z)
   have hp2:=old hp1 (bo hp1 D1.ra (by intro z;cases z)) (by intro _ z;cases z)
   have hb2:=old hb3 (bo hb3 D1.ra (by intro z;cases z)) (by intro _ z;cases z)
   have ho2:H2 oA=some (.dK (dA ops)):=g1 oA _ (fz D1.oa n5.symm) fun q hq e=>(n7 q.2.1 (List.mem_map.mpr ⟨q,hq,rfl⟩)).2.2.2 e.symm
   have hi2:H2 q.2.1=some (.dK (aX q.2.2)):=by
    have:=g2 i q hq
    show _=some (HO.dK (aX q.2.2))
    rw[this]
    show some (HO.dK (aX (if i<i then _ else q.2.2)))=_
    rw[if_neg (by omega)]
   have stay:¬(q.1.name=x∨x∈q.2.2)->∀j q',ops[j]?=some q'->H2 q'.2.1=some (.dK (aX (new (i+1) j q'))):=by
    intro hc j q' hq'
    rw[g2 j q' hq']
    show some (HO.dK (aX (if j<i then _ else q'.2.2)))=some (HO.dK (aX (if j<i+1 then _ else q'.2.2)))
    by_cases hj:j<i
    ·rw[if_pos hj,if_pos (by omega)]
    ·rw[if_neg hj]
     by_cases hji:j=i
     ·subst hji
      rw[hq]at hq';cases hq'
      rw[if_pos (by omega)]
      unfold upW
      rw[if_neg hc]
     ·rw[if_neg (by omega)]
   have put:(q.1.name=x∨x∈q.2.2)->(∀b o,(upd H1 rA (.frz od (.dK (aZ rps)))) b=some o->(∀q∈ops,b≠q.2.1)->(upd H2 q.2.1 (.dK (aX (bN q.2.2 (y :: qy.2.2))))) b=some o)/\∀j q',ops[j]?=some q'->(upd H2 q.2.1 (.dK (aX (bN q.2.2 (y :: qy.2.2))))) q'.2.1=some (.dK (aX (new (i+1) j q'))):=by
    intro hc
    refine⟨fun b o hb hn=>by rw[ae (hn q hqm)];exact g1 b o hb hn,fun j q' hq'=>?_⟩
    show _=some (HO.dK (aX (if j<i+1 then _ else q'.2.2)))
    by_cases hji:j=i
    ·subst hji
     rw[hq]at hq';cases hq'
     rw[af,if_pos (by omega)]
     unfold upW
     rw[if_pos hc]
    ·have hne:q'.2.1≠q.2.1:=fun e=>hji (mH n8 (x:=q.2.1) (by rw[List.getElem?_map,hq',<-e];rfl) (by rw[List.getElem?_map,hq];rfl))
     rw[ae hne,g2 j q' hq']
     show some (HO.dK (aX (if j<i then _ else q'.2.2)))=_
     by_cases hj:j<i
     ·rw[if_pos hj,if_pos (by omega)]
     ·rw[if_neg hj,if_neg (by omega)]
   have gets:∀o,DGet (upd H2 q.2.1 o) oA (sv q.1.name) (some (.ref q.2.1)):=fun o=>ig (by rw[ae (n7 q.2.1 (List.mem_map.mpr ⟨q,hqm,rfl⟩)).2.2.2.symm];exact ho2) D.names.1 hqm rfl
   have lens:q.2.2.length+(y :: qy.2.2).length<=1000:=by
    have:=lenS q hqm
    simp
    omega
   refine⟨_,rfl,_,rfl,p,_,dw,_,_,rfl,hp2,T.cl_Weight,T.n_Weight_heavier,ik,rfl,_,rfl,?_⟩
   have edec:decide (kV (kN q.1.name)=sv x)=decide (q.1.name=x):=g8 q.1.name x
   rw[edec]
   refine aW (fun h=>?_) (fun h=>?_)
   ·have hc:q.1.name=x∨x∈q.2.2:=.inl (of_decide_eq_true h)
    refine cw ?_
    exact sj T hd2 gets hb2 hi2 lens fun v5'=>⟨(put hc).1,(put hc).2,_,_,_,rfl⟩
   ·refine⟨_,rfl,p,_,dw,_,_,rfl,hp2,T.cl_Weight,T.n_Weight_heavier,ik,_,rfl,d,_,dx,_,_,rfl,hd2,T.cl_Draft,T.n_Draft_outweighed,gO,_,rfl,oA,_,rfl,ig ho2 D.names.1 hqm rfl,q.2.1,_,rfl,DGet.k (k:=kN x) hi2,_,rfl,?_⟩
    rw[qv]
    refine aW (fun h2=>?_) (fun h2=>?_)
    ·have hc:q.1.name=x∨x∈q.2.2:=.inr (of_decide_eq_true h2)
     exact sj T hd2 gets hb2 hi2 lens fun v5'=>⟨(put hc).1,(put hc).2,_,_,_,rfl⟩
    ·have hc:¬(q.1.name=x∨x∈q.2.2):=fun z=>z.elim (fun z=>h (decide_eq_true z)) fun z=>h2 (decide_eq_true z)
     exact⟨g1,stay hc,_,_,_,rfl⟩
  ·rintro σ H2 ⟨g1,g2,v4,v5,fv,rfl⟩
   have hrA2:H2 rA=some (.frz od (.dK (aZ rps))):=g1 rA _ af fun q hq e=>nq q hq e.symm
   refine⟨hrA2,?_⟩
   refine k1 hw _ ⟨dx,lA,rA,aA,oA,lps,rps,atoms,_,D1.weigh (ly:=qy.2.2) hw (fun z=>by rw[y3,ey]) (fun b o hb hn=>?_) fun q hq=>?_⟩
   ·by_cases hbr:b=rA
    ·subst hbr
     rw[af,<-D1.ra]
     exact hb.symm▸rfl
    ·rw[ae hbr]
     exact g1 b o (fz hb hbr) hn
   ·rw[ae (nq q hq)]
    obtain⟨j,hj⟩:=List.getElem?_of_mem hq
    rw[g2 j q hj]
    show some (HO.dK (aX (if j<(aZ rps).length then _ else q.2.2)))=_
    have hlr:(aZ rps).length=rps.length:=by unfold aZ;simp
    have hlo:ops.length=rps.length:=by
     have h1:=congrArg List.length D.eo
     have h2:=congrArg List.length D.er
     simp at h1 h2
     omega
    have:=(List.getElem?_eq_some_iff.mp hj).1
    rw[if_pos (by omega)]
end
theorem yR:(Str.ofString "law")=st (Mo.ascii "law"):=by rw[pL];exact c6 _ _ (by decide +kernel)
theorem xW:(Str.ofString "rule")=st (Mo.ascii "rule"):=by rw[nw];exact c6 _ _ (by decide +kernel)
theorem wp:(Str.ofString "weigh")=st (Mo.ascii "weigh"):=by rw[lE];exact c6 _ _ (by decide +kernel)
theorem zD:(Str.ofString "->")=st (Mo.ascii "->"):=by rw[mn];exact c6 _ _ (by decide +kernel)
theorem zy:(Str.ofString "=>")=st (Mo.ascii "=>"):=by rw[mz];exact c6 _ _ (by decide +kernel)
theorem DraftAt.mono {A:Adr}{H0 H H':Hp}{d:Addr}{c:Mo.Case}(D:DraftAt A H0 H d c)(s:Same H H'):DraftAt A H0 H' d c:=by
 obtain⟨dx,lA,rA,aA,oA,lps,rps,atoms,ops,D⟩:=D
 exact⟨dx,lA,rA,aA,oA,lps,rps,atoms,ops,D.mono s⟩
theorem DraftAt.same {A:Adr}{H0 H:Hp}{d:Addr}{c:Mo.Case}(D:DraftAt A H0 H d c):Same H0 H:=by
 obtain⟨dx,lA,rA,aA,oA,lps,rps,atoms,ops,D⟩:=D
 exact D.same
theorem DraftAt.less {A:Adr}{H0 H1 H:Hp}{d:Addr}{c:Mo.Case}(D:DraftAt A H1 H d c)(s:Same H0 H1):DraftAt A H0 H d c:=by
 obtain⟨dx,lA,rA,aA,oA,lps,rps,atoms,ops,D⟩:=D
 exact⟨dx,lA,rA,aA,oA,lps,rps,atoms,ops,{ D with same:=s.trans D.same,free:=fun x hx=>s.free (D.free x hx) }⟩
theorem DraftAt.more {A:Adr}{H0 H H':Hp}{d p:Addr}{c:Mo.Case}{o:HO}(D:DraftAt A H0 H d c)(s:Same H H')(hp:H p=none)(hp':H' p=some o):DraftAt A (upd H0 p o) H' d c:=by
 obtain⟨dx,lA,rA,aA,oA,lps,rps,atoms,ops,D⟩:=D
 have D':=D.mono s
 refine⟨dx,lA,rA,aA,oA,lps,rps,atoms,ops,{ D' with same:=fun b u hb=>?_,free:=fun x hx=>?_ }⟩
 ·by_cases e:b=p
  ·subst e;rw[af]at hb;rw[<-hb];exact hp'
  ·rw[ae e]at hb;exact D'.same b u hb
 ·have hne:x≠p:=by
   intro e
   subst e
   have hx':∃u,H x=some u:=by
    simp only[List.mem_append,List.mem_cons,List.not_mem_nil,or_false,List.mem_map]at hx
    rcases hx with (h|h|h|h)|⟨q,hq,h⟩
    ·exact⟨_,h▸D.la⟩
    ·exact⟨_,h▸D.ra⟩
    ·exact⟨_,h▸D.aa⟩
    ·exact⟨_,h▸D.oa⟩
    ·exact⟨_,h▸(D.ow q hq).1⟩
   obtain⟨u,hu⟩:=hx'
   rw[hp]at hu;cases hu
  rw[ae hne];exact D.free x hx
section
variable {P:Program}{w:World}{K:PySem.W.Frag}{mg:Str->Option Value}{base:Heap}{A:Adr}
def rS (C:Addr):Sp:=fun vs H Q _=>∃p dx,vs=[.ref p]/\H p=some (.ins C dx [])/\∀lA rA aA oA H',[lA,rA,aA,oA].Nodup->(∀x∈[lA,rA,aA,oA],H x=none)->(∀b o,H b=some o->b≠p->H' b=some o)->H' p=some (.ins C dx (cC lA rA aA oA))->
 (∀x∈[lA,rA,aA,oA],H' x=some (.dK []))->Q .non H'
theorem wT (T:Txt K mg A):Mkr P w K mg base "Draft" A.Draft ["self"] 1 (rS A.Draft):=by
 refine T.k_Draft.ok wZ (fun vs H Q E h=>?_) (fun f cdv A0 outer s H vs Q E hr h=>?_)
 ·obtain⟨p,dx,rfl,_⟩:=h
  rfl
 ·obtain⟨p,dx,rfl,hp,k⟩:=h
  refine⟨_,(ag (bY (pv 0) da rfl) (ag (bY (pv 0) da rfl) (ag (bY (pv 0) da rfl) (aj (bY (pv 0) da rfl))))),?_⟩
  intro lA hlA
  have e1:lA≠p:=(aD hp hlA).symm
  refine⟨_,rfl,p,_,dx,_,rfl,(by rw[ae e1.symm];exact hp),T.cl_Draft,T.n_Draft_laws,(by show 0<1000;decide),?_⟩
  intro rA hrA
  have e2:rA≠p:=fun z=>by rw[z,af]at hrA;cases hrA
  have e21:rA≠lA:=fun z=>by rw[z,ae e1,af]at hrA;cases hrA
  refine⟨_,rfl,p,_,dx,_,rfl,(by rw[ae e2.symm];exact af),T.cl_Draft,T.n_Draft_rules,(by show 1<1000;decide),?_⟩
  rw[bU (f:="rules") (fs:=cG "laws" (.ref lA) []) (by show ¬_∈[("laws":Str)];decide +kernel)]
  intro aA haA
  have e3:aA≠p:=fun z=>by rw[z,af]at haA;cases haA
  have e32:aA≠rA:=fun z=>by rw[z,ae e2,af]at haA;cases haA
  have e31:aA≠lA:=fun z=>by rw[z,ae e1,ae e21.symm,ae e1,af]at haA;cases haA
  refine⟨_,rfl,p,_,dx,_,rfl,(by rw[ae e3.symm];exact af),T.cl_Draft,T.n_Draft_atoms,(by show 2<1000;decide),?_⟩
  rw[bU (f:="atoms") (by show ¬_∈[("laws":Str),("rules":Str)];decide +kernel)]
  intro oA hoA
  have e4:oA≠p:=fun z=>by rw[z,af]at hoA;cases hoA
  have e43:oA≠aA:=fun z=>by rw[z,ae e3,af]at hoA;cases hoA
  have e42:oA≠rA:=fun z=>by rw[z,ae e2,ae e32.symm,ae e2,af]at hoA;cases hoA
  have e41:oA≠lA:=fun z=>by rw[z,ae e1,ae e31.symm,ae e1,ae e21.symm,ae e1,af]at hoA;cases hoA
  refine⟨_,rfl,p,_,dx,_,rfl,(by rw[ae e4.symm];exact af),T.cl_Draft,T.n_Draft_outweighed,(by show 3<1000;decide),?_⟩
  rw[bU (f:="outweighed") (by show ¬_∈[("laws":Str),("rules":Str),("atoms":Str)];decide +kernel)]
  have hrA':H rA=none:=by rw[ae e2,ae e21]at hrA;exact hrA
  have haA':H aA=none:=by rw[ae e3,ae e32,ae e3,ae e31]at haA;exact haA
  have hoA':H oA=none:=by rw[ae e4,ae e43,ae e4,ae e42,ae e4,ae e41]at hoA;exact hoA
  refine k lA rA aA oA _ ?_ ?_ (fun b o hb hne=>?_) af ?_
  ·simp only[List.nodup_cons,List.mem_cons,List.not_mem_nil,or_false,not_or,not_false_eq_true,List.nodup_nil,and_true]
   exact⟨⟨e21.symm,e31.symm,e41.symm⟩,⟨e32.symm,e42.symm⟩,e43.symm⟩
  ·intro x hx
   simp at hx
   rcases hx with rfl|rfl|rfl|rfl
   ·exact hlA
   ·exact hrA'
   ·exact haA'
   ·exact hoA'
  ·rw[ae hne,ae (aD hb hoA'),ae hne,ae (aD hb haA'),ae hne,ae (aD hb hrA'),ae hne,ae (aD hb hlA)]
   exact hb
  ·intro x hx
   simp at hx
   rcases hx with rfl|rfl|rfl|rfl
   ·rw[ae e1,ae e41.symm,ae e1,ae e31.symm,ae e1,ae e21.symm,ae e1,af]
   ·rw[ae e2,ae e42.symm,ae e2,ae e32.symm,ae e2,af]
   ·rw[ae e3,ae e43.symm,ae e3,af]
   ·rw[ae e4,af]
def r0 (A:Adr)(K:PySem.W.Frag):Sp:=fun vs H Q _=>∃(H0:Hp)(d a:Addr)(c:Mo.Case)(ws:List B),vs=[.ref d,.ref a]/\DraftAt A H0 H d c/\SqL K H a (ws.map sv)/\ws≠[]/\ws.length<=LB/\(∀x∈ws,x.length<=LB)/\
 (dc ws=none->∀H',Same H0 H'->Q (.int 1) H')/\(∀l (k:Nat),dc ws=some l->Mo.wrong c l=some k->∀H',Same H0 H'->Q (.int k) H')/\(∀l,dc ws=some l->Mo.wrong c l=none->∀H',DraftAt A H0 H' d (c.add l)->Q (.int 0) H')
theorem pb (T:Txt K mg A):Cal P w K mg base "enter_line" ["draft","words"] 5 (r0 A K):=by
 have nd:=sc_enter_line.nd
 have C_enter_law:=qh (P:=P) (w:=w) (base:=base) T
 have C_enter_rule:=o8 (P:=P) (w:=w) (base:=base) T
 have C_enter_weight:=mC (P:=P) (w:=w) (base:=base) T
 have C_read_clause:=m5 (P:=P) (w:=w) (base:=base) T
 have C_read_weight:=m8 (P:=P) (w:=w) (base:=base) T
 refine T.d_enter_line.ok sc_enter_line (fun vs H Q E h=>?_) (fun f cdv A0 outer s H vs Q E hr h=>?_)
 ·obtain⟨H0,d,a,c,ws,rfl,_⟩:=h
  rfl
 ·obtain⟨H0,d,a,c,ws,rfl,DD,hS,hne,hl,hw,k0,k1,k2⟩:=h
  refine⟨_,(ag (aV (aJ cM (bH bf (pv 1) au (fun _ _=>rfl)) d6 (aK _)) (aj (al (ao C_enter_law (hr.mono (by decide)) rfl (ab (pv 0) (ab (ao C_read_clause (hr.mono (by decide)) rfl (ab (pv 1) (ab d6 ah))) ah))))) aF) (ag (aV (aJ cM (bH bf (pv 1) au (fun _ _=>rfl)) d6 (aK _)) (aj (al (ao C_enter_rule (hr.mono (by decide)) rfl (ab (pv 0) (ab (ao C_read_clause (hr.mono (by decide)) rfl (ab (pv 1) (ab d6 ah))) ah))))) aF) (ag (aV (aJ cM (bH bf (pv 1) au (fun _ _=>rfl)) d6 (aK _)) (aj (al (ao C_enter_weight (hr.mono (by decide)) rfl (ab (pv 0) (ab (ao C_read_weight (hr.mono (by decide)) rfl (ab (pv 1) ah)) ah))))) aF) (aj (al (aQ rfl T.c_NO_LINE)))))),?_⟩
  have hlen:0<ws.length:=List.length_pos_iff.mpr hne
  refine⟨_,rfl,a,_,0,_,rfl,rfl,hS,bu (bQ ws 0 hlen),rfl,_,rfl,?_⟩
  rw[yR,g8]
  refine aW (fun h=>?_) (fun h=>?_)
  ·have hlw:=vk (of_decide_eq_true h)
   refine⟨_,rfl,_,rfl,a,ws,Mo.ascii "->",(by rw[zD];rfl),hS,hl,hw,fun e H1 s1=>?_,fun n ls hd e p H1 s1 hp hc=>?_⟩
   ·rw[e]at hlw
    exact⟨H0,d,c,DD.mono s1,.inl ⟨rfl,k0 hlw _ (DD.same.trans s1)⟩⟩
   ·rw[e]at hlw
    obtain⟨g1,g2,g3⟩:=lc e
    refine⟨H0,d,c,DD.mono s1,.inr ⟨p,kJ (n,ls,hd),rfl,?_,g1,fun k hk H' s'=>k1 _ k hlw hk H' s',fun hk H' D'=>k2 _ hlw hk H' D'⟩⟩
    unfold RowAt
    rw[<-g2,<-g3]
    exact hc
  have h0:¬ws.getD 0 []=Mo.ascii "law":=fun z=>h (decide_eq_true z)
  refine⟨_,rfl,a,_,0,_,rfl,rfl,hS,bu (bQ ws 0 hlen),rfl,_,rfl,?_⟩
  rw[xW,g8]
  refine aW (fun h=>?_) (fun h=>?_)
  ·have hlw:=sZ h0 (of_decide_eq_true h)
   refine⟨_,rfl,_,rfl,a,ws,Mo.ascii "=>",(by rw[zy];rfl),hS,hl,hw,fun e H1 s1=>?_,fun n ls hd e p H1 s1 hp hc=>?_⟩
   ·rw[e]at hlw
    exact⟨H0,d,c,DD.mono s1,.inl ⟨rfl,k0 hlw _ (DD.same.trans s1)⟩⟩
   ·rw[e]at hlw
    obtain⟨g1,g2,g3⟩:=lc e
    refine⟨H0,d,c,DD.mono s1,.inr ⟨p,kJ (n,ls,hd),rfl,?_,g1,fun k hk H' s'=>k1 _ k hlw hk H' s',fun hk H' D'=>k2 _ hlw hk H' D'⟩⟩
    unfold RowAt
    rw[<-g2,<-g3]
    exact hc
  have h1:¬ws.getD 0 []=Mo.ascii "rule":=fun z=>h (decide_eq_true z)
  refine⟨_,rfl,a,_,0,_,rfl,rfl,hS,bu (bQ ws 0 hlen),rfl,_,rfl,?_⟩
  rw[wp,g8]
  refine aW (fun h=>?_) (fun h=>?_)
  ·have hlw:=rh h0 h1 (of_decide_eq_true h)
   refine⟨_,rfl,_,rfl,a,ws,rfl,hS,hl,hw,fun e H1 s1=>?_,fun x y e p H1 s1 hp hc=>?_⟩
   ·rw[e]at hlw
    exact⟨H0,d,c,DD.mono s1,.inl ⟨rfl,k0 hlw _ (DD.same.trans s1)⟩⟩
   ·rw[e]at hlw
    exact⟨H0,d,c,DD.mono s1,.inr ⟨p,x,y,rfl,hc,fun k hk=>k1 _ k hlw hk _ (DD.same.trans s1),fun hk H' D'=>k2 _ hlw hk H' D'⟩⟩
  ·have h2:¬ws.getD 0 []=Mo.ascii "weigh":=fun z=>h (decide_eq_true z)
   exact k0 (tF h0 h1 h2) _ DD.same
def rD (A:Adr)(K:PySem.W.Frag):Sp:=fun vs H Q _=>∃(H0:Hp)(d a:Addr)(t:B),vs=[.ref d,.ref a]/\DraftAt A H0 H d Mo.Case.none_/\SqL K H0 a (t.map fun c=>.int (c:Nat))/\t.length<=LB/\
 (dP Mo.Case.none_ t=none->∀r H',Same H0 H'->Q (.ref r) H')/\(∀c,dP Mo.Case.none_ t=some c->∀H',DraftAt A H0 H' d c->Q .non H')
theorem wo (t:B)(i j:Nat)(hi:i<=j)(hj:j<=t.length):kB (t.map fun c=>V.int (c:Nat)) (some (i:Nat)) (some (j:Nat))=((t.drop i).take (j-i)).map fun c=>V.int (c:Nat):=by
 unfold kB
 rw[List.length_map]
 have e1:HT.sIx t.length 0 (some (i:Int))=i:=by
  have:=HT.sIx_nat t.length 0 i
  rw[this];omega
 have e2:HT.sIx t.length t.length (some (j:Int))=j:=by
  have:=HT.sIx_nat t.length t.length j
  rw[this];omega
 rw[e1,e2,<-List.map_drop,<-List.map_take]
theorem pi (T:Txt K mg A):Cal P w K mg base "enter_text" ["draft","t"] 6 (rD A K):=by
 have nd:=sc_enter_text.nd
 have C_sign_table:=oU (P:=P) (w:=w) (base:=base) T
 have C_line_end:=rB (P:=P) (w:=w) (base:=base) T
 have C_enter_line:=pb (P:=P) (w:=w) (base:=base) T
 have C_words_of:=rR (P:=P) (w:=w) (base:=base) T
 refine T.d_enter_text.ok sc_enter_text (fun vs H Q E h=>?_) (fun f cdv A0 outer s H vs Q E hr h=>?_)
 ·obtain⟨H0,d,a,t,rfl,_⟩:=h
  rfl
 ·obtain⟨H0,d,a,t,rfl,DD,hS,hl,k0,k1⟩:=h
  refine⟨_,(ag (ap (i:=2) nd rfl lc_ (xX C_sign_table (hr.mono (by decide)) rfl)) (ag (ap (i:=3) nd rfl lc_ au) (ag (fE PassesOwn.never (aJ k3 (pv 3) (aI aP rfl T.b_len PySem.boot_len (ab (pv 1) ah)) (aK _)) (ag (ap (i:=4) nd rfl lc_ (ao C_line_end (hr.mono (by decide)) rfl (ab (pv 1) (ab (pv 3) ah)))) (ag (aV (aJ cM (pv 4) (aI aP rfl T.b_len PySem.boot_len (ab (pv 1) ah)) (aK _)) (aj (al (iV (ab (aQ rfl T.c_NO_LINE) (ab (aI aP rfl T.b_len PySem.boot_len (ab (pv 1) ah)) ah))))) aF) (ag (ap (i:=5) nd rfl lc_ (ao C_enter_line (hr.mono (by decide)) rfl (ab (pv 0) (ab (ao C_words_of (hr.mono (by decide)) rfl (ab (eE sA (pv 1) (dN (pv 3)) (dN (pv 4))) (ab (pv 2) ah))) ah)))) (ag (aV (aJ eh (pv 5) (aQ rfl T.c_NO_FAULT) (aK _)) (aj (al (iV (ab (pv 5) (ab (pv 3) ah))))) aF) (aj (ap (i:=3) nd rfl lc_ (aO iR (pv 4) au)))))))) (aj (al dE))))),?_⟩
  refine⟨rfl,fun tb H1 s1 htb htb1=>?_⟩
  have htb0:H0 tb=none:=DD.same.free htb
  have D1:=DD.more s1 htb htb1
  have s01:Same H0 (upd H0 tb (.dK dR)):=ak htb0
  have hSt:∀{H2:Hp},Same (upd H0 tb (.dK dR)) H2->SqL K H2 a (t.map fun c=>.int (c:Nat)):=fun s=>s.seq (s01.seq hS)
  refine gN (fun σ H2=>∃(i:Nat)(c:Mo.Case)(v4 v5:Option V),i<=t.length/\DraftAt A (upd H0 tb (.dK dR)) H2 d c/\dP Mo.Case.none_ t=dP c (t.drop i)/\σ=[some (.ref d),some (.ref a),some (.ref tb),some (.int (i:Nat)),v4,v5])
   (fun σ _=>match σ with|[_,_,_,some (.int j),_,_]=>t.length-j.toNat|_=>0) ⟨0,_,none,none,Nat.zero_le _,D1,rfl,rfl⟩ ?_
  rintro σ H2 ⟨i,c,v4,v5,hi,D2,hf,rfl⟩
  have hS2:=hSt D2.same
  refine⟨_,rfl,_,rfl,a,_,rfl,.inl hS2,_,_,rfl,rfl,_,rfl,?_⟩
  rw[List.length_map]
  refine aW (fun h=>?_) (fun h=>?_)
  ·have h:i<t.length:=by have:=of_decide_eq_true h;omega
   refine⟨_,gT,_,rfl,_,rfl,a,t,i,rfl,hS2,hl,hi,?_⟩
   have hle:i<=bd t i:=by unfold bd;omega
   refine⟨_,rfl,_,rfl,a,_,rfl,.inl hS2,rfl,_,rfl,?_⟩
   rw[List.length_map]
   have edec:decide (V.int ((bd t i:Nat):Int)=V.int ((t.length:Nat):Int))=decide (bd t i=t.length):=by
    by_cases e:bd t i=t.length
    ·rw[e];simp
    ·rw[decide_eq_false e,decide_eq_false fun z=>e (by have:=V.int.inj z;omega)]
   rw[edec]
   rcases tz t i h with ⟨e1,e2⟩|⟨e1,e2,e3⟩
   ·rw[decide_eq_true e1]
    refine cw ?_
    refine⟨_,rfl,a,_,rfl,.inl hS2,(by show 2<=sizeLine;decide),fun r hr'=>?_⟩
    refine k0 ?_ r _ ((s01.trans D2.same).trans (ak hr'))
    rw[hf]
    refine sO c e2 ?_
    intro z
    have:=congrArg List.length z
    rw[List.length_drop]at this
    simp at this
    omega
   ·rw[decide_eq_false (by omega)]
    refine bX ?_
    refine⟨_,rfl,_,rfl,_,rfl,_,rfl,_,rfl,_,rfl,a,_,rfl,hS2,fun L hL=>?_⟩
    rw[wo t i (bd t i) hle (by omega)]
    have sL:=ak (o:=.lst (((t.drop i).take (bd t i-i)).map fun c=>V.int (c:Nat))) hL
    generalize hline:(t.drop i).take (bd t i-i)=line at *
    have hll:line.length<=LB:=by
     rw[<-hline,List.length_take,List.length_drop]
     omega
    refine⟨_,rfl,L,tb,line,rfl,SqL.of af,hll,sL _ _ (D2.same _ _ af),fun W H3 s3 hW hW3=>?_⟩
    have D3:=D2.mono (sL.trans s3)
    refine⟨upd H0 tb (.dK dR),d,W,c,Mo.wordsOf (line.map fix),rfl,D3,SqL.of hW3,gK _,?_,?_,fun e H4 s4=>?_,fun l k e1 e2 H4 s4=>?_,fun l e1 e2 H4 D4=>?_⟩
    ·have:=ld (line.map fix)
     rw[List.length_map]at this
     have h9:bd t i<t.length:=by omega
     have:line.length+1<=t.length:=by
      rw[<-hline,List.length_take,List.length_drop]
      omega
     omega
    ·intro x hx
     have:=fS _ x hx
     rw[List.length_map]at this
     omega
    ·refine⟨_,rfl,rfl,_,rfl,cw ?_⟩
     refine⟨_,rfl,_,rfl,(by show 2<=sizeLine;decide),fun r hr'=>?_⟩
     refine k0 ?_ r _ ((s01.trans s4).trans (ak hr'))
     rw[hf,e2,js c e3,jx,e]
    ·have hk:=oj e2
     refine⟨_,rfl,rfl,_,rfl,?_⟩
     have hz:(!decide (V.int ((k:Nat):Int)=V.int 0))=true:=by
      rw[Bool.not_eq_true',decide_eq_false]
      intro z
      have:=V.int.inj z
      omega
     rw[hz]
     refine cw ?_
     refine⟨_,rfl,_,rfl,(by show 2<=sizeLine;decide),fun r hr'=>?_⟩
     refine k0 ?_ r _ ((s01.trans s4).trans (ak hr'))
     rename_i e2'
     rw[hf,e2',js c e3,jx,e1]
     simp only
     rw[e2]
    ·refine⟨_,rfl,rfl,_,rfl,bX ?_⟩
     rename_i e2'
     refine⟨_,rfl,_,_,rfl,rfl,⟨bd t i+1,c.add l,_,_,by omega,D4,?_,rfl⟩,?_⟩
     ·rw[hf,e2',js c e3,jx,e1]
      simp only
      rw[e2]
     ·show t.length-(((bd t i:Nat):Int)+1).toNat<t.length-((i:Nat):Int).toNat
      omega
  ·have h:¬i<t.length:=fun z=>h (decide_eq_true (by omega))
   have:i=t.length:=by omega
   subst this
   rw[List.drop_length,uQ]at hf
   exact k1 c hf _ (D2.less s01)
end
def NCl (C:Addr)(H:Hp)(q:Addr)(ls:List Nat)(h:Nat):Prop:=∃n dx bp,H q=some (.ins C dx [("name",n),("body",.ref bp),("head",.int (h:Nat))])/\H bp=some (.tup (ls.map fun x=>V.int (x:Nat)))
theorem NCl.same {C:Addr}{H H':Hp}{q:Addr}{ls:List Nat}{h:Nat}(x:NCl C H q ls h)(s:Same H H'):NCl C H' q ls h:=
 let ⟨n,dx,bp,a,b⟩:=x
 ⟨n,dx,bp,s _ _ a,s _ _ b⟩
theorem NCl.putL {C:Addr}{H:Hp}{q L:Addr}{ls:List Nat}{h:Nat}{o:HO}{xs:List V}(x:NCl C H q ls h)(hL:H L=some (.lst xs)):NCl C (upd H L o) q ls h:=
 let ⟨n,dx,bp,a,b⟩:=x
 ⟨n,dx,bp,by rw[ae (bo a hL (by intro z;cases z))];exact a,by rw[ae (bo b hL (by intro z;cases z))];exact b⟩
def NCls (C:Addr)(H:Hp)(f:Mo.Case)(rows:List Mo.Row)(ps:List Addr):Prop:=ps.length=rows.length/\∀(i:Nat)(p:Addr)(r:Mo.Row),ps[i]?=some p->rows[i]?=some r->NCl C H p (nums f r) (f.lit f.atoms r.head)
theorem NCls.same {C:Addr}{H H':Hp}{f:Mo.Case}{rows:List Mo.Row}{ps:List Addr}(x:NCls C H f rows ps)(s:Same H H'):NCls C H' f rows ps:=⟨x.1,fun i p r a b=>(x.2 i p r a b).same s⟩
def dG (a b c d e:Addr):List (Str×V):=[("atoms",.ref a),("laws",.ref b),("rules",.ref c),("names",.ref d),("outweighed",.ref e)]
theorem nN {a b c d e:Addr}:(dG a b c d e).lookup ("atoms":Str)=some (.ref a):=rfl
theorem qU {a b c d e:Addr}:(dG a b c d e).lookup ("laws":Str)=some (.ref b):=by
 have h1:(("laws":Str)==("atoms":Str))=false:=by decide +kernel
 simp[dG,List.lookup,h1]
theorem gc {a b c d e:Addr}:(dG a b c d e).lookup ("rules":Str)=some (.ref c):=by
 have h1:(("rules":Str)==("atoms":Str))=false:=by decide +kernel
 have h2:(("rules":Str)==("laws":Str))=false:=by decide +kernel
 simp[dG,List.lookup,h1,h2]
theorem oy {a b c d e:Addr}:(dG a b c d e).lookup ("names":Str)=some (.ref d):=by
 have h1:(("names":Str)==("atoms":Str))=false:=by decide +kernel
 have h2:(("names":Str)==("laws":Str))=false:=by decide +kernel
 have h3:(("names":Str)==("rules":Str))=false:=by decide +kernel
 simp[dG,List.lookup,h1,h2,h3]
theorem xh {a b c d e:Addr}:(dG a b c d e).lookup ("outweighed":Str)=some (.ref e):=by
 have h1:(("outweighed":Str)==("atoms":Str))=false:=by decide +kernel
 have h2:(("outweighed":Str)==("laws":Str))=false:=by decide +kernel
 have h3:(("outweighed":Str)==("rules":Str))=false:=by decide +kernel
 have h4:(("outweighed":Str)==("names":Str))=false:=by decide +kernel
 simp[dG,List.lookup,h1,h2,h3,h4]
structure CA (A:Adr)(H:Hp)(p dx aL lL rL nL oL:Addr)(lps rps:List Addr)(f:Mo.Case):Prop where
 ob:H p=some (.ins A.Case dx (dG aL lL rL nL oL))
 at_:H aL=some (.lst (f.atoms.map sv))
 la:H lL=some (.lst (lps.map V.ref))
 ra:H rL=some (.lst (rps.map V.ref))
 na:H nL=some (.lst (f.rules.map fun r=>V.int ((f.lit f.atoms ⟨r.name,false⟩:Nat):Int)))
 oa:H oL=some (.lst (f.under.map fun x=>V.int (x:Nat)))
 cl:NCls A.Clause H f f.laws lps
 cr:NCls A.Clause H f f.rules rps
 nl:f.laws.length<=64
 nu:f.rules.length<=10
 nat:f.atoms.length<=64
 few:∀r,r∈f.laws∨r∈f.rules->r.body.length<=6
def CaseAt (A:Adr)(H:Hp)(p:Addr)(f:Mo.Case):Prop:=∃dx aL lL rL nL oL lps rps,CA A H p dx aL lL rL nL oL lps rps f
theorem CA.same {A:Adr}{H H':Hp}{p dx aL lL rL nL oL:Addr}{lps rps:List Addr}{f:Mo.Case}(D:CA A H p dx aL lL rL nL oL lps rps f)(s:Same H H'):CA A H' p dx aL lL rL nL oL lps rps f:=
 { D with ob:=s _ _ D.ob,at_:=s _ _ D.at_,la:=s _ _ D.la,ra:=s _ _ D.ra,na:=s _ _ D.na,oa:=s _ _ D.oa,cl:=D.cl.same s,cr:=D.cr.same s }
theorem CaseAt.same {A:Adr}{H H':Hp}{p:Addr}{f:Mo.Case}(D:CaseAt A H p f)(s:Same H H'):CaseAt A H' p f:=by
 obtain⟨dx,aL,lL,rL,nL,oL,lps,rps,D⟩:=D
 exact⟨dx,aL,lL,rL,nL,oL,lps,rps,D.same s⟩
section
variable {P:Program}{w:World}{K:PySem.W.Frag}{mg:Str->Option Value}{base:Heap}{A:Adr}
def oQ:Sp:=fun vs H Q _=>∃S n:Nat,vs=[.int (S:Nat),.int (n:Nat)]/\Q (.bl (Mo.held S n)) H
theorem lv (T:Txt K mg A):Cal P w K mg base "has_rule" ["rules","number"] 1 oQ:=by
 have nd:=sc_has_rule.nd
 refine T.d_has_rule.ok sc_has_rule (fun vs H Q E h=>?_) (fun f cdv A0 outer s H vs Q E hr h=>?_)
 ·obtain⟨S,n,rfl,_⟩:=h
  rfl
 ·obtain⟨S,n,rfl,k⟩:=h
  refine⟨_,(aj (al (fN cM (aO ge (aO ql (pv 0) (pv 1)) au) au (aK _)))),?_⟩
  refine⟨_,rfl,_,rfl,_,_,rfl,rfl,(by omega),_,_,rfl,rfl,rfl,?_⟩
  have e:decide (V.int (Builtin.bitAnd ((S:Int) / 2^((n:Int)).toNat) 1)=V.int 1)=Mo.held S n:=by
   rw[nn,show (1:Int)=((1:Nat):Int) from rfl,cU,pT]
   cases Mo.held S n with
   |true=>exact decide_eq_true rfl
   |false=>exact decide_eq_false fun z=>by have:=V.int.inj z;simp at this
  rw[e]
  exact k
def x6 (K:PySem.W.Frag):Sp:=fun vs H Q _=>∃(a:Addr)(ns:List Nat),vs=[.ref a]/\SqL K H a (ns.map fun x=>V.int (x:Nat))/\(∀x∈ns,x<=1000)/\Q (.int (bg ns:Nat)) H
theorem iA (T:Txt K mg A):Cal P w K mg base "set_of" ["numbers"] 1 (x6 K):=by
 have nd:=sc_set_of.nd
 refine T.d_set_of.ok sc_set_of (fun vs H Q E h=>?_) (fun f cdv A0 outer s H vs Q E hr h=>?_)
 ·obtain⟨a,ns,rfl,_⟩:=h
  rfl
 ·obtain⟨a,ns,rfl,hS,hb,k⟩:=h
  refine⟨_,(ag (ap (i:=1) nd rfl lc_ au) (ag (bO PassesOwn.never rfl (be (pv 0)) (aw (i:=2) nd rfl lc_) (aj (ap (i:=1) nd rfl lc_ (aO kX (pv 1) (aO f7 au (pv 2)))))) (aj (al (pv 1))))),?_⟩
  refine⟨_,rfl,a,rfl,⟨_,hS⟩,cz (aR (xs:=ns.map fun x=>V.int (x:Nat))) (fun i σ H2=>H2=H/\∃v,σ=[some (.ref a),some (.int (bg (ns.take i):Nat)),v]) ?_ ?_ ?_ ?_⟩
  ·exact⟨rfl,none,rfl⟩
  ·rintro i σ H2 _ ⟨rfl,_⟩
   exact hS
  ·rintro i x σ H2 hi e ⟨rfl,v,rfl⟩
   rw[List.getElem?_map]at e
   obtain⟨y,ey,rfl⟩:=Option.map_eq_some_iff.mp e
   have hy:=hb y (List.mem_of_getElem? ey)
   refine⟨_,rfl,_,rfl,_,_,rfl,rfl,⟨by omega,by omega,by decide⟩,_,_,rfl,rfl,?_⟩
   refine⟨rfl,some (V.int (y:Nat)),?_⟩
   have:Builtin.bitOr ((bg (ns.take i):Nat):Int) (1*2^((y:Int)).toNat)=((bg (ns.take (i+1)):Nat):Int):=by
    rw[show (1:Int)=((1:Nat):Int) from rfl,sf,Nat.one_mul,eO]
    congr 1
    rw[List.take_succ,ey]
    unfold bg
    simp only[Option.toList_some]
    rw[List.foldl_append]
    rfl
   show [some (V.ref a),some (V.int (Builtin.bitOr ((bg (ns.take i):Nat):Int) (1*2^((y:Int)).toNat))),some (V.int (y:Nat))]=_
   rw[this]
  ·rintro σ H2 ⟨rfl,v,rfl⟩
   rw[List.length_map,List.take_of_length_le (Nat.le_refl _)]
   exact⟨_,rfl,k⟩
def vn (A:Adr):Sp:=fun vs H Q _=>∃(p:Addr)(S:Nat)(f:Mo.Case),vs=[.ref p,.int (S:Nat)]/\CaseAt A H p f/\∀q H',Same H H'->H q=none->H' q=some (.lst ((members f S).map fun x=>V.int (x:Nat)))->Q (.ref q) H'
theorem gu (T:Txt K mg A):Cal P w K mg base "members_of" ["case","rules"] 2 (vn A):=by
 have nd:=sc_members_of.nd
 have C_has_rule:=lv (P:=P) (w:=w) (base:=base) T
 refine T.d_members_of.ok sc_members_of (fun vs H Q E h=>?_) (fun f cdv A0 outer s H vs Q E hr h=>?_)
 ·obtain⟨p,S,f,rfl,_⟩:=h
  rfl
 ·obtain⟨p,S,c,rfl,⟨dx,aL,lL,rL,nL,oL,lps,rps,D⟩,k⟩:=h
  refine⟨_,(aj (al (cq rfl nd (im rfl T.b_range (ab (aI aP rfl T.b_len PySem.boot_len (ab (aG K (pv 0)) ah)) ah)) (aU (N:=["case","rules","number"]) (sc:=ai fe) (own:=[("number",2)]) (by decide +kernel)) (fun _ _ _ _ _=>(aw (i:=2) nd rfl lc_)) (fun _ _ _ _ _=>(i6 (bE (ao C_has_rule (hr.mono (by decide)) rfl (ab (pv 1) (ab (pv 2) ah)))))) (fun _ _ _ _ _=>(pv 2))))),?_⟩
  have hn:=D.nu
  have sl:100<=sizeLine:=by decide
  refine⟨_,rfl,p,_,dx,_,_,rfl,D.ob,T.cl_Case,T.n_Case_rules,gc,rL,_,rfl,.inl (SqL.of D.ra),_,rfl,?_,?_,?_⟩
  ·rw[List.length_map,D.cr.1];omega
  ·rw[List.length_map,D.cr.1];omega
  rw[List.length_map,D.cr.1,Int.toNat_natCast]
  refine fun L hL=>oe d3 ((List.range c.rules.length).map fun i=>if Mo.held S i=true then some (V.int (i:Nat)) else none) (by simp) (by omega) hL (fun _ _=>trivial) ?_ ?_
  ·rintro i x y H2 rfl hy s2 R R' hR hR'
   rw[List.getElem?_map]at hy
   obtain⟨j,hj,rfl⟩:=Option.map_eq_some_iff.mp hy
   have:j=i:=by
    have:=(List.getElem?_eq_some_iff.mp hj).2
    rw[List.getElem_range]at this
    exact this.symm
   subst this
   have e0:(0:Int)+(j:Nat)=((j:Nat):Int):=by omega
   rw[e0]
   refine⟨rfl,_,rfl,_,rfl,S,j,rfl,_,rfl,?_⟩
   by_cases h:Mo.held S j=true
   ·rw[h]
    refine cw ⟨_,rfl,hR _ _ (by rw[if_pos h]) (Same.refl _)⟩
   ·have hf:Mo.held S j=false:=by simpa using h
    rw[hf]
    refine bX (hR' _ (by rw[if_neg h]) (Same.refl _))
  ·intro H2 s2 h2
   refine k L H2 s2 hL ?_
   rw[h2]
   congr 2
   unfold members Mo.membersOf
   rw[List.filterMap_map]
   generalize List.range c.rules.length=l
   induction l with
   |nil=>rfl
   |cons x r ih=>
    by_cases h:Mo.held S x=true
    ·rw[List.filterMap_cons_some (b:=V.int (x:Nat)) (by show (if Mo.held S x=true then _ else none)=_;rw[if_pos h]),List.filter_cons_of_pos h,List.map_cons,ih]
    ·rw[List.filterMap_cons_none (by show (if Mo.held S x=true then _ else none)=_;rw[if_neg h]),List.filter_cons_of_neg h,ih]
def ve (K:PySem.W.Frag):Sp:=fun vs H Q _=>∃(a:Addr)(l:List B),vs=[.ref a]/\SqL K H a (l.map sv)/\l.Nodup/\(∀x∈l,Mo.isName x=true)/\l.length<=1000/\∀d kvs H',Same H H'->H d=none->H' d=some (.dK kvs)->NumD l l.length kvs->Q (.ref d) H'
theorem jZ (T:Txt K mg A):Cal P w K mg base "literal_numbers" ["atoms"] 1 (ve K):=by
 have nd:=sc_literal_numbers.nd
 refine T.d_literal_numbers.ok sc_literal_numbers (fun vs H Q E h=>?_) (fun f cdv A0 outer s H vs Q E hr h=>?_)
 ·obtain⟨a,l,rfl,_⟩:=h
  rfl
 ·obtain⟨a,l,rfl,hS,hn,hnm,hlen,k⟩:=h
  have hu:=b9 hr
  refine⟨_,(ag (ap (i:=1) nd rfl lc_ da) (ag (bO PassesOwn.never rfl (eJ rfl T.b_enumerate (ab (pv 0) ah)) (iY rfl (bw (aw (i:=2) nd rfl lc_) (bw (aw (i:=3) nd rfl lc_) dO))) (ag (dr hu (pv 1) (pv 3) (aO l7 au (pv 2)) rfl) (aj (dr hu (pv 1) (aO mR (aQ rfl T.c_OPPOSITE) (pv 3)) (aO iR (aO l7 au (pv 2)) au) rfl)))) (aj (al (pv 1))))),?_⟩
  intro d hd
  have s0:=ak (o:=.dK []) hd
  refine⟨_,rfl,a,_,rfl,s0.seq hS,jG (xs:=l.map sv) (fun i σ H2=>Same H H2/\∃(kvs:List (Key×V))(v2 v3:Option V),H2 d=some (.dK kvs)/\NumD l i kvs/\σ=[some (.ref a),some (.ref d),v2,v3]) ?_ ?_ ?_ ?_⟩
  ·exact⟨s0,[],none,none,af,⟨fun i a h=>by omega,fun i a h=>by omega,Nat.le_refl _⟩,rfl⟩
  ·rintro i σ H2 _ ⟨s2,_⟩
   exact s2.seq hS
  ·rintro i x σ H2 Tp e ⟨s2,kvs,v2,v3,hd2,hk,rfl⟩ hT
   rw[List.getElem?_map]at e
   obtain⟨y,ey,rfl⟩:=Option.map_eq_some_iff.mp e
   have hi:=(List.getElem?_eq_some_iff.mp ey).1
   have s3:=ak (o:=.tup [.int (i:Nat),sv y]) hT
   have hl1:=hk.len
   have sl:3000<=sizeLine:=by decide
   have hy:=qO (hnm y (List.mem_of_getElem? ey))
   refine⟨_,rfl,_,_,rfl,rfl,.inl ⟨by decide,by decide⟩,_,rfl,_,rfl,d,_,rfl,DPut.k (k:=kN y) (s3 _ _ hd2) (by omega),?_⟩
   refine⟨_,rfl,_,_,rfl,rfl,.inl ⟨by decide,by decide⟩,_,_,rfl,rfl,_,rfl,_,rfl,_,st y,rfl,rfl,(by rw[jb,bt,bt];simp;omega),d,_,rfl,yP (k:=kN (126 :: y)) af (by rw[jb,oF];rfl) (Nat.lt_of_le_of_lt lQ (by omega)),?_⟩
   ·refine⟨?_,_,_,_,af,hk.put hn hnm ey,rfl⟩
    rw[bW]
    exact aN (s2.trans s3) hd
  ·rintro σ H2 ⟨s2,kvs,v2,v3,hd2,hk,rfl⟩
   rw[List.length_map]at hk
   exact⟨_,rfl,k d kvs H2 s2 hd hd2 hk⟩
def uV (A:Adr):Sp:=fun vs H Q _=>∃(p d:Addr)(r:Mo.Row)(l:List B)(kvs:List (Key×V))(c:Mo.Case),vs=[.ref p,.ref d]/\RowAt A.Clause H p r/\GoodR r/\H d=some (.dK kvs)/\NumD l l.length kvs/\l.Nodup/\(∀x∈r.body,x.atom∈l)/\r.head.atom∈l/\
 ∀q H',Same H H'->H q=none->NCl A.Clause H' q (r.body.map (c.lit l)) (c.lit l r.head)->Q (.ref q) H'
theorem kh (T:Txt K mg A):Cal P w K mg base "numbered_clause" ["clause","numbers"] 3 (uV A):=by
 have nd:=sc_numbered_clause.nd
 have M_Clause:=oE (P:=P) (w:=w) (base:=base) T
 refine T.d_numbered_clause.ok sc_numbered_clause (fun vs H Q E h=>?_) (fun f cdv A0 outer s H vs Q E hr h=>?_)
 ·obtain⟨p,d,r,l,kvs,c,rfl,_⟩:=h
  rfl
 ·obtain⟨p,d,r,l,kvs,c,rfl,hp,gr,hd,hk,hn,hb,hh,k⟩:=h
  have hu:=b9 hr
  obtain⟨dx,bp,h1,h2⟩:=id hp
  refine⟨_,(aj (al (ga M_Clause (hr.mono (by decide)) rfl (ab (aG K (pv 0)) (ab (dI jI rfl T.b_tuple boot_tuple (ab (cq rfl nd (kj (aG K (pv 0))) (aU (N:=["clause","numbers","literal"]) (sc:=ai cX) (own:=[("literal",2)]) (by decide +kernel)) (fun _ _ _ _ _=>(aw (i:=2) nd rfl lc_)) (fun _ _ _ _ _=>bj) (fun _ _ _ _ _=>(cn hu (pv 1) (pv 2) (fun _ _=>rfl)))) ah)) (ab (cn hu (pv 1) (aG K (pv 0)) (fun _ _=>rfl)) ah)))))),?_⟩
  have few:=gr.few
  have sl:100<=sizeLine:=by decide
  refine⟨_,rfl,p,_,dx,_,_,rfl,h1,T.cl_Clause,T.n_Clause_name,fq,_,rfl,p,_,dx,_,_,rfl,h1,T.cl_Clause,T.n_Clause_body,dv,bp,rfl,⟨_,SqT.of h2⟩,fun D hD=>cy (gb (xs:=(r.body.map aS).map sv)) ((r.body.map (c.lit l)).map fun x=>V.int (x:Nat)) (by simp) (by simp;omega) hD (fun H2 s2=>SqT.of (s2 _ _ h2)) ?_ bB br ?_⟩
  ·rintro i x y H2 e hy s2 R hR
   rw[List.getElem?_map,List.getElem?_map]at e hy
   cases ec:r.body[i]? with
   |none=>rw[ec]at e;cases e
   |some z=>
    rw[ec]at e hy
    cases e
    cases hy
    exact⟨rfl,rfl,_,rfl,_,rfl,d,_,rfl,fb (k:=kN (aS z)) (s2 _ _ hd) rfl (hk.lit hn c (hb z (List.mem_of_getElem? ec))),hR _ (Same.refl _)⟩
  ·intro H2 s2 hD2
   refine⟨D,_,rfl,.inl ⟨SqL.of hD2,fun q1 hq1=>?_⟩⟩
   have s3:=s2.trans (ak (o:=.tup ((r.body.map (c.lit l)).map fun x=>V.int (x:Nat))) hq1)
   refine⟨_,rfl,_,rfl,p,_,dx,_,_,rfl,s3 _ _ h1,T.cl_Clause,T.n_Clause_head,eN,d,_,rfl,fb (k:=kN (aS r.head)) (s3 _ _ hd) rfl (hk.lit hn c hh),rfl,fun x dy hx hdy hne=>?_⟩
   ·refine k x _ (s3.trans (cu hx hdy)) (s3.free hx) ⟨_,dy,q1,gj,cu hx hdy _ _ af⟩
end
theorem sY {c:Mo.Case}(g:GoodC c):∀x∈c.atoms,Mo.isName x=true:=by
 intro x hx
 have:=mem_atoms.mp hx
 simp only[b7,List.mem_append,List.mem_flatMap,List.mem_map]at this
 rcases this with ⟨r,hr,h⟩|⟨r,hr,h⟩
 ·have gr:=g.rows r hr
  simp only[Mo.Row.atoms,List.mem_cons,List.mem_map]at h
  rcases h with h|⟨l,hl,h⟩
  ·rw[h];exact gr.head
  ·rw[<-h];exact gr.body l hl
 ·rw[<-h];exact (g.rows r (.inr hr)).name
theorem qH (l:List B):l.map kN=(l.map st).map Sum.inr:=by rw[List.map_map];rfl
theorem wF (l:List B):(l.map sv).all fX=true:=by
 rw[List.all_eq_true]
 intro x hx
 obtain⟨b,_,rfl⟩:=List.mem_map.mp hx
 rfl
theorem uC (a b:B):eqV (sv a) (sv b)=decide (a=b):=by
 by_cases h:a=b
 ·subst h;simp[eqV]
 ·rw[decide_eq_false h]
  simp only[eqV]
  exact beq_false_of_ne fun z=>h (gh z)
section
variable {P:Program}{w:World}{K:PySem.W.Frag}{mg:Str->Option Value}{base:Heap}{A:Adr}
def xb (K:PySem.W.Frag):Sp:=fun vs H Q _=>∃(dq oL:Addr)(l ns:List B),vs=[.ref dq,.ref oL]/\H dq=some (.dK (aX l))/\H oL=some (.lst (ns.map sv))/\(∀x∈l,x∈ns)/\ns.Nodup/\ns.length<=100/\l.length<=100/\
 ∀m H',(∀j:Nat,Mo.held m j=true↔∃x∈l,ns[j]?=some x)->Same H H'->Q (.int (m:Nat)) H'
theorem k6 (T:Txt K mg A):Cal P w K mg base "numbered_rules" ["names","order"] 2 (xb K):=by
 have nd:=sc_numbered_rules.nd
 have C_set_of:=iA (P:=P) (w:=w) (base:=base) T
 refine T.d_numbered_rules.ok sc_numbered_rules (fun vs H Q E h=>?_) (fun f cdv A0 outer s H vs Q E hr h=>?_)
 ·obtain⟨dq,oL,l,ns,rfl,_⟩:=h
  rfl
 ·obtain⟨dq,oL,l,ns,rfl,hd,ho,hsub,hn,hlen,hll,k⟩:=h
  refine⟨_,(aj (al (ao C_set_of (hr.mono (by decide)) rfl (ab (sh (cq rfl nd (nE (pv 0)) (aU (N:=["names","order","name"]) (sc:=ai df) (own:=[("name",2)]) (by decide +kernel)) (fun _ _ _ _ _=>(aw (i:=2) nd rfl lc_)) (fun _ _ _ _ _=>bj) (fun _ _ _ _ _=>(zb K PySem.F.plainAttrs_list PySem.F.slot_list_index PySem.F.type_list_index (uP K) (pv 1) (ab (pv 2) ah))))) ah)))),?_⟩
  have sl:100<=sizeLine:=by decide
  refine⟨dq,_,hd,trivial,fun od=>?_⟩
  have hz:(upd H dq (.frz od (.dK (aX l)))) dq=some (.frz od (.dK (aX l))):=af
  have hoz:(upd H dq (.frz od (.dK (aX l)))) oL=some (.lst (ns.map sv)):=yT hd ho (by intro z;cases z)
  let ix:B->Nat:=fun x=>(ns.findIdx? (fun n=>n==x)).getD 0
  have hix:∀x∈l,ns[ix x]?=some x:=fun x hx=>by
   obtain⟨i,h1,h2⟩:=findIdx?_mem (hsub x hx)
   show ns[(ns.findIdx? (fun n=>n==x)).getD 0]?=some x
   rw[h1];exact h2
  have lk:(aX l).length=l.length:=by unfold aX;simp
  refine⟨_,rfl,dq,od,rfl,.inl ⟨_,hz,fun D hD=>cy (jj (d:=dq) (o:=od) (kvs:=aX l)) ((l.map ix).map fun x=>V.int (x:Nat)) (by rw[lk];simp) (by rw[lk];omega) hD (fun H2 s2=>s2 _ _ hz) ?_ bB br ?_⟩⟩
  ·rintro i x y H2 ⟨kk,vv,e,rfl⟩ hy s2 R hR
   unfold aX at e
   rw[List.getElem?_map]at e
   obtain⟨b,hb,eb⟩:=Option.map_eq_some_iff.mp e
   cases eb
   rw[List.getElem?_map,List.getElem?_map,hb]at hy
   cases hy
   have hbi:=hix b (List.mem_of_getElem? hb)
   refine⟨rfl,rfl,_,rfl,.inl ⟨rfl,_,SqL.of (s2 _ _ hoz)⟩,_,rfl,oL,_,_,ix b,sv b,rfl,rfl,SqL.of (s2 _ _ hoz),rfl,wF ns,?_,?_,fun m z hm hz'=>?_,hR _ (Same.refl _)⟩
   ·rw[List.getElem?_map,hbi];rfl
   ·rw[yJ,uC];exact decide_eq_true rfl
   ·rw[List.getElem?_map]at hz'
    obtain⟨u,hu,rfl⟩:=Option.map_eq_some_iff.mp hz'
    rw[yJ,uC]
    refine decide_eq_false fun e=>?_
    subst e
    have:=mH hn hu hbi
    omega
  ·intro H2 s2 hD2
   refine⟨s2 _ _ hz,D,l.map ix,rfl,SqL.of ?_,?_,?_⟩
   ·rw[ae (bo hD2 (s2 _ _ hz) (by intro z;cases z))]
    exact hD2
   ·intro x hx
    obtain⟨b,hb,rfl⟩:=List.mem_map.mp hx
    have:=(List.getElem?_eq_some_iff.mp (hix b hb)).1
    omega
   ·refine k _ _ (fun j=>?_) (nQ hd s2)
    rw[aY,List.mem_map]
    constructor
    ·rintro⟨b,hb,rfl⟩;exact⟨b,hb,hix b hb⟩
    ·rintro⟨b,hb,e⟩;exact⟨b,hb,mH hn (hix b hb) e⟩
theorem wG {c:Mo.Case}(g:GoodC c){i:Nat}{r:Mo.Row}(hr:c.form.rules[i]?=some r){m:Nat}(h:∀j,Mo.held m j=true↔∃x,TC c.weighs r.name x/\(c.form.rules.map Mo.Row.name)[j]?=some x):c.form.under[i]?=some m:=by
 unfold Mo.Case.under
 rw[List.getElem?_map,hr]
 show some _=some _
 congr 1
 refine bF fun j=>Bool.eq_iff_iff.mpr ?_
 rw[cP,h j,Bool.and_eq_true,decide_eq_true_iff,List.getElem?_map]
 constructor
 ·rintro⟨hj,hm⟩
  rw[List.getElem?_eq_getElem hj]at hm ⊢
  exact⟨_,(lr g).mp hm,rfl⟩
 ·rintro⟨x,hx,e⟩
  obtain⟨s,hs,rfl⟩:=Option.map_eq_some_iff.mp e
  refine⟨(List.getElem?_eq_some_iff.mp hs).1,?_⟩
  rw[hs]
  exact (lr g).mpr hx
def xK (A:Adr):Sp:=fun vs H Q _=>∃(H0:Hp)(d:Addr)(c:Mo.Case),vs=[.ref d]/\DraftAt A H0 H d c/\∀p H',Same H H'->H p=none->CaseAt A H' p c.form->Q (.ref p) H'
theorem lH (T : Txt K mg A) : Cal P w K mg base "numbered_case" ["draft"] 4 (xK A) := by
  have nd := sc_numbered_case.nd
  have C_literal_numbers := jZ (P := P) (w := w) (base := base) T
  have C_numbered_clause := kh (P := P) (w := w) (base := base) T
  have C_numbered_rules := k6 (P := P) (w := w) (base := base) T
  have M_Case := yp (P := P) (w := w) (base := base) T
  refine T.d_numbered_case.ok sc_numbered_case (fun vs H Q E h => ?_) (fun f cdv A0 outer s H vs Q E hr h => ?_)
  · obtain ⟨H0, d, c, rfl, _⟩ := h
    rfl
  · obtain ⟨H0, d, c, rfl, ⟨dx, lA, rA, aA, oA, lps, rps, atoms, ops, D⟩, k⟩ := h
    have hu := b9 hr
    refine ⟨_, (ag (ap (i := 1) nd rfl lc_ (aI (fk rfl) rfl T.b_sorted PyProof.Rows.boot_sorted (ab (aG K (pv 0)) ah))) (ag (ap (i := 2) nd rfl lc_ (ao C_literal_numbers (hr.mono (by decide)) rfl (ab (pv 1) ah))) (ag (dF rfl nd (i := 3) rfl rfl (eK rfl rfl rfl rfl) (be (aI (fk rfl) rfl T.b_sorted PyProof.Rows.boot_sorted (ab (aG K (pv 0)) ah))) (aU (N := ["draft", "atoms", "numbers", "laws", "name", "order", "rules", "names", "outweighed"]) (sc := ai bT) (own := [("name", 4)]) (by decide +kernel)) (fun _ _ _ _ _ => (aw (i := 4) nd rfl lc_)) (fun _ _ _ _ _ => bj) (fun _ _ _ _ _ => (ao C_numbered_clause (hr.mono (by decide)) rfl (ab (cn hu (aG K (pv 0)) (pv 4) (fun _ _ => rfl)) (ab (pv 2) ah))))) (ag (ap (i := 5) nd rfl lc_ (aI (fk rfl) rfl T.b_sorted PyProof.Rows.boot_sorted (ab (aG K (pv 0)) ah))) (ag (dF rfl nd (i := 6) rfl rfl (eK rfl rfl rfl rfl) (be (pv 5)) (aU (N := ["draft", "atoms", "numbers", "laws", "name", "order", "rules", "names", "outweighed"]) (sc := ai bT) (own := [("name", 4)]) (by decide +kernel)) (fun _ _ _ _ _ => (aw (i := 4) nd rfl lc_)) (fun _ _ _ _ _ => bj) (fun _ _ _ _ _ => (ao C_numbered_clause (hr.mono (by decide)) rfl (ab (cn hu (aG K (pv 0)) (pv 4) (fun _ _ => rfl)) (ab (pv 2) ah))))) (ag (dF rfl nd (i := 7) rfl rfl (eK rfl rfl rfl rfl) (be (pv 5)) (aU (N := ["draft", "atoms", "numbers", "laws", "name", "order", "rules", "names", "outweighed"]) (sc := ai bT) (own := [("name", 4)]) (by decide +kernel)) (fun _ _ _ _ _ => (aw (i := 4) nd rfl lc_)) (fun _ _ _ _ _ => bj) (fun _ _ _ _ _ => (cn hu (pv 2) (pv 4) (fun _ _ => rfl)))) (ag (dF rfl nd (i := 8) rfl rfl (eK rfl rfl rfl rfl) (be (pv 5)) (aU (N := ["draft", "atoms", "numbers", "laws", "name", "order", "rules", "names", "outweighed"]) (sc := ai bT) (own := [("name", 4)]) (by decide +kernel)) (fun _ _ _ _ _ => (aw (i := 4) nd rfl lc_)) (fun _ _ _ _ _ => bj) (fun _ _ _ _ _ => (ao C_numbered_rules (hr.mono (by decide)) rfl (ab (cn hu (aG K (pv 0)) (pv 4) (fun _ _ => rfl)) (ab (pv 5) ah))))) (aj (al (ga M_Case (hr.mono (by decide)) rfl (ab (pv 1) (ab (pv 3) (ab (pv 6) (ab (pv 7) (ab (pv 8) ah))))))))))))))), ?_⟩
    have g := D.good
    have hfa := ui g
    have sl : 1000 ≤ sizeLine := by decide
    obtain ⟨fl1, fl2⟩ := nT g
    obtain ⟨fr1, fr2⟩ := mE g
    have hnames := D.names
    refine ⟨_, rfl, d, _, dx, _, _, rfl, D.ob, T.cl_Draft, T.n_Draft_atoms, lY, aA, _, atoms.map st, rfl, D.aa, (by rw [jU, qH]), fun ys aL hperm hsort haL => ?_⟩
    obtain ⟨zs, rfl, hz1, hz2⟩ := ib hperm hsort D.an
    have ez : zs = c.form.atoms := by
      rw [hfa]
      exact gM hz2 (e8 c) fun x => by rw [hz1.mem_iff, D.am, mem_atoms]
    subst ez
    have eat : (c.form.atoms.map st).map V.str = c.form.atoms.map sv := by rw [List.map_map]; rfl
    rw [eat]
    have s1 := ak (o := .lst (c.form.atoms.map sv)) haL
    have hat1 : (upd H aL (.lst (c.form.atoms.map sv))) aL = some (.lst (c.form.atoms.map sv)) := af
    have nfa : c.form.atoms.length ≤ 64 := by rw [hfa]; exact g.na
    have ndf : c.form.atoms.Nodup := d0 _
    refine ⟨_, rfl, aL, c.form.atoms, rfl, SqL.of hat1, ndf, (by rw [hfa]; exact sY g), (by omega), fun nD kvs H2 s2 hnD hnD2 hk => ?_⟩
    have s12 := s1.trans s2
    have D2 := D.mono s12
    have el : (lps.map fun y => y.1.name) = c.laws.map Mo.Row.name := by rw [← D.el, List.map_map]; rfl
    refine ⟨_, rfl, d, _, dx, _, _, rfl, D2.ob, T.cl_Draft, T.n_Draft_laws, gS, lA, _, (c.laws.map Mo.Row.name).map st, rfl, D2.la, (by rw [iB, el, qH]), fun ys nl hperm hsort hnl => ?_⟩
    obtain ⟨zs, rfl, hz1, hz2⟩ := ib hperm hsort (by rw [← el]; exact hnames.2.2)
    have ez : zs = c.form.laws.map Mo.Row.name := il hz2 fl1 fun x => by rw [hz1.mem_iff, (fl2.map Mo.Row.name).mem_iff]
    subst ez
    have ela : ((c.form.laws.map Mo.Row.name).map st).map V.str = c.form.laws.map fun r => sv r.name := by rw [List.map_map, List.map_map]; rfl
    rw [ela]
    have s3 := s12.trans (ak (o := .lst (c.form.laws.map fun r => sv r.name)) hnl)
    have nla : c.form.laws.length ≤ 64 := by rw [fl2.length_eq]; exact g.nl
    have nru : c.form.rules.length ≤ 10 := by rw [fr2.length_eq]; exact g.nu
    have hnl3 : (upd H2 nl (.lst (c.form.laws.map fun r => sv r.name))) nl = some (.lst (c.form.laws.map fun r => sv r.name)) := af
    generalize hH3 : upd H2 nl (.lst (c.form.laws.map fun r => sv r.name)) = H3 at s3 hnl3
    have s23 : Same H2 H3 := hH3 ▸ ak hnl
    refine ⟨nl, rfl, ⟨_, SqL.of hnl3⟩, fun lL hlL => gW (aR (xs := c.form.laws.map fun r => sv r.name)) c.form.laws.length (by simp) (by rw [List.length_map]; omega) hlL (fun H4 s4 => SqL.of (s4 _ _ hnl3))
      (fun i H4 q => ∃ r, c.form.laws[i]? = some r ∧ NCl A.Clause H4 q (nums c.form r) (c.form.lit c.form.atoms r.head)) (fun i H4 H5 q s5 ⟨r, hr, h⟩ => ⟨r, hr, h.same s5⟩) (fun i H4 q L xs ys hL ⟨r, hr, h⟩ => ⟨r, hr, h.putL hL⟩) ?_ ?_⟩
    · rintro i x H4 e s4 R hR
      rw [List.getElem?_map] at e
      obtain ⟨r, hr, rfl⟩ := Option.map_eq_some_iff.mp e
      have s04 := s3.trans s4
      have D4 := D.mono s04
      have hrm : r ∈ c.laws := fl2.mem_iff.mp (List.mem_of_getElem? hr)
      obtain ⟨z, hz, hz'⟩ := List.mem_map.mp (by rw [D.el]; exact hrm : r ∈ lps.map (·.1))
      obtain ⟨w1, w2⟩ := D4.rl z hz
      subst hz'
      obtain ⟨b1, b2⟩ := cB (c := c) (.inl hrm)
      refine ⟨rfl, rfl, _, rfl, d, _, dx, _, _, rfl, D4.ob, T.cl_Draft, T.n_Draft_laws, gS, _, rfl, lA, _, rfl, fb (k := kN z.1.name) D4.la rfl (lB hnames.2.2 hz), _, rfl, z.2, nD, z.1, c.form.atoms, kvs, c.form, rfl, w1, w2, (s23.trans s4) _ _ hnD2, hk, ndf, (by rw [hfa]; exact b1), (by rw [hfa]; exact b2), fun q H5 s5 hq hc => ?_⟩
      exact hR q H5 hq s5 ⟨z.1, hr, hc⟩
    intro H4 lpp hlpl hlL4 s4 hlG
    have hcl4 : NCls A.Clause H4 c.form c.form.laws lpp := ⟨by rw [hlpl]; simp, fun i p r hp hr => by
      obtain ⟨r', hr', h⟩ := hlG i p hp
      rw [hr] at hr'; cases hr'; exact h⟩
    have s04 := s3.trans s4
    have D4 := D.mono s04
    have er : (rps.map fun y => y.1.name) = c.rules.map Mo.Row.name := by rw [← D.er, List.map_map]; rfl
    refine ⟨_, rfl, d, _, dx, _, _, rfl, D4.ob, T.cl_Draft, T.n_Draft_rules, dD, rA, _, (c.rules.map Mo.Row.name).map st, rfl, D4.ra, (by rw [iB, er, qH]), fun ys oR hperm hsort hoR => ?_⟩
    obtain ⟨zs, rfl, hz1, hz2⟩ := ib hperm hsort (by rw [← er]; exact hnames.2.1)
    have ez : zs = c.form.rules.map Mo.Row.name := il hz2 fr1 fun x => by rw [hz1.mem_iff, (fr2.map Mo.Row.name).mem_iff]
    subst ez
    have era : ((c.form.rules.map Mo.Row.name).map st).map V.str = (c.form.rules.map Mo.Row.name).map sv := by rw [List.map_map]; rfl
    rw [era]
    have hoR5 : (upd H4 oR (.lst ((c.form.rules.map Mo.Row.name).map sv))) oR = some (.lst ((c.form.rules.map Mo.Row.name).map sv)) := af
    generalize hH5 : upd H4 oR (.lst ((c.form.rules.map Mo.Row.name).map sv)) = H5 at hoR5
    have s45 : Same H4 H5 := hH5 ▸ ak hoR
    have s05 := s04.trans s45
    refine ⟨_, rfl, oR, rfl, ⟨_, SqL.of hoR5⟩, fun rL hrL => gW (aR (xs := (c.form.rules.map Mo.Row.name).map sv)) c.form.rules.length (by simp) (by rw [List.length_map, List.length_map]; omega) hrL (fun H6 s6 => SqL.of (s6 _ _ hoR5))
      (fun i H6 q => ∃ r, c.form.rules[i]? = some r ∧ NCl A.Clause H6 q (nums c.form r) (c.form.lit c.form.atoms r.head)) (fun i H6 H7 q s7 ⟨r, hr, h⟩ => ⟨r, hr, h.same s7⟩) (fun i H6 q L xs ys hL ⟨r, hr, h⟩ => ⟨r, hr, h.putL hL⟩) ?_ ?_⟩
    · rintro i x H6 e s6 R hR
      rw [List.getElem?_map, List.getElem?_map] at e
      obtain ⟨b, hb, rfl⟩ := Option.map_eq_some_iff.mp e
      obtain ⟨r, hr, rfl⟩ := Option.map_eq_some_iff.mp hb
      have s06 := s05.trans s6
      have D6 := D.mono s06
      have hrm : r ∈ c.rules := fr2.mem_iff.mp (List.mem_of_getElem? hr)
      obtain ⟨z, hz, hz'⟩ := List.mem_map.mp (by rw [D.er]; exact hrm : r ∈ rps.map (·.1))
      obtain ⟨w1, w2⟩ := D6.rr z hz
      subst hz'
      obtain ⟨b1, b2⟩ := cB (c := c) (.inr hrm)
      refine ⟨rfl, rfl, _, rfl, d, _, dx, _, _, rfl, D6.ob, T.cl_Draft, T.n_Draft_rules, dD, _, rfl, rA, _, rfl, fb (k := kN z.1.name) D6.ra rfl (lB hnames.2.1 hz), _, rfl, z.2, nD, z.1, c.form.atoms, kvs, c.form, rfl, w1, w2, ((s23.trans s4).trans (s45.trans s6)) _ _ hnD2, hk, ndf, (by rw [hfa]; exact b1), (by rw [hfa]; exact b2), fun q H7 s7 hq hc => ?_⟩
      exact hR q H7 hq s7 ⟨z.1, hr, hc⟩
    intro H6 rpp hrpl hrL6 s6 hrG
    have hcr6 : NCls A.Clause H6 c.form c.form.rules rpp := ⟨by rw [hrpl]; simp, fun i p r hp hr => by
      obtain ⟨r', hr', h⟩ := hrG i p hp
      rw [hr] at hr'; cases hr'; exact h⟩
    have s06 := s05.trans s6
    have s26 := (s23.trans s4).trans (s45.trans s6)
    have hoR6 := s6 _ _ hoR5
    refine ⟨_, rfl, oR, rfl, ⟨_, SqL.of hoR6⟩, fun nL hnL => cy (aR (xs := (c.form.rules.map Mo.Row.name).map sv)) (c.form.rules.map fun r => V.int ((c.form.lit c.form.atoms ⟨r.name, false⟩ : Nat) : Int)) (by simp) (by rw [List.length_map, List.length_map]; omega) hnL (fun H7 s7 => SqL.of (s7 _ _ hoR6)) ?_ bB br ?_⟩
    · rintro i x y H7 e hy s7 R hR
      rw [List.getElem?_map, List.getElem?_map] at e
      rw [List.getElem?_map] at hy
      obtain ⟨b, hb, rfl⟩ := Option.map_eq_some_iff.mp e
      obtain ⟨r, hr, rfl⟩ := Option.map_eq_some_iff.mp hb
      rw [hr] at hy
      cases hy
      have hrm : r ∈ c.rules := fr2.mem_iff.mp (List.mem_of_getElem? hr)
      have hra : r.name ∈ c.form.atoms := by rw [hfa]; exact iy hrm
      refine ⟨rfl, rfl, _, rfl, _, rfl, nD, _, rfl, fb (k := kN r.name) ((s26.trans s7) _ _ hnD2) rfl ?_, hR _ (Same.refl _)⟩
      have := hk.lit ndf c.form (l := ⟨r.name, false⟩) hra
      simpa [aS] using this
    intro H7 s7 hnL7
    have s07 := s06.trans s7
    have hoR7 := s7 _ _ hoR6
    have ulen : c.form.under.length = c.form.rules.length := by unfold Mo.Case.under; simp
    refine ⟨_, rfl, oR, rfl, ⟨_, SqL.of hoR7⟩, fun oL hoL => cy (aR (xs := (c.form.rules.map Mo.Row.name).map sv)) (c.form.under.map fun x => V.int (x : Nat)) (by simp [ulen]) (by rw [List.length_map, List.length_map]; omega) hoL (fun H8 s8 => SqL.of (s8 _ _ hoR7)) ?_ bB br ?_⟩
    · rintro i x y H8 e hy s8 R hR
      rw [List.getElem?_map, List.getElem?_map] at e
      rw [List.getElem?_map] at hy
      obtain ⟨b, hb, rfl⟩ := Option.map_eq_some_iff.mp e
      obtain ⟨r, hr, rfl⟩ := Option.map_eq_some_iff.mp hb
      obtain ⟨u, hu', rfl⟩ := Option.map_eq_some_iff.mp hy
      have s08 := s07.trans s8
      have D8 := D.mono s08
      have hrm : r ∈ c.rules := fr2.mem_iff.mp (List.mem_of_getElem? hr)
      obtain ⟨z, hz, hz'⟩ := List.mem_map.mp (by rw [D.eo]; exact hrm : r ∈ ops.map (·.1))
      subst hz'
      obtain ⟨o1, o2, o3⟩ := D8.ow z hz
      have sub : ∀ x ∈ z.2.2, x ∈ c.form.rules.map Mo.Row.name := fun x hx => by
        obtain ⟨v, hv⟩ := ((o3 x).mp hx).tgt
        rw [(fr2.map Mo.Row.name).mem_iff]
        exact (g.wr _ hv).2
      have nds : (c.form.rules.map Mo.Row.name).Nodup := j1 (mM fr1)
      refine ⟨rfl, rfl, _, rfl, d, _, dx, _, _, rfl, D8.ob, T.cl_Draft, T.n_Draft_outweighed, gO, _, rfl, oA, _, rfl, ig D8.oa hnames.1 hz rfl, _, rfl, z.2.1, oR, z.2.2, c.form.rules.map Mo.Row.name, rfl, o1, s8 _ _ hoR7, sub, nds, (by rw [List.length_map]; omega), ?_, fun m H9 hm s9 => ?_⟩
      · have := cf o2 sub
        rw [List.length_map] at this
        omega
      · have : c.form.under[i]? = some m := wG g hr fun j => by
          rw [hm j]
          constructor
          · rintro ⟨x, hx, e⟩; exact ⟨x, (o3 x).mp hx, e⟩
          · rintro ⟨x, hx, e⟩; exact ⟨x, (o3 x).mpr hx, e⟩
        rw [this] at hu'
        cases hu'
        exact hR _ s9
    intro H8 s8 hoL8
    have s08 := s07.trans s8
    have s68 := s7.trans s8
    have s48 := s45.trans (s6.trans s68)
    have s28 : Same H2 H8 := s26.trans s68
    have hat8 : H8 aL = some (.lst (c.form.atoms.map sv)) := s28 _ _ (s2 _ _ hat1)
    refine ⟨_, rfl, _, rfl, _, rfl, _, rfl, _, rfl, rfl, fun x dy hx hdy hne => ?_⟩
    have s9 := cu (C := A.Case) (fs := dG aL lL rL nL oL) hx hdy
    refine k x _ (s08.trans s9) (s08.free hx) ⟨dy, aL, lL, rL, nL, oL, lpp, rpp, ?_⟩
    exact { ob := gj, at_ := s9 _ _ hat8, la := s9 _ _ (s48 _ _ hlL4), ra := s9 _ _ (s68 _ _ hrL6), na := s9 _ _ (s8 _ _ hnL7), oa := s9 _ _ hoL8, cl := (hcl4.same s48).same s9, cr := (hcr6.same s68).same s9, nl := nla, nu := nru, nat := nfa,
            few := fun r hr => (g.rows r (hr.elim (fun h => .inl (fl2.mem_iff.mp h)) fun h => .inr (fr2.mem_iff.mp h))).few }
def sP (A:Adr)(K:PySem.W.Frag):Sp:=fun vs H Q _=>∃(a:Addr)(t:B),vs=[.ref a]/\SqL K H a (t.map fun c=>.int (c:Nat))/\t.length<=LB/\
 (∀f,Mo.caseIn t=.error f->∀H',Same H H'->Q .non H')/\(∀c,Mo.caseIn t=.ok c->∀p H',Same H H'->H p=none->CaseAt A H' p c->Q (.ref p) H')
theorem qw (T:Txt K mg A):Cal P w K mg base "read_case" ["t"] 7 (sP A K):=by
 have nd:=sc_read_case.nd
 have C_enter_text:=pi (P:=P) (w:=w) (base:=base) T
 have C_numbered_case:=lH (P:=P) (w:=w) (base:=base) T
 have M_Draft:=wT (P:=P) (w:=w) (base:=base) T
 refine T.d_read_case.ok sc_read_case (fun vs H Q E h=>?_) (fun f cdv A0 outer s H vs Q E hr h=>?_)
 ·obtain⟨a,t,rfl,_⟩:=h
  rfl
 ·obtain⟨a,t,rfl,hS,hl,k0,k1⟩:=h
  refine⟨_,(ag (ap (i:=1) nd rfl lc_ (x5 M_Draft (hr.mono (by decide)) rfl)) (ag (aV (cH (yq (ao C_enter_text (hr.mono (by decide)) rfl (ab (pv 1) (ab (pv 0) ah))))) (aj (al dE)) aF) (aj (al (ao C_numbered_case (hr.mono (by decide)) rfl (ab (pv 1) ah)))))),?_⟩
  intro d dx nd' ndx nex
  have s0:Same H (upd (upd H dx (.own d)) d (.ins A.Draft dx [])):=fun b o e=>by
   rw[ae (aD e nd'),ae (aD e ndx)]
   exact e
  refine⟨d,dx,rfl,af,fun lA rA aA oA H1 hnd hfree hkeep hob hdk=>⟨rfl,?_⟩⟩
  have s1:Same H H1:=fun b o e=>hkeep b o (s0 b o e) (aD e nd')
  have DD:DraftAt A H H1 d Mo.Case.none_:=⟨dx,lA,rA,aA,oA,[],[],[],[],{
   same:=s1,ob:=hob,la:=hdk lA (by simp),ra:=hdk rA (by simp),aa:=hdk aA (by simp),oa:=hdk oA (by simp),rl:=(fun x h=>nomatch h),rr:=(fun x h=>nomatch h),ow:=(fun x h=>nomatch h),el:=rfl,er:=rfl,eo:=rfl,an:=List.nodup_nil,
   am:=fun x=>⟨(fun h=>nomatch h),(fun h=>nomatch h)⟩,dist:=by simpa using hnd,free:=fun x hx=>s0.free (hfree x (by simpa using hx)),good:=vY }⟩
  refine⟨_,rfl,_,rfl,H,d,a,t,rfl,DD,hS,hl,fun e r H2 s2=>?_,fun c e H2 D2=>?_⟩
  ·refine⟨_,rfl,cw ?_⟩
   rcases lf t with ⟨f,h1,h2⟩|⟨c,h1,h2⟩
   ·exact k0 f h1 _ s2
   ·rw[e]at h2;cases h2
  ·refine⟨_,rfl,bX ?_⟩
   rcases lf t with ⟨f,h1,h2⟩|⟨c',h1,h2⟩
   ·rw[e]at h2;cases h2
   ·rw[e]at h2
    cases h2
    exact⟨_,rfl,H,d,c,rfl,D2,fun p H3 s3 hp hc=>k1 _ h1 p H3 (D2.same.trans s3) (D2.same.free hp) hc⟩
end
def kI (n:Nat):Key:=Sum.inl (n:Int)
theorem qY {a b:Nat}(h:kI a=kI b):a=b:=by have:=Sum.inl.inj h;omega
def bq (p:PS):Stp:=⟨(p.kind:Nat),(p.number:Nat),p.body.map kI,kI p.lit⟩
theorem fF (L:List PS):∀(n l:Nat),aM (L.map bq) n (kI l)=aE L n l
 |0,l=>rfl
 |n+1,l=>by
  rw[fh,cA,fF L n l,List.any_map]
  congr 1
  congr 1
  funext s
  show (decide (kI s.lit=kI l)&&(s.body.map kI).all (aM (L.map bq) n))=_
  rw[List.all_map]
  have e1:decide (kI s.lit=kI l)=decide (s.lit=l):=by
   by_cases h:s.lit=l
   ·rw[h];simp
   ·rw[decide_eq_false h,decide_eq_false fun z=>h (qY z)]
  have e2:(aM (L.map bq) n) ∘ kI=aE L n:=funext fun x=>fF L n x
  rw[e1,e2]
theorem ud {L:List PS}{l m:Nat}(h:IsR (L.map bq) (kI l) m):IsRN L l m:=⟨by rw[<-fF];exact h.1,fun j hj=>by rw[<-fF];exact h.2 j hj⟩
theorem StepsAt.putL {C:Addr}{H:Hp}{ps:List Addr}{d:Addr}{S:List Stp}{o:HO}{xs:List V}(h:StepsAt C H ps S)(hd:H d=some (.lst xs)):StepsAt C (upd H d o) ps S:=⟨h.1,fun i p s a b=>(h.2 i p s a b).putL hd⟩
theorem StepsAt.snoc {C:Addr}{H:Hp}{ps:List Addr}{q:Addr}{S:List Stp}{s:Stp}(h:StepsAt C H ps S)(hq:StepAt C H q s):StepsAt C H (ps++[q]) (S++[s]):=by
 refine⟨by simp[h.1],fun i p u hp hu=>?_⟩
 by_cases hi:i<ps.length
 ·rw[List.getElem?_append_left hi]at hp
  rw[List.getElem?_append_left (by rw[<-h.1];exact hi)]at hu
  exact h.2 i p u hp hu
 ·rw[List.getElem?_append_right (by omega)]at hp
  rw[List.getElem?_append_right (by rw[<-h.1];omega),<-h.1]at hu
  have:i-ps.length=0:=by
   apply Decidable.byContradiction
   intro hne
   rw[List.getElem?_eq_none (by simp;omega)]at hp
   cases hp
  rw[this]at hp hu
  cases hp
  cases hu
  exact hq
theorem ug {f:Mo.Case}{S:Nat}(h1:f.laws.length<=64)(h2:f.rules.length<=10):(aq f S).length<=84:=by
 unfold aq members Mo.membersOf
 have:=List.length_filter_le (Mo.held S) (List.range f.rules.length)
 rw[List.length_range]at this
 simp
 omega
section
variable {P:Program}{w:World}{K:PySem.W.Frag}{mg:Str->Option Value}{base:Heap}{A:Adr}
def sS (A:Adr):Sp:=fun vs H Q _=>∃(p:Addr)(S:Nat)(f:Mo.Case),vs=[.ref p,.int (S:Nat)]/\CaseAt A H p f/\∀q ps H',Same H H'->H q=none->H' q=some (.lst (ps.map V.ref))->StepsAt A.Step H' ps ((aq f S).map bq)->Q (.ref q) H'
theorem k8 (T:Txt K mg A):Cal P w K mg base "possible_steps" ["case","rules"] 3 (sS A):=by
 have nd:=sc_possible_steps.nd
 have C_members_of:=gu (P:=P) (w:=w) (base:=base) T
 have M_Step:=sD (P:=P) (w:=w) (base:=base) T
 refine T.d_possible_steps.ok sc_possible_steps (fun vs H Q E h=>?_) (fun f cdv A0 outer s H vs Q E hr h=>?_)
 ·obtain⟨p,S,f,rfl,_⟩:=h
  rfl
 ·obtain⟨p,S,c,rfl,DD,k⟩:=h
  refine⟨_,(ag (ap (i:=2) nd rfl lc_ (ao C_members_of (hr.mono (by decide)) rfl (ab (pv 0) (ab (pv 1) ah)))) (ag (dF rfl nd (i:=3) rfl rfl (eK rfl rfl rfl rfl) (be (pv 2)) (aU (N:=["case","rules","members","steps","number","law"]) (sc:=ai c7) (own:=[("number",4)]) (by decide +kernel)) (fun _ _ _ _ _=>(aw (i:=4) nd rfl lc_)) (fun _ _ _ _ _=>bj) (fun _ _ _ _ _=>(ga M_Step (hr.mono (by decide)) rfl (ab (aQ rfl T.c_RULE_NAME) (ab (pv 4) (ab (iV ah) (ab (bH (pE K) (aG K (pv 0)) (pv 4) (fun _ _=>rfl)) ah))))))) (ag (bO PassesOwn.never rfl (eJ rfl T.b_enumerate (ab (aG K (pv 0)) ah)) (iY rfl (bw (aw (i:=4) nd rfl lc_) (bw (aw (i:=5) nd rfl lc_) dO))) (aj (cN (eU PySem.F.plainAttrs_list PySem.F.slot_list_append PySem.F.type_list_append cR (pv 3) (ab (ga M_Step (hr.mono (by decide)) rfl (ab (aQ rfl T.c_LAW_HEAD) (ab (pv 4) (ab (aG K (pv 5)) (ab (aG K (pv 5)) ah))))) ah))))) (ag (bO PassesOwn.never rfl (be (pv 2)) (aw (i:=4) nd rfl lc_) (aj (cN (eU PySem.F.plainAttrs_list PySem.F.slot_list_append PySem.F.type_list_append cR (pv 3) (ab (ga M_Step (hr.mono (by decide)) rfl (ab (aQ rfl T.c_RULE_HEAD) (ab (pv 4) (ab (aG K (bH bf (aG K (pv 0)) (pv 4) (fun _ _=>rfl))) (ab (aG K (bH bf (aG K (pv 0)) (pv 4) (fun _ _=>rfl))) ah))))) ah))))) (aj (al (pv 3))))))),?_⟩
  obtain⟨dx,aL,lL,rL,nL,oL,lps,rps,D⟩:=id DD
  have hn:=D.nu
  have hl:=D.nl
  have sl:1000<=sizeLine:=by decide
  have mlen:(members c S).length<=10:=by
   unfold members Mo.membersOf
   have:=List.length_filter_le (Mo.held S) (List.range c.rules.length)
   rw[List.length_range]at this
   omega
  have mlt:∀n∈members c S,n<c.rules.length:=fun n hn=>(mem_members.mp hn).1
  refine⟨_,rfl,_,rfl,p,S,c,rfl,DD,fun mL H1 s1 hmL hmL1=>?_⟩
  have D1:=D.same s1
  refine⟨_,rfl,mL,rfl,⟨_,SqL.of hmL1⟩,fun L hL=>gW (aR (xs:=(members c S).map fun x=>V.int (x:Nat))) (members c S).length (by simp) (by rw[List.length_map];omega) hL (fun H2 s2=>SqL.of (s2 _ _ hmL1))
   (fun i H2 q=>∃n,(members c S)[i]?=some n/\StepAt A.Step H2 q (bq (jk c n))) (fun i H2 H3 q s3 ⟨n,hn,h⟩=>⟨n,hn,h.same s3⟩) (fun i H2 q L xs ys hL ⟨n,hn,h⟩=>⟨n,hn,h.putL hL⟩) ?_ ?_⟩
  ·rintro i x H2 e s2 R hR
   rw[List.getElem?_map]at e
   obtain⟨n,en,rfl⟩:=Option.map_eq_some_iff.mp e
   have hnl:=mlt n (List.mem_of_getElem? en)
   refine⟨rfl,rfl,_,rfl,(by show 0<=sizeLine;omega),fun tp htp=>?_⟩
   have s3:=s2.trans (ak (o:=.tup []) htp)
   have D3:=D1.same s3
   refine⟨_,rfl,p,_,dx,_,_,rfl,D3.ob,T.cl_Case,T.n_Case_names,oy,_,rfl,nL,_,_,_,rfl,rfl,SqL.of D3.na,bu (j:=n) (by rw[List.getElem?_map,List.getElem?_eq_getElem hnl];rfl),rfl,fun q dq hq hdq hne=>?_⟩
   refine hR q _ ((ak (o:=.tup []) htp).free hq) ((ak (o:=.tup []) htp).trans (cu hq hdq)) ⟨n,en,dq,tp,?_,?_,?_⟩
   ·have e1:c.rules.getD n ⟨[],[],⟨[],false⟩⟩=c.rules[n]:=by simp[hnl]
    show _=some (HO.ins A.Step dq [("kind",.int ((0:Nat):Int)),("number",.int (n:Nat)),("body",.ref tp),("literal",.int ((c.lit c.atoms ⟨(c.rules.getD n ⟨[],[],⟨[],false⟩⟩).name,false⟩:Nat):Int))])
    rw[e1]
    exact gj
   ·exact cu hq hdq _ _ af
   ·exact Nat.zero_le _
  intro H2 ps hpl hL2 s2 hG
  have hst2:StepsAt A.Step H2 ps (((members c S).map (jk c)).map bq):=by
   refine⟨by rw[hpl];simp,fun i q s hq hs=>?_⟩
   obtain⟨n,hn,h⟩:=hG i q hq
   rw[List.getElem?_map,List.getElem?_map,hn]at hs
   cases hs
   exact h
  have s02:=s1.trans s2
  have hL0:H L=none:=s1.free hL
  have D2:=D.same s02
  refine⟨_,rfl,p,_,dx,_,_,rfl,D2.ob,T.cl_Case,T.n_Case_laws,qU,lL,_,rfl,SqL.of D2.la,jG (xs:=lps.map V.ref) (fun i σ H3=>Same H H3/\H3 mL=some (.lst ((members c S).map fun x=>V.int (x:Nat)))/\∃(ps:List Addr)(v4 v5:Option V),H3 L=some (.lst (ps.map V.ref))/\
   StepsAt A.Step H3 ps (((members c S).map (jk c)).map bq++((List.range i).map (jy c)).map bq)/\σ=[some (.ref p),some (.int (S:Nat)),some (.ref mL),some (.ref L),v4,v5]) ?_ ?_ ?_ ?_⟩
  ·exact⟨s02,s2 _ _ hmL1,ps,_,_,hL2,by simpa using hst2,rfl⟩
  ·rintro i σ H3 _ ⟨s3,_⟩
   exact SqL.of ((D.same s3).la)
  ·rintro i x σ H3 Tp e ⟨s3,hm3,ps,v4,v5,hL3,hst3,rfl⟩ hT
   rw[List.getElem?_map]at e
   obtain⟨q,eq,rfl⟩:=Option.map_eq_some_iff.mp e
   have s4':=ak (o:=.tup [.int (i:Nat),V.ref q]) hT
   have s4:=s3.trans s4'
   have D4:=D.same s4
   have hi:i<c.laws.length:=by
    have:=(List.getElem?_eq_some_iff.mp eq).1
    rw[D.cl.1]at this
    exact this
   have er:c.laws[i]?=some c.laws[i]:=by simp[hi]
   obtain⟨nm,dq,bp,c1,c2⟩:=D4.cl.2 i q _ eq er
   have hfew:=D.few _ (.inl (List.getElem_mem hi))
   have hlen3:ps.length<=100:=by
    rw[hst3.1]
    simp
    omega
   refine⟨_,rfl,.inl ⟨rfl,_,SqL.of (s4' _ _ hL3)⟩,_,rfl,_,rfl,q,_,dq,_,_,rfl,c1,T.cl_Clause,T.n_Clause_body,dv,_,rfl,q,_,dq,_,_,rfl,c1,T.cl_Clause,T.n_Clause_head,eN,rfl,fun x dy hx hdy hne=>?_⟩
   have s5:=cu (C:=A.Step) (fs:=[("kind",V.int 1),("number",V.int (i:Nat)),("body",.ref bp),("literal",.int ((c.lit c.atoms c.laws[i].head:Nat):Int))]) hx hdy
   have hL5:=s5 _ _ (s4' _ _ hL3)
   have hx0:StepAt A.Step (mkd (upd H3 Tp (.tup [.int (i:Nat),V.ref q])) A.Step x dy [("kind",V.int 1),("number",V.int (i:Nat)),("body",.ref bp),("literal",.int ((c.lit c.atoms c.laws[i].head:Nat):Int))]) x (bq (jy c i)):=by
    have e1:c.laws.getD i ⟨[],[],⟨[],false⟩⟩=c.laws[i]:=by simp[hi]
    have e2:jy c i=⟨1,i,nums c c.laws[i],c.lit c.atoms c.laws[i].head⟩:=by
     unfold jy
     rw[e1]
    rw[e2]
    refine⟨dy,bp,gj,?_,?_⟩
    ·show _=some (HO.tup (((nums c c.laws[i]).map kI).map kV))
     rw[List.map_map]
     exact s5 _ _ c2
    ·show ((nums c c.laws[i]).map kI).length<=LB
     unfold nums
     simp
     have:6<=LB:=by decide
     omega
   refine⟨L,_,_,rfl,rfl,hL5,(by rw[List.length_map];omega),?_⟩
   have hmL5:=s5 _ _ (s4' _ _ hm3)
   refine⟨aN (s4.trans s5) hL0,?_,ps++[x],_,_,?_,?_,rfl⟩
   ·have:mL≠L:=by
     intro z
     subst z
     rw[hmL1]at hL
     cases hL
    rw[ae this]
    exact hmL5
   ·rw[af];simp
   ·have h9:=(((hst3.same s4').same s5).snoc hx0).putL (o:=.lst (ps.map V.ref++[V.ref x])) hL5
    rw[List.append_assoc]at h9
    rw[List.range_succ,List.map_append,List.map_append]
    exact h9
  rintro σ H3 ⟨s3,hm3,ps,v4,v5,hL3,hst3,rfl⟩
  rw[List.length_map,D.cl.1]at hst3
  refine⟨_,rfl,mL,rfl,⟨_,SqL.of hm3⟩,cz (aR (xs:=(members c S).map fun x=>V.int (x:Nat))) (fun i σ H3=>Same H H3/\H3 mL=some (.lst ((members c S).map fun x=>V.int (x:Nat)))/\∃(ps:List Addr)(v4 v5:Option V),H3 L=some (.lst (ps.map V.ref))/\
   StepsAt A.Step H3 ps ((((members c S).map (jk c)).map bq++((List.range c.laws.length).map (jy c)).map bq)++(((members c S).take i).map (jw c)).map bq)/\σ=[some (.ref p),some (.int (S:Nat)),some (.ref mL),some (.ref L),v4,v5]) ?_ ?_ ?_ ?_⟩
  ·exact⟨s3,hm3,ps,_,_,hL3,by simpa using hst3,rfl⟩
  ·rintro i σ H3 _ ⟨_,h3,_⟩
   exact SqL.of h3
  ·rintro i x σ H4 hi e ⟨s4,hm4,ps,v4,v5,hL4,hst4,rfl⟩
   rw[List.getElem?_map]at e
   obtain⟨n,en,rfl⟩:=Option.map_eq_some_iff.mp e
   have hnl:=mlt n (List.mem_of_getElem? en)
   have D4:=D.same s4
   have hnr:n<rps.length:=by rw[D.cr.1];exact hnl
   have eq:rps[n]?=some rps[n]:=by simp[hnr]
   have er:c.rules[n]?=some c.rules[n]:=by simp[hnl]
   obtain⟨nm,dq,bp,c1,c2⟩:=D4.cr.2 n _ _ eq er
   have hfew:=D.few _ (.inr (List.getElem_mem hnl))
   have hlen4:ps.length<=100:=by
    rw[hst4.1]
    simp
    omega
   have hat:atI (rps.map V.ref) ((n:Nat):Int)=some (.ref rps[n]):=bu (by rw[List.getElem?_map,eq];rfl)
   refine⟨_,rfl,.inl ⟨rfl,_,SqL.of hL4⟩,_,rfl,_,rfl,p,_,dx,_,_,rfl,D4.ob,T.cl_Case,T.n_Case_rules,gc,_,rfl,rL,_,_,_,rfl,rfl,SqL.of D4.ra,hat,rps[n],_,dq,_,_,rfl,c1,T.cl_Clause,T.n_Clause_body,dv,
    _,rfl,p,_,dx,_,_,rfl,D4.ob,T.cl_Case,T.n_Case_rules,gc,_,rfl,rL,_,_,_,rfl,rfl,SqL.of D4.ra,hat,rps[n],_,dq,_,_,rfl,c1,T.cl_Clause,T.n_Clause_head,eN,rfl,fun x dy hx hdy hne=>?_⟩
   have s5:=cu (C:=A.Step) (fs:=[("kind",V.int 2),("number",V.int (n:Nat)),("body",.ref bp),("literal",.int ((c.lit c.atoms c.rules[n].head:Nat):Int))]) hx hdy
   have hL5:=s5 _ _ hL4
   have hx0:StepAt A.Step (mkd H4 A.Step x dy [("kind",V.int 2),("number",V.int (n:Nat)),("body",.ref bp),("literal",.int ((c.lit c.atoms c.rules[n].head:Nat):Int))]) x (bq (jw c n)):=by
    have e1:c.rules.getD n ⟨[],[],⟨[],false⟩⟩=c.rules[n]:=by simp[hnl]
    have e2:jw c n=⟨2,n,nums c c.rules[n],c.lit c.atoms c.rules[n].head⟩:=by
     unfold jw
     rw[e1]
    rw[e2]
    refine⟨dy,bp,gj,?_,?_⟩
    ·show _=some (HO.tup (((nums c c.rules[n]).map kI).map kV))
     rw[List.map_map]
     exact s5 _ _ c2
    ·show ((nums c c.rules[n]).map kI).length<=LB
     unfold nums
     simp
     have:6<=LB:=by decide
     omega
   refine⟨L,_,_,rfl,rfl,hL5,(by rw[List.length_map];omega),?_⟩
   refine⟨aN (s4.trans s5) hL0,?_,ps++[x],_,_,?_,?_,rfl⟩
   ·have:mL≠L:=by
     intro z
     subst z
     rw[hmL1]at hL
     cases hL
    rw[ae this]
    exact s5 _ _ hm4
   ·rw[af];simp
   ·have h9:=((hst4.same s5).snoc hx0).putL (o:=.lst (ps.map V.ref++[V.ref x])) hL5
    rw[List.append_assoc]at h9
    rw[List.take_succ,en,List.map_append,List.map_append]
    exact h9
  ·rintro σ H4 ⟨s4,hm4,ps,v4,v5,hL4,hst4,rfl⟩
   rw[List.length_map,List.take_of_length_le (Nat.le_refl _)]at hst4
   refine⟨_,rfl,k L ps H4 s4 hL0 hL4 ?_⟩
   unfold aq
   rw[List.map_append,List.map_append,<-List.append_assoc]
   exact hst4
def xA (A:Adr)(H:Hp)(v:V):Option Mo.Case->Prop
 |none=>v=.non
 |some f=>∃p,v=.ref p/\CaseAt A H p f
def uU (A:Adr)(K:PySem.W.Frag):Sp:=fun vs H Q _=>∃(a:Addr)(t:B)(cv:V)(oc:Option Mo.Case),vs=[.ref a,cv]/\SqL K H a (t.map fun c=>.int (c:Nat))/\xA A H cv oc/\Q (.int (ff t oc)) H
theorem mo (T:Txt K mg A):Cal P w K mg base "text_refusal" ["t","case"] 1 (uU A K):=by
 have nd:=sc_text_refusal.nd
 refine T.d_text_refusal.ok sc_text_refusal (fun vs H Q E h=>?_) (fun f cdv A0 outer s H vs Q E hr h=>?_)
 ·obtain⟨a,t,cv,oc,rfl,_⟩:=h
  rfl
 ·obtain⟨a,t,cv,oc,rfl,hS,hc,k⟩:=h
  refine⟨_,(ag (aV (aJ jB (aI aP rfl T.b_len PySem.boot_len (ab (pv 0) ah)) (aQ rfl T.c_MOST_BYTES) (aK _)) (aj (al (aQ rfl T.c_OUT_OF_RANGE))) aF) (ag (aV (cH (jd (pv 1))) (aj (al (aQ rfl T.c_NO_CASE))) aF) (aj (al (aQ rfl T.c_TAKEN))))),?_⟩
  unfold ff at k
  refine⟨_,rfl,a,_,rfl,.inl hS,_,_,rfl,rfl,_,rfl,?_⟩
  rw[List.length_map]
  refine aW (fun h=>?_) (fun h=>?_)
  ·rw[if_pos (by have:=of_decide_eq_true h;omega)]at k
   exact k
  rw[if_neg (fun z=>h (decide_eq_true (by omega)))]at k
  cases oc with
  |none=>
   cases hc
   exact⟨_,rfl,_,rfl,cw k⟩
  |some f=>
   obtain⟨p,rfl,hp⟩:=hc
   exact⟨_,rfl,_,rfl,bX k⟩
def wc (A:Adr)(K:PySem.W.Frag):Sp:=fun vs H Q _=>∃(l:Nat)(a:Addr)(t:B)(cv:V)(oc:Option Mo.Case),vs=[.int (l:Nat),.ref a,cv]/\SqL K H a (t.map fun c=>.int (c:Nat))/\xA A H cv oc/\Q (.int (dY l t oc)) H
theorem kl (T:Txt K mg A):Cal P w K mg base "literal_refusal" ["literal","t","case"] 2 (wc A K):=by
 have nd:=sc_literal_refusal.nd
 have C_text_refusal:=mo (P:=P) (w:=w) (base:=base) T
 refine T.d_literal_refusal.ok sc_literal_refusal (fun vs H Q E h=>?_) (fun f cdv A0 outer s H vs Q E hr h=>?_)
 ·obtain⟨l,a,t,cv,oc,rfl,_⟩:=h
  rfl
 ·obtain⟨l,a,t,cv,oc,rfl,hS,hc,k⟩:=h
  refine⟨_,(ag (ap (i:=3) nd rfl lc_ (ao C_text_refusal (hr.mono (by decide)) rfl (ab (pv 1) (ab (pv 2) ah)))) (ag (aV (PW.pt (eY (aJ cM (pv 3) (aQ rfl T.c_TAKEN) (aK _)) (eM (aJ xG (pv 0) (aO l7 au (aI aP rfl T.b_len PySem.boot_len (ab (aG K (pv 2)) ah))) (aK _))))) (aj (al (aQ rfl T.c_OUT_OF_RANGE))) aF) (aj (al (pv 3))))),?_⟩
  refine⟨_,rfl,_,rfl,a,t,cv,oc,rfl,hS,hc,?_⟩
  unfold dY at k
  refine⟨_,rfl,rfl,_,rfl,?_⟩
  have ed:decide (V.int (ff t oc)=V.int 0)=decide (ff t oc=0):=by
   by_cases e:ff t oc=0
   ·rw[e];simp
   ·rw[decide_eq_false e,decide_eq_false fun z=>e (V.int.inj z)]
  rw[ed]
  refine aW (fun h=>?_) (fun h=>?_)
  ·have h:=of_decide_eq_true h
   cases oc with
   |none=>
    exfalso
    unfold ff at h
    simp only at h
    split at h<;>omega
   |some f=>
    obtain⟨p,rfl,dx,aL,lL,rL,nL,oL,lps,rps,D⟩:=hc
    refine⟨_,rfl,_,rfl,p,_,dx,_,_,rfl,D.ob,T.cl_Case,T.n_Case_atoms,nN,aL,_,rfl,.inl (SqL.of D.at_),_,_,rfl,rfl,.inl ⟨by decide,by decide⟩,_,_,rfl,rfl,_,rfl,?_⟩
    rw[List.length_map]
    refine aW (fun h2=>?_) (fun h2=>?_)
    ·rw[if_pos ⟨h,f,rfl,by have:=of_decide_eq_true h2;omega⟩]at k
     exact k
    ·rw[if_neg (fun z=>by
      obtain⟨_,f',e,z⟩:=z
      cases e
      exact h2 (decide_eq_true (by omega)))]at k
     exact⟨_,rfl,k⟩
  ·rw[if_neg (fun z=>h (decide_eq_true z.1))]at k
   exact bX ⟨_,rfl,k⟩
end
theorem fC (n:Nat):(1:Int)*2^((n:Int)).toNat=((2^n:Nat):Int):=by
 rw[show (1:Int)=((1:Nat):Int) from rfl,sf,Nat.one_mul]
def uj (r:Nat×Nat):List V:=[.int (r.1:Nat),.int ((2^r.2:Nat):Int)]
def BRows (H:Hp)(ps:List Addr)(rs:List (Nat×Nat)):Prop:=ps.length=rs.length/\∀(i:Nat)(p:Addr)(r:Nat×Nat),ps[i]?=some p->rs[i]?=some r->H p=some (.tup (uj r))
theorem BRows.same {H H':Hp}{ps:List Addr}{rs:List (Nat×Nat)}(h:BRows H ps rs)(s:Same H H'):BRows H' ps rs:=⟨h.1,fun i p r a b=>s _ _ (h.2 i p r a b)⟩
theorem BRows.app {H:Hp}{ps qs:List Addr}{rs us:List (Nat×Nat)}(h:BRows H ps rs)(k:BRows H qs us):BRows H (ps++qs) (rs++us):=by
 refine⟨by simp[h.1,k.1],fun i p r a b=>?_⟩
 by_cases hi:i<ps.length
 ·rw[List.getElem?_append_left hi]at a
  rw[List.getElem?_append_left (by rw[<-h.1];exact hi)]at b
  exact h.2 i p r a b
 ·rw[List.getElem?_append_right (by omega)]at a
  rw[List.getElem?_append_right (by rw[<-h.1];omega),<-h.1]at b
  exact k.2 _ p r a b
section
variable {P:Program}{w:World}{K:PySem.W.Frag}{mg:Str->Option Value}{base:Heap}{A:Adr}
def xf:Sp:=fun vs H Q _=>∃S T:Nat,vs=[.int (S:Nat),.int (T:Nat)]/\Q (.bl (Mo.within S T)) H
theorem hV (T:Txt K mg A):Cal P w K mg base "is_within" ["part","rules"] 1 xf:=by
 have nd:=sc_is_within.nd
 refine T.d_is_within.ok sc_is_within (fun vs H Q E h=>?_) (fun f cdv A0 outer s H vs Q E hr h=>?_)
 ·obtain⟨S,n,rfl,_⟩:=h
  rfl
 ·obtain⟨S,n,rfl,k⟩:=h
  refine⟨_,(aj (al (fN cM (aO ge (pv 0) (pv 1)) (pv 0) (aK _)))),?_⟩
  refine⟨_,rfl,_,rfl,_,_,rfl,rfl,_,rfl,rfl,?_⟩
  have e:decide (V.int (Builtin.bitAnd (S:Int) (n:Int))=V.int (S:Int))=Mo.within S n:=by
   rw[cU]
   unfold Mo.within
   by_cases h:S&&&n=S
   ·rw[h];simp
   ·have h1:(S&&&n==S)=false:=beq_false_of_ne h
    rw[h1]
    exact decide_eq_false fun z=>h (by have:=V.int.inj z;omega)
  rw[e]
  exact k
def uL (K:PySem.W.Frag):Sp:=fun vs H Q _=>∃(a:Addr)(ns:List Nat),vs=[.ref a]/\SqT K H a (ns.map fun x=>V.int (x:Nat))/\(∀x∈ns,x<=1000)/\Q (.int (bg ns:Nat)) H
theorem mj (T:Txt K mg A):Cal P w K mg base "literal_bits" ["literals"] 1 (uL K):=by
 have nd:=sc_literal_bits.nd
 refine T.d_literal_bits.ok sc_literal_bits (fun vs H Q E h=>?_) (fun f cdv A0 outer s H vs Q E hr h=>?_)
 ·obtain⟨a,ns,rfl,_⟩:=h
  rfl
 ·obtain⟨a,ns,rfl,hS,hb,k⟩:=h
  refine⟨_,(ag (ap (i:=1) nd rfl lc_ au) (ag (bO PassesOwn.never rfl (kj (pv 0)) (aw (i:=2) nd rfl lc_) (aj (ap (i:=1) nd rfl lc_ (aO kX (pv 1) (aO f7 au (pv 2)))))) (aj (al (pv 1))))),?_⟩
  refine⟨_,rfl,a,rfl,⟨_,hS⟩,cz (gb (xs:=ns.map fun x=>V.int (x:Nat))) (fun i σ H2=>H2=H/\∃v,σ=[some (.ref a),some (.int (bg (ns.take i):Nat)),v]) ?_ ?_ ?_ ?_⟩
  ·exact⟨rfl,none,rfl⟩
  ·rintro i σ H2 _ ⟨rfl,_⟩
   exact hS
  ·rintro i x σ H2 hi e ⟨rfl,v,rfl⟩
   rw[List.getElem?_map]at e
   obtain⟨y,ey,rfl⟩:=Option.map_eq_some_iff.mp e
   have hy:=hb y (List.mem_of_getElem? ey)
   refine⟨_,rfl,_,rfl,_,_,rfl,rfl,⟨by omega,by omega,by decide⟩,_,_,rfl,rfl,?_⟩
   refine⟨rfl,some (V.int (y:Nat)),?_⟩
   have:Builtin.bitOr ((bg (ns.take i):Nat):Int) (1*2^((y:Int)).toNat)=((bg (ns.take (i+1)):Nat):Int):=by
    rw[fC,eO]
    congr 1
    rw[List.take_succ,ey]
    unfold bg
    simp only[Option.toList_some]
    rw[List.foldl_append]
    rfl
   show [some (V.ref a),some (V.int (Builtin.bitOr ((bg (ns.take i):Nat):Int) (1*2^((y:Int)).toNat))),some (V.int (y:Nat))]=_
   rw[this]
  ·rintro σ H2 ⟨rfl,v,rfl⟩
   rw[List.length_map,List.take_of_length_le (Nat.le_refl _)]
   exact⟨_,rfl,k⟩
def qS (A:Adr):Sp:=fun vs H Q _=>∃(p:Addr)(ls:List Nat)(h:Nat),vs=[.ref p]/\NCl A.Clause H p ls h/\(∀x∈ls,x<=1000)/\h<=1000/\∀q H',Same H H'->H q=none->H' q=some (.tup (uj (bg ls,h)))->Q (.ref q) H'
theorem nj (T:Txt K mg A):Cal P w K mg base "clause_bits" ["clause"] 2 (qS A):=by
 have nd:=sc_clause_bits.nd
 have C_literal_bits:=mj (P:=P) (w:=w) (base:=base) T
 refine T.d_clause_bits.ok sc_clause_bits (fun vs H Q E h=>?_) (fun f cdv A0 outer s H vs Q E hr h=>?_)
 ·obtain⟨p,ls,h,rfl,_⟩:=h
  rfl
 ·obtain⟨p,ls,hd,rfl,⟨nm,dx,bp,h1,h2⟩,hb,hh,k⟩:=h
  refine⟨_,(aj (al (iV (ab (ao C_literal_bits (hr.mono (by decide)) rfl (ab (aG K (pv 0)) ah)) (ab (aO f7 au (aG K (pv 0))) ah))))),?_⟩
  refine⟨_,rfl,p,_,dx,_,_,rfl,h1,T.cl_Clause,T.n_Clause_body,dv,bp,ls,rfl,SqT.of h2,hb,_,rfl,p,_,dx,_,_,rfl,h1,T.cl_Clause,T.n_Clause_head,eN,_,_,rfl,rfl,⟨by omega,by omega,by decide⟩,(by show 2<=sizeLine;decide),fun q hq=>k q _ (ak hq) hq ?_⟩
  rw[af]
  show some (HO.tup [V.int _,V.int (1*2^((hd:Int)).toNat)])=_
  rw[fC]
  rfl
def xl (K:PySem.W.Frag):Sp:=fun vs H Q _=>∃(F:Nat)(a:Addr)(ps:List Addr)(rs:List (Nat×Nat)),vs=[.int (F:Nat),.ref a]/\SqL K H a (ps.map V.ref)/\BRows H ps rs/\∀R:Nat,(∀j,Mo.held R j=true↔DerF rs F j)->Q (.int (R:Nat)) H
theorem tX (T:Txt K mg A):Cal P w K mg base "gone_on" ["reached","clauses"] 1 (xl K):=by
 have nd:=sc_gone_on.nd
 refine T.d_gone_on.ok sc_gone_on (fun vs H Q E h=>?_) (fun f cdv A0 outer s H vs Q E hr h=>?_)
 ·obtain⟨F,a,ps,rs,rfl,_⟩:=h
  rfl
 ·obtain⟨F,a,ps,rs,rfl,hS,hB,k⟩:=h
  refine⟨_,(ag (ap (i:=2) nd rfl lc_ (gD eW au)) (ag (fE PassesOwn.never (aJ eh (pv 0) (pv 2) (aK _)) (ag (ap (i:=2) nd rfl lc_ (pv 0)) (aj (bO PassesOwn.never rfl (be (pv 1)) (iY rfl (bw (aw (i:=3) nd rfl lc_) (bw (aw (i:=4) nd rfl lc_) dO))) (aj (aV (aJ cM (aO ge (pv 3) (pv 0)) (pv 3) (aK _)) (aj (ap (i:=0) nd rfl lc_ (aO kX (pv 0) (pv 4)))) aF)))))) (aj (al (pv 0))))),?_⟩
  refine⟨_,rfl,?_⟩
  refine gN (fun σ H'=>H'=H/\∃(R:Nat)(b:Int)(v3 v4:Option V),Mo.within F R=true/\(∀j,Mo.held R j=true->DerF rs F j)/\(b=(R:Int)->a8 rs R=R)/\(b=-1∨∃B:Nat,b=(B:Int)/\R=a8 rs B)/\σ=[some (.int (R:Nat)),some (.ref a),some (.int b),v3,v4])
   (fun σ _=>match σ with|[some (.int R),_,some (.int b),_,_]=>2*fZ rs R.toNat+(if b=R then 0 else 1)|_=>0) ⟨rfl,F,-1,none,none,cb F,(fun j h=>.base h),(fun e=>by omega),.inl rfl,rfl⟩ ?_
  rintro σ H' ⟨rfl,R,b,v3,v4,hw,hd,hfix,hprev,rfl⟩
  refine⟨_,rfl,_,rfl,rfl,_,rfl,?_⟩
  have ed:(!decide (V.int ((R:Nat):Int)=V.int b))=!decide (b=(R:Int)):=by
   congr 1
   by_cases e:b=(R:Int)
   ·rw[e];simp
   ·rw[decide_eq_false e,decide_eq_false fun z=>e (V.int.inj z).symm]
  rw[ed]
  by_cases e:b=(R:Int)
  ·rw[decide_eq_true e]
   exact bX ⟨_,rfl,k R (uI (hfix e) hw hd)⟩
  ·rw[decide_eq_false e]
   refine cw ⟨_,gT,_,rfl,?_⟩
   refine⟨_,rfl,a,rfl,⟨_,hS⟩,cz (aR (xs:=ps.map V.ref)) (fun i σ H2=>H2=H'/\∃(v3 v4:Option V),σ=[some (.int ((a8 (rs.take i) R:Nat):Int)),some (.ref a),some (.int (R:Nat)),v3,v4]) ?_ ?_ ?_ ?_⟩
   ·exact⟨rfl,v3,v4,rfl⟩
   ·rintro i σ H2 _ ⟨rfl,_⟩
    exact hS
   ·rintro i x σ H2 hi ex ⟨rfl,v3,v4,rfl⟩
    rw[List.length_map]at hi
    rw[List.getElem?_map]at ex
    obtain⟨p,ep,rfl⟩:=Option.map_eq_some_iff.mp ex
    have hir:i<rs.length:=by rw[<-hB.1];exact hi
    have er:rs[i]?=some rs[i]:=by simp[hir]
    have hp:=hB.2 i p _ ep er
    have tk:rs.take (i+1)=rs.take i++[rs[i]]:=by rw[List.take_succ,er];rfl
    have step:a8 (rs.take (i+1)) R=if Mo.within rs[i].1 (a8 (rs.take i) R)=true then Mo.with_ (a8 (rs.take i) R) rs[i].2 else a8 (rs.take i) R:=by
     rw[tk]
     unfold a8
     rw[List.foldl_append]
     rfl
    refine⟨p,_,rfl,SqT.of hp,rfl,_,_,rfl,_,_,rfl,rfl,?_⟩
    refine⟨_,rfl,_,rfl,_,_,rfl,rfl,_,rfl,rfl,_,rfl,?_⟩
    have ew:decide (V.int (Builtin.bitAnd ((rs[i].1:Nat):Int) ((a8 (rs.take i) R:Nat):Int))=V.int ((rs[i].1:Nat):Int))=Mo.within rs[i].1 (a8 (rs.take i) R):=by
     rw[cU]
     unfold Mo.within
     by_cases h:rs[i].1&&&a8 (rs.take i) R=rs[i].1
     ·rw[h];simp
     ·have h1:(rs[i].1&&&a8 (rs.take i) R==rs[i].1)=false:=beq_false_of_ne h
      rw[h1]
      exact decide_eq_false fun z=>h (by have:=V.int.inj z;omega)
    rw[show decide ((fun i j:Int=>V.int (Builtin.bitAnd i j)) ((rs[i].1:Nat):Int) ((a8 (rs.take i) R:Nat):Int)=V.int ((rs[i].1:Nat):Int))=_ from ew]
    cases hwi:Mo.within rs[i].1 (a8 (rs.take i) R) with
    |true=>
     rw[hwi,if_pos rfl]at step
     refine cw ⟨_,rfl,_,rfl,_,_,rfl,rfl,rfl,some (V.int ((rs[i].1:Nat):Int)),some (V.int ((2^rs[i].2:Nat):Int)),?_⟩
     rw[step]
     show [some (V.int (Builtin.bitOr ((a8 (rs.take i) R:Nat):Int) ((2^rs[i].2:Nat):Int))),_,_,_,_]=_
     rw[eO]
     rfl
    |false=>
     rw[hwi,if_neg (by decide)]at step
     refine bX ⟨rfl,some (V.int ((rs[i].1:Nat):Int)),some (V.int ((2^rs[i].2:Nat):Int)),?_⟩
     rw[step]
     rfl
   ·rintro σ H2 ⟨rfl,v3',v4',rfl⟩
    rw[List.length_map,hB.1,List.take_of_length_le (Nat.le_refl _)]
    refine⟨⟨rfl,a8 rs R,R,v3',v4',cg hw (dB rs R),iE rs R (fun _ h=>h) hd,(fun e2=>?_),.inr ⟨R,rfl,rfl⟩,rfl⟩,?_⟩
    ·have e2:R=a8 rs R:=by omega
     rw[<-e2]
     exact e2.symm
    ·show 2*fZ rs (((a8 rs R:Nat):Int)).toNat+(if ((R:Nat):Int)=((a8 rs R:Nat):Int) then 0 else 1)<2*fZ rs (((R:Nat):Int)).toNat+(if b=((R:Nat):Int) then 0 else 1)
     rw[if_neg e,Int.toNat_natCast,Int.toNat_natCast]
     by_cases e2:a8 rs R=R
     ·rw[e2,if_pos rfl]
      omega
     ·obtain⟨r,a1,a2,a3⟩:=km rs R e2
      have:=pV (dB rs R) a1 a2 a3
      split<;>omega
end
theorem jF {α:Type}(l:List α)(f:α->Bool):(l.map f).any id=l.any f:=by
 rw[List.any_map];rfl
theorem tY {α:Type}(l:List α)(f:α->Bool):(l.map f).all id=l.all f:=by
 rw[List.all_map];rfl
theorem jo {n i j:Nat}(h:(List.range n)[i]?=some j):j=i/\i<n:=by
 obtain⟨h1,h2⟩:=List.getElem?_eq_some_iff.mp h
 rw[List.getElem_range]at h2
 rw[List.length_range]at h1
 exact⟨h2.symm,h1⟩
section
variable {P:Program}{w:World}{K:PySem.W.Frag}{mg:Str->Option Value}{base:Heap}{A:Adr}
def yG:Sp:=fun vs H Q _=>∃R n:Nat,vs=[.int (R:Nat),.int (n:Nat)]/\n<=1000/\∀H',Same H H'->Q (.bl ((List.range n).any fun a=>decide ((R / 2^(2*a))&&&3=3))) H'
theorem k7 (T:Txt K mg A):Cal P w K mg base "opposites_meet" ["reached","atoms"] 1 yG:=by
 have nd:=sc_opposites_meet.nd
 refine T.d_opposites_meet.ok sc_opposites_meet (fun vs H Q E h=>?_) (fun f cdv A0 outer s H vs Q E hr h=>?_)
 ·obtain⟨R,n,rfl,_⟩:=h
  rfl
 ·obtain⟨R,n,rfl,hn,k⟩:=h
  refine⟨_,(aj (al (aI (l6 rfl) rfl T.b_any boot_any (ab (cq rfl nd (im rfl T.b_range (ab (pv 1) ah)) (aU (N:=["reached","atoms","atom"]) (sc:=ai de) (own:=[("atom",2)]) (by decide +kernel)) (fun _ _ _ _ _=>(aw (i:=2) nd rfl lc_)) (fun _ _ _ _ _=>bj) (fun _ _ _ _ _=>(fN cM (aO ge (aO ql (pv 0) (aO l7 au (pv 2))) au) au (aK _)))) ah)))),?_⟩
  have sl:2000<=sizeLine:=by decide
  refine⟨_,rfl,_,rfl,by omega,by omega,?_⟩
  rw[Int.toNat_natCast]
  refine fun L hL=>cy d3 (((List.range n).map fun a=>decide ((R / 2^(2*a))&&&3=3)).map V.bl) (by simp) (by omega) hL (fun _ _=>trivial) ?_ bB br ?_
  ·rintro i x y H2 rfl hy s2 R2 hR
   rw[List.getElem?_map,List.getElem?_map]at hy
   obtain⟨z,hz,rfl⟩:=Option.map_eq_some_iff.mp hy
   obtain⟨j,hj,rfl⟩:=Option.map_eq_some_iff.mp hz
   obtain⟨rfl,_⟩:=jo hj
   have e0:(0:Int)+(j:Nat)=((j:Nat):Int):=by omega
   rw[e0]
   refine⟨rfl,rfl,_,rfl,_,rfl,_,_,rfl,rfl,.inl ⟨by decide,by decide⟩,_,_,rfl,rfl,(by show (0:Int)<=2*(j:Nat);omega),_,_,rfl,rfl,rfl,?_⟩
   have e:decide (V.int (Builtin.bitAnd ((R:Int) / 2^((2:Int)*(j:Nat)).toNat) 3)=V.int 3)=decide ((R / 2^(2*j))&&&3=3):=by
    rw[show (2:Int)*(j:Nat)=((2*j:Nat):Int) by omega,nn,show (3:Int)=((3:Nat):Int) from rfl,cU]
    by_cases h:R / 2^(2*j)&&&3=3
    ·rw[h];simp
    ·rw[decide_eq_false h,decide_eq_false fun z=>h (by have:=V.int.inj z;omega)]
   have:=hR H2 (Same.refl _)
   rw[<-e]at this
   exact this
  ·intro H2 s2 h2
   refine⟨L,_,rfl,SqL.of h2,?_⟩
   rw[jF]
   exact k H2 s2
def uE (K:PySem.W.Frag):Sp:=fun vs H Q _=>∃(S:Nat)(a:Addr)(l:List Nat),vs=[.int (S:Nat),.ref a]/\SqL K H a (l.map fun x=>V.int (x:Nat))/\l.length<=2000/\H a=some (.lst (l.map fun x=>V.int (x:Nat)))/\∀H',Same H H'->Q (.bl (l.any fun A=>Mo.within A S)) H'
theorem nB (T:Txt K mg A):Cal P w K mg base "has_striker" ["rules","own_strikers"] 2 (uE K):=by
 have nd:=sc_has_striker.nd
 have C_is_within:=hV (P:=P) (w:=w) (base:=base) T
 refine T.d_has_striker.ok sc_has_striker (fun vs H Q E h=>?_) (fun f cdv A0 outer s H vs Q E hr h=>?_)
 ·obtain⟨S,a,l,rfl,_⟩:=h
  rfl
 ·obtain⟨S,a,l,rfl,hS,hl,ha,k⟩:=h
  refine⟨_,(aj (al (aI (l6 rfl) rfl T.b_any boot_any (ab (cq rfl nd (be (pv 1)) (aU (N:=["rules","own_strikers","one"]) (sc:=ai eC) (own:=[("one",2)]) (by decide +kernel)) (fun _ _ _ _ _=>(aw (i:=2) nd rfl lc_)) (fun _ _ _ _ _=>bj) (fun _ _ _ _ _=>(ao C_is_within (hr.mono (by decide)) rfl (ab (pv 2) (ab (pv 0) ah))))) ah)))),?_⟩
  have sl:2000<=sizeLine:=by decide
  refine⟨_,rfl,a,rfl,⟨_,hS⟩,fun L hL=>cy (aR (xs:=l.map fun x=>V.int (x:Nat))) ((l.map fun A=>Mo.within A S).map V.bl) (by simp) (by rw[List.length_map];omega) hL (fun H2 s2=>SqL.of (s2 _ _ ha)) ?_ bB br ?_⟩
  ·rintro i x y H2 e hy s2 R2 hR
   rw[List.getElem?_map]at e
   obtain⟨z,hz,rfl⟩:=Option.map_eq_some_iff.mp e
   rw[List.getElem?_map,List.getElem?_map,hz]at hy
   cases hy
   exact⟨rfl,rfl,_,rfl,_,rfl,z,S,rfl,hR H2 (Same.refl _)⟩
  ·intro H2 s2 h2
   refine⟨L,_,rfl,SqL.of h2,?_⟩
   rw[jF]
   exact k H2 s2
def vE (K:PySem.W.Frag):Sp:=fun vs H Q _=>∃(S:Nat)(a:Addr)(l:List Nat),vs=[.ref a,.int (S:Nat)]/\l.length<=2000/\H a=some (.lst (l.map fun x=>V.int (x:Nat)))/\∀H',Same H H'->Q (.bl (l.all fun A=>A&&&S != 0)) H'
theorem rJ (T:Txt K mg A):Cal P w K mg base "all_meet" ["own_strikers","struck"] 1 (vE K):=by
 have nd:=sc_all_meet.nd
 refine T.d_all_meet.ok sc_all_meet (fun vs H Q E h=>?_) (fun f cdv A0 outer s H vs Q E hr h=>?_)
 ·obtain⟨S,a,l,rfl,_⟩:=h
  rfl
 ·obtain⟨S,a,l,rfl,hl,ha,k⟩:=h
  refine⟨_,(aj (al (aI (mK rfl) rfl T.b_all boot_all (ab (cq rfl nd (be (pv 0)) (aU (N:=["own_strikers","struck","one"]) (sc:=ai gE) (own:=[("one",2)]) (by decide +kernel)) (fun _ _ _ _ _=>(aw (i:=2) nd rfl lc_)) (fun _ _ _ _ _=>bj) (fun _ _ _ _ _=>(fN eh (aO ge (pv 2) (pv 1)) au (aK _)))) ah)))),?_⟩
  have sl:2000<=sizeLine:=by decide
  refine⟨_,rfl,a,rfl,⟨_,SqL.of ha⟩,fun L hL=>cy (aR (xs:=l.map fun x=>V.int (x:Nat))) ((l.map fun A=>A&&&S != 0).map V.bl) (by simp) (by rw[List.length_map];omega) hL (fun H2 s2=>SqL.of (s2 _ _ ha)) ?_ bB br ?_⟩
  ·rintro i x y H2 e hy s2 R2 hR
   rw[List.getElem?_map]at e
   obtain⟨z,hz,rfl⟩:=Option.map_eq_some_iff.mp e
   rw[List.getElem?_map,List.getElem?_map,hz]at hy
   cases hy
   refine⟨rfl,rfl,_,rfl,_,rfl,_,_,rfl,rfl,rfl,?_⟩
   have e:(!decide (V.int (Builtin.bitAnd ((z:Nat):Int) (S:Int))=V.int 0))=(z&&&S != 0):=by
    rw[cU]
    by_cases h:z&&&S=0
    ·rw[h];simp
    ·rw[decide_eq_false fun z=>h (by have:=V.int.inj z;omega)]
     simp[h]
   have:=hR H2 (Same.refl _)
   rw[show ((fun A=>A&&&S != 0) z)=(z&&&S != 0) from rfl,<-e]at this
   exact this
  ·intro H2 s2 h2
   refine⟨L,_,rfl,SqL.of h2,?_⟩
   rw[tY]
   exact k H2 s2
end
def hE (c:Mo.Case):List V:=(List.range (2^c.rules.length)).map fun S=>V.int ((c.numbered.follows S:Nat):Int)
def lF (c:Mo.Case):List V:=(List.range (2^c.rules.length)).map fun S=>V.bl (c.numbered.clash S)
theorem gQ {n:Nat}(h:n<=10):2^n<=1024:=by
 have:=Nat.pow_le_pow_right (n:=2) (by decide) h
 exact this
theorem sH {c:Mo.Case}{S:Nat}(h:S<2^c.rules.length):(hE c)[S]?=some (V.int ((c.numbered.follows S:Nat):Int)):=by
 unfold hE
 rw[List.getElem?_map,List.getElem?_range h]
 rfl
theorem np {c:Mo.Case}{S:Nat}(h:S<2^c.rules.length):(lF c)[S]?=some (V.bl (c.numbered.clash S)):=by
 unfold lF
 rw[List.getElem?_map,List.getElem?_range h]
 rfl
theorem g5 (c:Mo.Case):(hE c).length=2^c.rules.length:=by unfold hE;simp
theorem jt (c:Mo.Case):(lF c).length=2^c.rules.length:=by unfold lF;simp
theorem j2 (p:Nat->Bool):∀(L f:List Nat),(L.foldl (bK p) f).length<=f.length+L.length
 |[],f=>Nat.le_refl _
 |a :: L,f=>by
  have h:=j2 p L (bK p f a)
  have h2:(bK p f a).length<=f.length+1:=by
   unfold bK
   split
   ·split
    ·omega
    ·simp
   ·omega
  show (L.foldl (bK p) (bK p f a)).length<=f.length+(L.length+1)
  omega
section
variable {P:Program}{w:World}{K:PySem.W.Frag}{mg:Str->Option Value}{base:Heap}{A:Adr}
def wk (A:Adr):Sp:=fun vs H Q _=>∃(p f:Addr)(c:Mo.Case),vs=[.ref p,.ref f]/\CaseAt A H p c/\H f=some (.lst (hE c))/\∀q H',Same H H'->H q=none->H' q=some (.lst (lF c))->Q (.ref q) H'
theorem nc (T:Txt K mg A):Cal P w K mg base "clash_table" ["case","following"] 2 (wk A):=by
 have nd:=sc_clash_table.nd
 have C_opposites_meet:=k7 (P:=P) (w:=w) (base:=base) T
 refine T.d_clash_table.ok sc_clash_table (fun vs H Q E h=>?_) (fun f cdv A0 outer s H vs Q E hr h=>?_)
 ·obtain⟨p,f,c,rfl,_⟩:=h
  rfl
 ·obtain⟨p,a,c,rfl,⟨dx,aL,lL,rL,nL,oL,lps,rps,D⟩,hf,k⟩:=h
  refine⟨_,(aj (al (cq rfl nd (be (pv 1)) (aU (N:=["case","following","reached"]) (sc:=ai ef) (own:=[("reached",2)]) (by decide +kernel)) (fun _ _ _ _ _=>(aw (i:=2) nd rfl lc_)) (fun _ _ _ _ _=>bj) (fun _ _ _ _ _=>(ao C_opposites_meet (hr.mono (by decide)) rfl (ab (pv 2) (ab (aI (qb K) rfl T.b_len PySem.boot_len (ab (aG K (pv 0)) ah)) ah))))))),?_⟩
  have sl:4000<=sizeLine:=by decide
  have hp:=gQ D.nu
  have ha:=D.nat
  refine⟨_,rfl,a,rfl,⟨_,SqL.of hf⟩,fun L hL=>cy (aR (xs:=hE c)) (lF c) (by rw[jt,g5]) (by rw[g5];omega) hL (fun H2 s2=>SqL.of (s2 _ _ hf)) ?_ bB br ?_⟩
  ·rintro i x y H2 e hy s2 R2 hR
   have hi:i<2^c.rules.length:=by
    have:=(List.getElem?_eq_some_iff.mp e).1
    rw[g5]at this
    exact this
   rw[sH hi]at e
   rw[np hi]at hy
   cases e
   cases hy
   have D2:=D.same s2
   refine⟨rfl,rfl,_,rfl,_,rfl,p,_,dx,_,_,rfl,D2.ob,T.cl_Case,T.n_Case_atoms,nN,aL,_,rfl,.inl (SqL.of D2.at_),c.numbered.follows i,c.atoms.length,?_,(by omega),fun H3 s3=>?_⟩
   ·rw[List.length_map];rfl
   ·rw[vS]
    exact hR H3 s3
  ·intro H2 s2 h2
   exact k L H2 s2 hL h2
def tU:Sp:=fun vs H Q _=>∃(i u:Nat)(a:Addr)(c:Mo.Case),vs=[.int (i:Nat),.int (u:Nat),.ref a]/\c.rules.length<=10/\i<c.rules.length/\H a=some (.lst (lF c))/\
 ∀q H',Same H H'->H q=none->H' q=some (.lst ((c0 c u i).map fun x=>V.int (x:Nat)))->Q (.ref q) H'
theorem ng (T:Txt K mg A):Cal P w K mg base "strikers_of" ["number","outweighed","clashing"] 2 tU:=by
 have nd:=sc_strikers_of.nd
 have C_is_within:=hV (P:=P) (w:=w) (base:=base) T
 refine T.d_strikers_of.ok sc_strikers_of (fun vs H Q E h=>?_) (fun f cdv A0 outer s H vs Q E hr h=>?_)
 ·obtain⟨i,u,a,c,rfl,_⟩:=h
  rfl
 ·obtain⟨n,u,a,c,rfl,hn,hi,ha,k⟩:=h
  refine⟨_,(ag (ap (i:=3) nd rfl lc_ (aO f7 au (pv 0))) (ag (ap (i:=4) nd rfl lc_ (cx ah)) (ag (bO PassesOwn.never rfl (im rfl T.b_range (ab (aI aP rfl T.b_len PySem.boot_len (ab (pv 2) ah)) ah)) (aw (i:=5) nd rfl lc_) (aj (aV (PW.pt (eY (aJ cM (aO ge (pv 5) (aO kX (pv 3) (pv 1))) au (aK _)) (eY (eV (bE (bH bf (pv 2) (pv 5) (fun _ _=>rfl)))) (eM (bE (bH bf (pv 2) (aO kX (pv 5) (pv 3)) (fun _ _=>rfl))))))) (aj (aV (eV (bE (aI (l6 rfl) rfl T.b_any boot_any (ab (cq rfl nd (be (pv 4)) (aU (N:=["number","outweighed","clashing","own","found","rules","least"]) (sc:=ai eA) (own:=[("least",6)]) (by decide +kernel)) (fun _ _ _ _ _=>(aw (i:=6) nd rfl lc_)) (fun _ _ _ _ _=>bj) (fun _ _ _ _ _=>(ao C_is_within (hr.mono (by decide)) rfl (ab (pv 6) (ab (pv 5) ah))))) ah)))) (aj (cN (eU PySem.F.plainAttrs_list PySem.F.slot_list_append PySem.F.type_list_append cR (pv 4) (ab (pv 5) ah)))) aF)) aF))) (aj (al (pv 4)))))),?_⟩
  have sl:4000<=sizeLine:=by decide
  have hp:=gQ hn
  refine⟨_,rfl,_,_,rfl,rfl,⟨by omega,by omega,by decide⟩,(by show 0<=sizeLine;omega),fun L hL=>?_⟩
  have s0:=ak (o:=.lst []) hL
  refine⟨_,rfl,a,_,rfl,.inl (SqL.of (s0 _ _ ha)),_,rfl,?_,?_,?_⟩
  ·rw[jt];generalize 2^c.rules.length=N at hp ⊢;omega
  ·rw[jt];generalize 2^c.rules.length=N at hp ⊢;omega
  rw[jt,Int.toNat_natCast]
  refine cz d3 (fun j σ H2=>Same H H2/\H2 L=some (.lst ((found (bR c u n) (List.range j)).map fun x=>V.int (x:Nat)))/\∃v5 v6,σ=[some (.int (n:Nat)),some (.int (u:Nat)),some (.ref a),some (.int ((2^n:Nat):Int)),some (.ref L),v5,v6]) ?_ ?_ ?_ ?_
  ·refine⟨s0,af,none,none,?_⟩
   show [some (V.int (n:Nat)),some (V.int (u:Nat)),some (V.ref a),some (V.int (1*2^((n:Int)).toNat)),some (V.ref L),none,none]=_
   rw[fC]
  ·rintro j σ H2 _ _
   trivial
  ·rintro j x σ H2 hj rfl ⟨s2,h2,v5,v6,rfl⟩
   have e0:(0:Int)+(j:Nat)=((j:Nat):Int):=by omega
   rw[e0]
   have hfl:(found (bR c u n) (List.range j)).length<=2000:=by
    have:=j2 (bR c u n) (List.range j) []
    rw[List.length_range]at this
    have:=(show (found (bR c u n) (List.range j)).length<=0+j from this)
    omega
   have hst:found (bR c u n) (List.range (j+1))=bK (bR c u n) (found (bR c u n) (List.range j)) j:=by
    unfold found
    rw[List.range_succ,List.foldl_append]
    rfl
   have hjo:j|||2^n<2^c.rules.length:=Nat.or_lt_two_pow hj (Nat.pow_lt_pow_right (by decide) hi)
   refine⟨_,rfl,_,rfl,_,rfl,_,_,rfl,rfl,_,_,rfl,rfl,rfl,?_⟩
   have e1:decide (V.int (Builtin.bitAnd ((j:Nat):Int) (Builtin.bitOr ((2^n:Nat):Int) ((u:Nat):Int)))=V.int 0)=(j&&&(2^n|||u)==0):=by
    rw[eO,cU]
    by_cases h:j&&&(2^n|||u)=0
    ·rw[h];simp
    ·rw[decide_eq_false fun z=>h (by have:=V.int.inj z;omega)]
     simp[h]
   refine⟨_,rfl,?_⟩
   rw[show decide ((fun i j:Int=>V.int (Builtin.bitAnd i j)) ((j:Nat):Int) (Builtin.bitOr ((2^n:Nat):Int) ((u:Nat):Int))=V.int 0)=_ from e1]
   have next:∀b,bR c u n j=b->(b=false∨(found (bR c u n) (List.range j)).any (fun x=>Mo.within x j)=true)->found (bR c u n) (List.range (j+1))=found (bR c u n) (List.range j):=by
    intro b hb h
    rw[hst]
    unfold bK
    rcases h with rfl|h
    ·rw[hb];rfl
    ·rw[h];split<;>rfl
   cases h1:(j&&&(2^n|||u)==0) with
   |false=>
    refine bX (bX ⟨s2,?_,_,v6,rfl⟩)
    rw[next false (by unfold bR;rw[h1];rfl) (.inl rfl)]
    exact h2
   |true=>
    refine cw ⟨_,rfl,_,rfl,a,_,_,_,rfl,rfl,SqL.of (s2 _ _ ha),bu (j:=j) (np hj),_,rfl,?_⟩
    cases h3:c.numbered.clash j with
    |true=>
     refine bX (bX ⟨s2,?_,_,v6,rfl⟩)
     rw[next false (by unfold bR;rw[h1,h3];rfl) (.inl rfl)]
     exact h2
    |false=>
     have e5:(fun i j:Int=>V.int (Builtin.bitOr i j)) ((j:Nat):Int) ((2^n:Nat):Int)=V.int ((j|||2^n:Nat):Int):=by
      show V.int (Builtin.bitOr _ _)=_
      rw[eO]
     refine cw ⟨_,rfl,_,rfl,_,rfl,_,_,rfl,rfl,a,_,_,_,rfl,e5,SqL.of (s2 _ _ ha),bu (j:=j|||2^n) (np hjo),_,rfl,?_⟩
     cases h4:c.numbered.clash (j|||2^n) with
     |false=>
      refine bX ⟨s2,?_,_,v6,rfl⟩
      rw[next false (by unfold bR;rw[h1,h3,h4];rfl) (.inl rfl)]
      exact h2
     |true=>
      have hcd:bR c u n j=true:=by unfold bR;rw[h1,h3,h4];rfl
      refine cw ⟨_,rfl,L,rfl,⟨_,SqL.of h2⟩,fun L2 hL2=>cy (aR (xs:=(found (bR c u n) (List.range j)).map fun x=>V.int (x:Nat))) (((found (bR c u n) (List.range j)).map fun A=>Mo.within A j).map V.bl) (by simp) (by rw[List.length_map];omega) hL2 (fun H3 s3=>SqL.of (s3 _ _ h2)) ?_ bB br ?_⟩
      ·rintro i x y H3 e hy s3 R2 hR
       rw[List.getElem?_map]at e
       obtain⟨z,hz,rfl⟩:=Option.map_eq_some_iff.mp e
       rw[List.getElem?_map,List.getElem?_map,hz]at hy
       cases hy
       exact⟨rfl,rfl,_,rfl,_,rfl,z,j,rfl,hR H3 (Same.refl _)⟩
      ·intro H3 s3 h3
       refine⟨L2,_,rfl,SqL.of h3,?_⟩
       rw[jF]
       refine⟨_,rfl,?_⟩
       cases h6:(found (bR c u n) (List.range j)).any (fun x=>Mo.within x j) with
       |true=>
        refine bX ⟨s2.trans s3,?_,_,v6,rfl⟩
        rw[next true hcd (.inr h6)]
        exact s3 _ _ h2
       |false=>
        have hL3:=s3 _ _ h2
        refine cw ⟨_,rfl,.inl ⟨rfl,_,SqL.of hL3⟩,_,rfl,L,_,_,rfl,rfl,hL3,(by rw[List.length_map];omega),?_⟩
        refine⟨aN (s2.trans s3) hL,?_,_,v6,rfl⟩
        rw[af,hst]
        unfold bK
        rw[hcd,h6,if_pos rfl,if_neg (by decide),List.map_append]
        rfl
  ·rintro σ H2 ⟨s2,h2,v5,v6,rfl⟩
   exact⟨_,rfl,k L H2 s2 hL h2⟩
end
def StrAt (H:Hp)(c:Mo.Case)(q:Addr):Prop:=∃ps:List Addr,H q=some (.lst (ps.map V.ref))/\ps.length=c.rules.length/\∀(i:Nat)(p:Addr),ps[i]?=some p->H p=some (.lst ((c0 c (c.under.getD i 0) i).map fun x=>V.int (x:Nat)))
theorem StrAt.same {H H':Hp}{c:Mo.Case}{q:Addr}(h:StrAt H c q)(s:Same H H'):StrAt H' c q:=by
 obtain⟨ps,h1,h2,h3⟩:=h
 exact⟨ps,s _ _ h1,h2,fun i p e=>s _ _ (h3 i p e)⟩
theorem yx {ys:List V}{n:Nat}(h:ys.length=n)(hr:∀(i:Nat) v,ys[i]?=some v->∃p,v=V.ref p):∃ps:List Addr,ys=ps.map V.ref:=by
 clear h
 induction ys with
 |nil=>exact⟨[],rfl⟩
 |cons a l ih=>
  obtain⟨p,rfl⟩:=hr 0 a rfl
  obtain⟨ps,rfl⟩:=ih fun i v e=>hr (i+1) v e
  exact⟨p :: ps,rfl⟩
theorem pS {c:Mo.Case}(h:c.rules.length<=10)(u i:Nat):(c0 c u i).length<=1024:=by
 have:=j2 (bR c u i) (List.range (2^c.rules.length)) []
 rw[List.length_range]at this
 have h2:=gQ h
 exact Nat.le_trans this (by simpa using h2)
section
variable {P:Program}{w:World}{K:PySem.W.Frag}{mg:Str->Option Value}{base:Heap}{A:Adr}
def wH (A:Adr):Sp:=fun vs H Q _=>∃(p f:Addr)(c:Mo.Case),vs=[.ref p,.ref f]/\CaseAt A H p c/\H f=some (.lst (hE c))/\∀q H',Same H H'->StrAt H' c q->Q (.ref q) H'
theorem l8 (T:Txt K mg A):Cal P w K mg base "all_strikers" ["case","following"] 3 (wH A):=by
 have nd:=sc_all_strikers.nd
 have C_clash_table:=nc (P:=P) (w:=w) (base:=base) T
 have C_strikers_of:=ng (P:=P) (w:=w) (base:=base) T
 refine T.d_all_strikers.ok sc_all_strikers (fun vs H Q E h=>?_) (fun f cdv A0 outer s H vs Q E hr h=>?_)
 ·obtain⟨p,f,c,rfl,_⟩:=h
  rfl
 ·obtain⟨p,a,c,rfl,DD,hf,k⟩:=h
  refine⟨_,(ag (ap (i:=2) nd rfl lc_ (ao C_clash_table (hr.mono (by decide)) rfl (ab (pv 0) (ab (pv 1) ah)))) (aj (al (cq rfl nd (eJ rfl T.b_enumerate (ab (aG K (pv 0)) ah)) (aU (N:=["case","following","clashing","number","outweighed"]) (sc:=ai dL) (own:=[("number",3),("outweighed",4)]) (by decide +kernel)) (fun _ _ _ _ _=>(k4 K (n:=2) rfl (bw (aw (i:=3) nd rfl lc_) (bw (aw (i:=4) nd rfl lc_) dO)))) (fun _ _ _ _ _=>bj) (fun _ _ _ _ _=>(ao C_strikers_of (hr.mono (by decide)) rfl (ab (pv 3) (ab (pv 4) (ab (pv 2) ah))))))))),?_⟩
  obtain⟨dx,aL,lL,rL,nL,oL,lps,rps,D⟩:=id DD
  have sl:4000<=sizeLine:=by decide
  have hn:=D.nu
  refine⟨_,rfl,_,rfl,p,a,c,rfl,DD,hf,fun cL H1 s1 hcL hcL1=>?_⟩
  have D1:=D.same s1
  have hul:(c.under.map fun x=>V.int (x:Nat)).length=c.rules.length:=by rw[List.length_map,vG]
  refine⟨_,rfl,p,_,dx,_,_,rfl,D1.ob,T.cl_Case,T.n_Case_outweighed,xh,oL,_,rfl,SqL.of D1.oa,fun L hL=>qF (xs:=c.under.map fun x=>V.int (x:Nat)) (by rw[hul];omega) hL (fun H2 s2=>SqL.of ((D1.same s2).oa))
   (fun i H2 v=>∃q,v=V.ref q/\q≠L/\H2 q=some (.lst ((c0 c (c.under.getD i 0) i).map fun x=>V.int (x:Nat)))) (fun i H2 H3 v s3 ⟨q,e,hne,h⟩=>⟨q,e,hne,s3 _ _ h⟩) (fun i H2 v xs ys hLx ⟨q,e,hne,h⟩=>⟨q,e,hne,by rw[ae hne];exact h⟩) (fun i x=>rfl) ?_ ?_⟩
  ·rintro i x H2 e s2 ⟨acc,hacc⟩ R hR
   have hi:i<c.rules.length:=by
    have:=(List.getElem?_eq_some_iff.mp e).1
    rw[hul]at this
    exact this
   rw[List.getElem?_map]at e
   obtain⟨u,eu,rfl⟩:=Option.map_eq_some_iff.mp e
   refine⟨_,rfl,_,rfl,_,rfl,i,u,cL,c,rfl,hn,hi,s2 _ _ hcL1,fun q H3 s3 hq hq3=>hR _ H3 s3 ⟨q,rfl,?_,?_⟩⟩
   ·intro e
    rw[e,hacc]at hq
    cases hq
   ·rw[show c.under.getD i 0=u by rw[List.getD_eq_getElem?_getD,eu];rfl]
    exact hq3
  ·intro H2 ys hys hL2 s2 hG
   obtain⟨ps,rfl⟩:=yx hys fun i v e=>by
    obtain⟨q,rfl,_⟩:=hG i v e
    exact⟨q,rfl⟩
   refine k L H2 (s1.trans s2) ⟨ps,hL2,by rw[<-hul,<-hys,List.length_map],fun i q e=>?_⟩
   obtain⟨q',e1,_,h⟩:=hG i (V.ref q) (by rw[List.getElem?_map,e];rfl)
   cases e1
   exact h
end
section
variable {P:Program}{w:World}{K:PySem.W.Frag}{mg:Str->Option Value}{base:Heap}{A:Adr}
def xc:Sp:=fun vs H Q _=>∃(S:Nat)(q:Addr)(c:Mo.Case),vs=[.int (S:Nat),.ref q]/\c.rules.length<=10/\StrAt H c q/\∀H',Same H H'->Q (.int ((bS c c.under S:Nat):Int)) H'
theorem pz (T:Txt K mg A):Cal P w K mg base "struck_by" ["rules","strikers"] 3 xc:=by
 have nd:=sc_struck_by.nd
 have C_has_striker:=nB (P:=P) (w:=w) (base:=base) T
 have C_set_of:=iA (P:=P) (w:=w) (base:=base) T
 refine T.d_struck_by.ok sc_struck_by (fun vs H Q E h=>?_) (fun f cdv A0 outer s H vs Q E hr h=>?_)
 ·obtain⟨S,q,c,rfl,_⟩:=h
  rfl
 ·obtain⟨S,q,c,rfl,hn,⟨ps,h1,h2,h3⟩,k⟩:=h
  refine⟨_,(aj (al (ao C_set_of (hr.mono (by decide)) rfl (ab (cq rfl nd (eJ rfl T.b_enumerate (ab (pv 1) ah)) (aU (N:=["rules","strikers","number","own"]) (sc:=ai fT) (own:=[("number",2),("own",3)]) (by decide +kernel)) (fun _ _ _ _ _=>(k4 K (n:=2) rfl (bw (aw (i:=2) nd rfl lc_) (bw (aw (i:=3) nd rfl lc_) dO)))) (fun _ _ _ _ _=>(i6 (bE (ao C_has_striker (hr.mono (by decide)) rfl (ab (pv 0) (ab (pv 3) ah)))))) (fun _ _ _ _ _=>(pv 2))) ah)))),?_⟩
  have sl:4000<=sizeLine:=by decide
  refine⟨_,rfl,q,_,rfl,SqL.of h1,fun L hL=>fJ (xs:=ps.map V.ref) ((List.range c.rules.length).map fun i=>if ((c0 c (c.under.getD i 0) i).any fun A=>Mo.within A S)=true then some (V.int (i:Nat)) else none) (by simp[h2]) (by rw[List.length_map];omega) hL (fun H2 s2=>SqL.of (s2 _ _ h1)) (fun i x=>rfl) ?_ ?_⟩
  ·rintro i x y H2 e hy s2 R R' hR hR'
   rw[List.getElem?_map]at e
   obtain⟨p,ep,rfl⟩:=Option.map_eq_some_iff.mp e
   rw[List.getElem?_map]at hy
   obtain⟨j,hj,rfl⟩:=Option.map_eq_some_iff.mp hy
   obtain⟨rfl,hjn⟩:=jo hj
   have hp:=s2 _ _ (h3 j p ep)
   have hlen:=pS hn (c.under.getD j 0) j
   refine⟨_,rfl,_,rfl,S,p,c0 c (c.under.getD j 0) j,rfl,SqL.of hp,(by omega),hp,fun H3 s3=>⟨_,rfl,?_⟩⟩
   by_cases h:((c0 c (c.under.getD j 0) j).any fun A=>Mo.within A S)=true
   ·rw[h]
    exact cw ⟨_,rfl,hR _ _ (by rw[if_pos h]) s3⟩
   ·have hf:((c0 c (c.under.getD j 0) j).any fun A=>Mo.within A S)=false:=by simpa using h
    rw[hf]
    exact bX (hR' _ (by rw[if_neg h]) s3)
  ·intro H2 s2 hL2
   rw[je c.rules.length fun i=>(c0 c (c.under.getD i 0) i).any fun A=>Mo.within A S]at hL2
   refine⟨L,_,rfl,SqL.of hL2,fun x hx=>?_,?_⟩
   ·have:=List.mem_range.mp (List.mem_filter.mp hx).1
    omega
   ·rw[lp]
    exact k H2 s2
def uz:Sp:=fun vs H Q _=>∃(S:Nat)(q:Addr)(c:Mo.Case),vs=[.int (S:Nat),.ref q]/\c.rules.length<=10/\StrAt H c q/\∀H',Same H H'->Q (.int ((bJ c c.under S:Nat):Int)) H'
theorem nA (T:Txt K mg A):Cal P w K mg base "defended_by" ["rules","strikers"] 4 uz:=by
 have nd:=sc_defended_by.nd
 have C_struck_by:=pz (P:=P) (w:=w) (base:=base) T
 have C_all_meet:=rJ (P:=P) (w:=w) (base:=base) T
 have C_set_of:=iA (P:=P) (w:=w) (base:=base) T
 refine T.d_defended_by.ok sc_defended_by (fun vs H Q E h=>?_) (fun f cdv A0 outer s H vs Q E hr h=>?_)
 ·obtain⟨S,q,c,rfl,_⟩:=h
  rfl
 ·obtain⟨S,q,c,rfl,hn,hS,k⟩:=h
  refine⟨_,(ag (ap (i:=2) nd rfl lc_ (ao C_struck_by (hr.mono (by decide)) rfl (ab (pv 0) (ab (pv 1) ah)))) (aj (al (ao C_set_of (hr.mono (by decide)) rfl (ab (cq rfl nd (eJ rfl T.b_enumerate (ab (pv 1) ah)) (aU (N:=["rules","strikers","struck","number","own"]) (sc:=ai eD) (own:=[("number",3),("own",4)]) (by decide +kernel)) (fun _ _ _ _ _=>(k4 K (n:=2) rfl (bw (aw (i:=3) nd rfl lc_) (bw (aw (i:=4) nd rfl lc_) dO)))) (fun _ _ _ _ _=>(i6 (bE (ao C_all_meet (hr.mono (by decide)) rfl (ab (pv 4) (ab (pv 2) ah)))))) (fun _ _ _ _ _=>(pv 3))) ah))))),?_⟩
  have sl:4000<=sizeLine:=by decide
  refine⟨_,rfl,_,rfl,S,q,c,rfl,hn,hS,fun H1 s1=>?_⟩
  obtain⟨ps,h1,h2,h3⟩:=hS.same s1
  refine⟨_,rfl,q,_,rfl,SqL.of h1,fun L hL=>fJ (xs:=ps.map V.ref) ((List.range c.rules.length).map fun i=>if ((c0 c (c.under.getD i 0) i).all fun A=>A&&&bS c c.under S != 0)=true then some (V.int (i:Nat)) else none) (by simp[h2]) (by rw[List.length_map];omega) hL (fun H2 s2=>SqL.of (s2 _ _ h1)) (fun i x=>rfl) ?_ ?_⟩
  ·rintro i x y H2 e hy s2 R R' hR hR'
   rw[List.getElem?_map]at e
   obtain⟨p,ep,rfl⟩:=Option.map_eq_some_iff.mp e
   rw[List.getElem?_map]at hy
   obtain⟨j,hj,rfl⟩:=Option.map_eq_some_iff.mp hy
   obtain⟨rfl,hjn⟩:=jo hj
   have hp:=s2 _ _ (h3 j p ep)
   have hlen:=pS hn (c.under.getD j 0) j
   refine⟨_,rfl,_,rfl,bS c c.under S,p,c0 c (c.under.getD j 0) j,rfl,(by omega),hp,fun H3 s3=>⟨_,rfl,?_⟩⟩
   by_cases h:((c0 c (c.under.getD j 0) j).all fun A=>A&&&bS c c.under S != 0)=true
   ·rw[h]
    exact cw ⟨_,rfl,hR _ _ (by rw[if_pos h]) s3⟩
   ·have hf:((c0 c (c.under.getD j 0) j).all fun A=>A&&&bS c c.under S != 0)=false:=by simpa using h
    rw[hf]
    exact bX (hR' _ (by rw[if_neg h]) s3)
  ·intro H2 s2 hL2
   rw[je c.rules.length fun i=>(c0 c (c.under.getD i 0) i).all fun A=>A&&&bS c c.under S != 0]at hL2
   refine⟨L,_,rfl,SqL.of hL2,fun x hx=>?_,?_⟩
   ·have:=List.mem_range.mp (List.mem_filter.mp hx).1
    omega
   ·rw[lp]
    exact k H2 (s1.trans s2)
end
theorem sF {c:Mo.Case}(h:c.atoms.length<=64){r:Mo.Row}(hr:r∈c.laws∨r∈c.rules):(∀x∈nums c r,x<=1000)/\c.lit c.atoms r.head<=1000:=by
 obtain⟨h1,h2⟩:=cB hr
 refine⟨fun x hx=>?_,?_⟩
 ·unfold nums at hx
  obtain⟨l,hl,rfl⟩:=List.mem_map.mp hx
  have:=f8 c (h1 l hl)
  omega
 ·have:=f8 c h2
  omega
theorem yo {c:Mo.Case}(h:c.atoms.length<=64){r:Mo.Row}(hr:r∈c.rules):c.lit c.atoms ⟨r.name,false⟩<=1000:=by
 have:=f8 c (l:=⟨r.name,false⟩) (iy hr)
 omega
theorem pM {c:Mo.Case}{S:Nat}(h0:S≠0)(h:S<2^c.rules.length):∃m r,members c S=m :: r:=by
 cases hm:members c S with
 |cons m r=>exact⟨m,r,rfl⟩
 |nil=>
  exfalso
  apply h0
  apply Nat.eq_of_testBit_eq
  intro i
  rw[Nat.zero_testBit]
  apply Bool.eq_false_iff.mpr
  intro hi
  by_cases hin:i<c.rules.length
  ·have:i∈members c S:=mem_members.mpr ⟨hin,hi⟩
   rw[hm]at this
   cases this
  ·have:=Nat.testBit_lt_two_pow (Nat.lt_of_lt_of_le h (Nat.pow_le_pow_right (by decide) (Nat.le_of_not_lt hin)))
   rw[this]at hi
   cases hi
section
variable {P:Program}{w:World}{K:PySem.W.Frag}{mg:Str->Option Value}{base:Heap}{A:Adr}
def rO (A:Adr):Sp:=fun vs H Q _=>∃(p:Addr)(c:Mo.Case),vs=[.ref p]/\CaseAt A H p c/\∀q H',Same H H'->H q=none->H' q=some (.lst (hE c))->Q (.ref q) H'
theorem qt (T:Txt K mg A):Cal P w K mg base "followers" ["case"] 3 (rO A):=by
 have nd:=sc_followers.nd
 have C_clause_bits:=nj (P:=P) (w:=w) (base:=base) T
 have C_gone_on:=tX (P:=P) (w:=w) (base:=base) T
 have C_members_of:=gu (P:=P) (w:=w) (base:=base) T
 refine T.d_followers.ok sc_followers (fun vs H Q E h=>?_) (fun f cdv A0 outer s H vs Q E hr h=>?_)
 ·obtain⟨p,c,rfl,_⟩:=h
  rfl
 ·obtain⟨p,c,rfl,DD,k⟩:=h
  refine⟨_,(ag (dF rfl nd (i:=1) rfl rfl (eK rfl rfl rfl rfl) (be (aG K (pv 0))) (aU (N:=["case","laws","law","heads","rule","table","rules","members","rest","given","number"]) (sc:=ai dn) (own:=[("law",2)]) (by decide +kernel)) (fun _ _ _ _ _=>(aw (i:=2) nd rfl lc_)) (fun _ _ _ _ _=>bj) (fun _ _ _ _ _=>(ao C_clause_bits (hr.mono (by decide)) rfl (ab (pv 2) ah)))) (ag (ap (i:=3) nd rfl lc_ (cq rfl nd (be (aG K (pv 0))) (aU (N:=["case","laws","law","heads","rule","table","rules","members","rest","given","number"]) (sc:=ai dn) (own:=[("rule",4)]) (by decide +kernel)) (fun _ _ _ _ _=>(aw (i:=4) nd rfl lc_)) (fun _ _ _ _ _=>bj) (fun _ _ _ _ _=>(ao C_clause_bits (hr.mono (by decide)) rfl (ab (pv 4) ah))))) (ag (ap (i:=5) nd rfl lc_ (cx (ab (ao C_gone_on (hr.mono (by decide)) rfl (ab au (ab (pv 1) ah))) ah))) (ag (bO PassesOwn.never rfl (u6 rfl T.b_range (ab au (ab (aO f7 au (aI aP rfl T.b_len PySem.boot_len (ab (aG K (pv 0)) ah))) ah))) (aw (i:=6) nd rfl lc_) (ag (ap (i:=7) nd rfl lc_ (ao C_members_of (hr.mono (by decide)) rfl (ab (pv 0) (ab (pv 6) ah)))) (ag (ap (i:=8) nd rfl lc_ (aO qX (pv 6) (aO f7 au (bH bf (pv 7) au (fun _ _=>rfl))))) (ag (ap (i:=9) nd rfl lc_ (aO kX (bH bf (pv 5) (pv 8) (fun _ _=>rfl)) (aO f7 au (bH bf (aG K (pv 0)) (bH bf (pv 7) au (fun _ _=>rfl)) (fun _ _=>rfl))))) (aj (cN (eU PySem.F.plainAttrs_list PySem.F.slot_list_append PySem.F.type_list_append cR (pv 5) (ab (ao C_gone_on (hr.mono (by decide)) rfl (ab (pv 9) (ab (aO eT (cq rfl nd (be (pv 7)) (aU (N:=["case","laws","law","heads","rule","table","rules","members","rest","given","number"]) (sc:=ai dn) (own:=[("number",10)]) (by decide +kernel)) (fun _ _ _ _ _=>(aw (i:=10) nd rfl lc_)) (fun _ _ _ _ _=>bj) (fun _ _ _ _ _=>(bH (pE K) (pv 3) (pv 10) (fun _ _=>rfl)))) (pv 1)) ah))) ah)))))))) (aj (al (pv 5))))))),?_⟩
  obtain⟨dx,aL,lL,rL,nL,oL,lps,rps,D⟩:=id DD
  have sl:4000<=sizeLine:=by decide
  have hn:=D.nu
  have hl:=D.nl
  have hat:=D.nat
  have hp:=gQ hn
  refine⟨_,rfl,p,_,dx,_,_,rfl,D.ob,T.cl_Case,T.n_Case_laws,qU,lL,rfl,⟨_,SqL.of D.la⟩,fun L1 hL1=>gW (aR (xs:=lps.map V.ref)) lps.length (by simp) (by rw[List.length_map,D.cl.1];omega) hL1 (fun H2 s2=>SqL.of ((D.same s2).la))
   (fun i H2 q=>∃r,c.laws[i]?=some r/\H2 q=some (.tup (uj (bg (nums c r),c.lit c.atoms r.head)))) (fun i H2 H3 q s3 ⟨r,hr,h⟩=>⟨r,hr,s3 _ _ h⟩) (fun i H2 q L xs ys hL ⟨r,hr,h⟩=>⟨r,hr,by rw[ae (fun e=>by rw[e,hL]at h;cases h)];exact h⟩) ?_ ?_⟩
  ·rintro i x H2 e s2 R hR
   rw[List.getElem?_map]at e
   obtain⟨q,eq,rfl⟩:=Option.map_eq_some_iff.mp e
   have hi:i<c.laws.length:=by
    have:=(List.getElem?_eq_some_iff.mp eq).1
    rw[D.cl.1]at this
    exact this
   have er:c.laws[i]?=some c.laws[i]:=by simp[hi]
   have hb:=sF hat (.inl (List.getElem_mem hi))
   exact⟨rfl,rfl,_,rfl,q,nums c c.laws[i],_,rfl,(D.same s2).cl.2 i q _ eq er,hb.1,hb.2,fun q2 H3 s3 hq2 hq3=>hR q2 H3 hq2 s3 ⟨_,er,hq3⟩⟩
  intro H1 ps1 hps1 hL11 s1 hG1
  have B1:BRows H1 ps1 (gq c):=by
   refine⟨by rw[hps1];unfold gq;rw[List.length_map,List.length_map,D.cl.1],fun i q r hq hr=>?_⟩
   obtain⟨r',h1,h2⟩:=hG1 i q hq
   unfold gq at hr
   rw[List.getElem?_map,h1]at hr
   cases hr
   exact h2
  have D1:=D.same s1
  refine⟨_,rfl,p,_,dx,_,_,rfl,D1.ob,T.cl_Case,T.n_Case_rules,gc,rL,rfl,⟨_,SqL.of D1.ra⟩,fun L2 hL2=>gW (aR (xs:=rps.map V.ref)) rps.length (by simp) (by rw[List.length_map,D.cr.1];omega) hL2 (fun H2 s2=>SqL.of ((D1.same s2).ra))
   (fun i H2 q=>i<c.rules.length/\H2 q=some (.tup (uj (fj c i)))) (fun i H2 H3 q s3 ⟨hr,h⟩=>⟨hr,s3 _ _ h⟩) (fun i H2 q L xs ys hL ⟨hr,h⟩=>⟨hr,by rw[ae (fun e=>by rw[e,hL]at h;cases h)];exact h⟩) ?_ ?_⟩
  ·rintro i x H2 e s2 R hR
   rw[List.getElem?_map]at e
   obtain⟨q,eq,rfl⟩:=Option.map_eq_some_iff.mp e
   have hi:i<c.rules.length:=by
    have:=(List.getElem?_eq_some_iff.mp eq).1
    rw[D.cr.1]at this
    exact this
   have er:c.rules[i]?=some c.rules[i]:=by simp[hi]
   have hb:=sF hat (.inr (List.getElem_mem hi))
   refine⟨rfl,rfl,_,rfl,q,nums c c.rules[i],_,rfl,(D1.same s2).cr.2 i q _ eq er,hb.1,hb.2,fun q2 H3 s3 hq2 hq3=>hR q2 H3 hq2 s3 ⟨hi,?_⟩⟩
   have e1:c.rules.getD i pF=c.rules[i]:=by simp[hi]
   unfold fj
   rw[e1]
   exact hq3
  intro H2 ps2 hps2 hL22 s2 hG2
  have B1':=B1.same s2
  have s02:=s1.trans s2
  refine⟨_,rfl,0,L1,ps1,gq c,rfl,SqL.of (s2 _ _ hL11),B1',fun R0 hR0=>?_⟩
  have hR0:=qD hR0
  subst hR0
  refine⟨(by show 1<=sizeLine;omega),fun tL htL=>?_⟩
  have s3:=ak (o:=.lst [V.int ((c.numbered.follows 0:Nat):Int)]) htL
  have D3:=D.same (s02.trans s3)
  have htL0:H tL=none:=s02.free htL
  have ej:(1:Int)*2^(((rps.map V.ref).length:Nat):Int).toNat=((2^c.rules.length:Nat):Int):=by rw[List.length_map,D.cr.1,fC]
  have h2n:1<=2^c.rules.length:=Nat.one_le_two_pow
  have ek:((1:Int)*2^(((rps.map V.ref).length:Nat):Int).toNat-1).toNat=2^c.rules.length-1:=by
   rw[ej]
   generalize 2^c.rules.length=N at hp h2n ⊢
   omega
  refine⟨_,rfl,p,_,dx,_,_,rfl,D3.ob,T.cl_Case,T.n_Case_rules,gc,rL,_,rfl,.inl (SqL.of D3.ra),_,_,rfl,rfl,(by rw[List.length_map,D.cr.1];exact⟨by omega,by omega,by decide⟩),1,_,rfl,⟨by decide,by decide,?_,?_⟩,?_⟩
  ·show -(2^62)<=(1:Int)*2^(((rps.map V.ref).length:Nat):Int).toNat
   rw[ej]
   generalize 2^c.rules.length=N at hp h2n ⊢
   omega
  ·show (1:Int)*2^(((rps.map V.ref).length:Nat):Int).toNat<2^62
   rw[ej]
   generalize 2^c.rules.length=N at hp h2n ⊢
   omega
  rw[ek]
  refine cz d3 (fun i σ H4=>Same H2 H4/\H4 tL=some (.lst ((List.range (1+i)).map fun S=>V.int ((c.numbered.follows S:Nat):Int)))/\∃v2 v4 v6 v7 v8 v9 v10,σ=[some (.ref p),some (.ref L1),v2,some (.ref L2),v4,some (.ref tL),v6,v7,v8,v9,v10]) ?_ ?_ ?_ ?_
  ·exact⟨s3,af,none,none,none,none,none,none,none,rfl⟩
  ·rintro i σ H4 _ _
   trivial
  ·rintro i x σ H4 hi rfl ⟨s4,h4,v2,v4,v6,v7,v8,v9,v10,rfl⟩
   have e0:(1:Int)+(i:Nat)=((1+i:Nat):Int):=by omega
   rw[e0]
   have hS:1+i<2^c.rules.length:=by omega
   obtain⟨m,r,hm⟩:=pM (S:=1+i) (by omega) hS
   have hmm:=mem_members.mp (show m∈members c (1+i) by rw[hm];exact List.mem_cons_self ..)
   have s04:=s02.trans s4
   refine⟨_,rfl,_,rfl,p,1+i,c,rfl,DD.same s04,fun mL H5 s5 hmL hmL5=>?_⟩
   have hm0:((members c (1+i)).map fun x=>V.int (x:Nat))[0]?=some (V.int (m:Nat)):=by rw[hm];rfl
   have D5:=D.same (s04.trans s5)
   refine⟨_,rfl,_,rfl,mL,_,_,_,rfl,rfl,SqL.of hmL5,bu (j:=0) hm0,_,_,rfl,rfl,⟨by omega,by omega,by decide⟩,_,_,rfl,rfl,?_⟩
   have er:((1+i:Nat):Int)-1*2^((m:Int)).toNat=((Mo.without (1+i) m:Nat):Int):=by
    rw[fC]
    unfold Mo.without
    rw[if_pos hmm.2]
    have:=Nat.ge_two_pow_of_testBit hmm.2
    omega
   have hrl:Mo.without (1+i) m<1+i:=eQ hmm.2
   have htr:((List.range (1+i)).map fun S=>V.int ((c.numbered.follows S:Nat):Int))[Mo.without (1+i) m]?=some (V.int ((c.numbered.follows (Mo.without (1+i) m):Nat):Int)):=by
    rw[List.getElem?_map,List.getElem?_range hrl]
    rfl
   have hnm:=yo hat (List.getElem_mem hmm.1)
   have ecr:c.rules.getD m pF=c.rules[m]:=by simp[hmm.1]
   have hna:(c.rules.map fun r=>V.int ((c.lit c.atoms ⟨r.name,false⟩:Nat):Int))[m]?=some (V.int ((c8 c m:Nat):Int)):=by
    unfold c8
    rw[ecr,List.getElem?_map,List.getElem?_eq_getElem hmm.1]
    rfl
   have hnl:c8 c m<=1000:=by unfold c8;rw[ecr];exact hnm
   refine⟨_,rfl,_,rfl,tL,_,_,_,rfl,congrArg V.int er,SqL.of (s5 _ _ h4),bu (j:=Mo.without (1+i) m) htr,_,rfl,p,_,dx,_,_,rfl,D5.ob,T.cl_Case,T.n_Case_names,oy,_,rfl,mL,_,_,_,rfl,rfl,SqL.of hmL5,bu (j:=0) hm0,nL,_,_,_,rfl,rfl,SqL.of D5.na,bu (j:=m) hna,_,_,rfl,rfl,⟨by omega,by omega,by decide⟩,_,_,rfl,rfl,?_⟩
   have eg:Builtin.bitOr ((c.numbered.follows (Mo.without (1+i) m):Nat):Int) (1*2^(((c8 c m:Nat):Int)).toNat)=((c.numbered.follows (Mo.without (1+i) m)|||2^c8 c m:Nat):Int):=by rw[fC,eO]
   have tL5:=s5 _ _ h4
   have L25:=s5 _ _ (s4 _ _ hL22)
   have L15:=s5 _ _ ((s2.trans s4) _ _ hL11)
   have mlen:(members c (1+i)).length<=10:=by
    unfold members Mo.membersOf
    have:=List.length_filter_le (Mo.held (1+i)) (List.range c.rules.length)
    rw[List.length_range]at this
    omega
   have hps2':ps2.length=c.rules.length:=by rw[hps2,List.length_map,D.cr.1]
   have hps1':ps1.length=c.laws.length:=by rw[hps1,List.length_map,D.cl.1]
   have hat2:∀n,n<c.rules.length->ps2[n]?=some (ps2.getD n 0):=fun n hn=>by
    rw[List.getD_eq_getElem?_getD,List.getElem?_eq_getElem (by omega)]
    rfl
   refine⟨_,rfl,.inl ⟨rfl,_,SqL.of tL5⟩,_,rfl,_,rfl,mL,rfl,⟨_,SqL.of hmL5⟩,fun L3 hL3=>cy (aR (xs:=(members c (1+i)).map fun x=>V.int (x:Nat))) (((members c (1+i)).map fun n=>ps2.getD n 0).map V.ref) (by simp) (by rw[List.length_map];omega) hL3 (fun H6 s6=>SqL.of (s6 _ _ hmL5)) ?_ bB br ?_⟩
   ·rintro j x y H6 e hy s6 R hR
    rw[List.getElem?_map]at e
    obtain⟨n,en,rfl⟩:=Option.map_eq_some_iff.mp e
    rw[List.getElem?_map,List.getElem?_map,en]at hy
    cases hy
    have hnn:=(mem_members.mp (List.mem_of_getElem? en)).1
    have hps:(ps2.map V.ref)[n]?=some (V.ref (ps2.getD n 0)):=by
     rw[List.getElem?_map,hat2 n hnn]
     rfl
    exact⟨rfl,rfl,_,rfl,_,rfl,L2,_,_,_,rfl,rfl,SqL.of (s6 _ _ L25),bu (j:=n) hps,hR H6 (Same.refl _)⟩
   ·intro H6 s6 hL36
    refine⟨_,rfl,L3,L1,_,_,rfl,rfl,hL36,s6 _ _ L15,(by simp only[List.length_map];omega),fun q hq=>?_⟩
    rw[<-List.map_append]
    have s7:=ak (o:=.lst (((members c (1+i)).map (fun n=>ps2.getD n 0)++ps1).map V.ref)) hq
    have s27:=((s4.trans s5).trans s6).trans s7
    refine⟨c.numbered.follows (Mo.without (1+i) m)|||2^c8 c m,q,(members c (1+i)).map (fun n=>ps2.getD n 0)++ps1,(members c (1+i)).map (fj c)++gq c,?_,SqL.of af,?_,fun R hR=>?_⟩
    ·rw[<-eg]
     rfl
    ·refine BRows.app ⟨by simp,fun j a b ha hb=>?_⟩ (B1'.same s27)
     rw[List.getElem?_map]at ha hb
     obtain⟨n,en,rfl⟩:=Option.map_eq_some_iff.mp ha
     rw[en]at hb
     cases hb
     have hnn:=(mem_members.mp (List.mem_of_getElem? en)).1
     exact s27 _ _ (hG2 n _ (hat2 n hnn)).2
    ·have hR:=pQ hm hR
     subst hR
     have tL7:=s7 _ _ (s6 _ _ tL5)
     refine⟨tL,_,_,rfl,rfl,tL7,(by rw[List.length_map,List.length_range];omega),?_⟩
     refine⟨aN s27 htL,?_,v2,v4,_,_,_,_,_,rfl⟩
     rw[af,show 1+(i+1)=(1+i)+1 by omega,List.range_succ,List.map_append]
     rfl
  ·rintro σ H4 ⟨s4,h4,v2,v4,v6,v7,v8,v9,v10,rfl⟩
   refine⟨_,rfl,k tL H4 (s02.trans s4) htL0 ?_⟩
   rw[h4,show 1+(2^c.rules.length-1)=2^c.rules.length by omega]
   rfl
end
section
variable {P:Program}{w:World}{K:PySem.W.Frag}{mg:Str->Option Value}{base:Heap}{A:Adr}
theorem m7 (T:Txt K mg A):Cal P w K mg base "has_literal" ["reached","literal"] 1 oQ:=by
 have nd:=sc_has_literal.nd
 refine T.d_has_literal.ok sc_has_literal (fun vs H Q E h=>?_) (fun f cdv A0 outer s H vs Q E hr h=>?_)
 ·obtain⟨S,n,rfl,_⟩:=h
  rfl
 ·obtain⟨S,n,rfl,k⟩:=h
  refine⟨_,(aj (al (fN cM (aO ge (aO ql (pv 0) (pv 1)) au) au (aK _)))),?_⟩
  refine⟨_,rfl,_,rfl,_,_,rfl,rfl,(by omega),_,_,rfl,rfl,rfl,?_⟩
  have e:decide (V.int (Builtin.bitAnd ((S:Int) / 2^((n:Int)).toNat) 1)=V.int 1)=Mo.held S n:=by
   rw[nn,show (1:Int)=((1:Nat):Int) from rfl,cU,pT]
   cases Mo.held S n with
   |true=>exact decide_eq_true rfl
   |false=>exact decide_eq_false fun z=>by have:=V.int.inj z;simp at this
  rw[e]
  exact k
end
theorem xO {n j:Nat}(h:j<n):ixN n (j:Int)=some j:=by
 unfold ixN
 rw[if_pos (by omega),if_pos (by omega),Int.toNat_natCast]
theorem wV (n:Nat):(List.replicate n [V.int 0]).flatten=(List.replicate n 0).map fun x:Nat=>V.int (x:Nat):=by
 induction n with
 |zero=>rfl
 |succ n ih=>rw[List.replicate_succ,List.flatten_cons,ih,List.replicate_succ,List.map_cons];rfl
theorem wv (rs:List Nat)(j v:Nat):(rs.map fun x=>V.int (x:Nat)).set j (V.int (v:Nat))=(rs.set j v).map fun x=>V.int (x:Nat):=by
 rw[List.map_set]
section
variable {P:Program}{w:World}{K:PySem.W.Frag}{mg:Str->Option Value}{base:Heap}{A:Adr}
def yr:Sp:=fun vs H Q _=>∃(S:Nat)(q:Addr)(c:Mo.Case),vs=[.int (S:Nat),.ref q]/\c.rules.length<=10/\StrAt H c q/\∀(rs:List Nat),rs.length=c.rules.length->(∀i k,rs[i]?=some k->rankIs c c.under S i k)->∀r H',Same H H'->H r=none->H' r=some (.lst (rs.map fun x=>V.int (x:Nat)))->Q (.ref r) H'
theorem iW (T:Txt K mg A):Cal P w K mg base "least_ranks" ["rules","strikers"] 5 yr:=by
 have nd:=sc_least_ranks.nd
 have C_defended_by:=nA (P:=P) (w:=w) (base:=base) T
 have C_has_rule:=lv (P:=P) (w:=w) (base:=base) T
 refine T.d_least_ranks.ok sc_least_ranks (fun vs H Q E h=>?_) (fun f cdv A0 outer s H vs Q E hr h=>?_)
 ·obtain⟨S,q,c,rfl,_⟩:=h
  rfl
 ·obtain⟨S,q,c,rfl,hn,hS,k⟩:=h
  refine⟨_,(ag (ap (i:=2) nd rfl lc_ (aO zf (cx (ab au ah)) (aI aP rfl T.b_len PySem.boot_len (ab (pv 1) ah)))) (ag (ap (i:=3) nd rfl lc_ au) (ag (ap (i:=4) nd rfl lc_ (gD eW au)) (ag (ap (i:=5) nd rfl lc_ au) (ag (fE PassesOwn.never (aJ eh (pv 5) (pv 4) (aK _)) (ag (ap (i:=4) nd rfl lc_ (pv 5)) (ag (ap (i:=3) nd rfl lc_ (aO iR (pv 3) au)) (ag (ap (i:=5) nd rfl lc_ (aO ge (pv 0) (ao C_defended_by (hr.mono (by decide)) rfl (ab (pv 4) (ab (pv 1) ah))))) (aj (bO PassesOwn.never rfl (im rfl T.b_range (ab (aI aP rfl T.b_len PySem.boot_len (ab (pv 2) ah)) ah)) (aw (i:=6) nd rfl lc_) (aj (aV (PW.pt (eY (aJ cM (bH bf (pv 2) (pv 6) (fun _ _=>rfl)) au (aK _)) (eM (bE (ao C_has_rule (hr.mono (by decide)) rfl (ab (pv 5) (ab (pv 6) ah))))))) (aj (yU (pv 3) (yE (pv 2) (pv 6) wq))) aF)))))))) (aj (al (pv 2)))))))),?_⟩
  have sl:4000<=sizeLine:=by decide
  obtain⟨ps,h1,h2,h3⟩:=id hS
  refine⟨(by show 1<=sizeLine;omega),fun L0 hL0=>?_⟩
  have s0:=ak (o:=.lst [.int 0]) hL0
  refine⟨_,rfl,q,_,rfl,.inl (SqL.of (s0 _ _ h1)),L0,_,_,rfl,rfl,af,?_,?_,?_,fun rA hA=>?_⟩
  ·omega
  ·rw[List.length_map,h2];omega
  ·rw[List.length_map,h2,Int.toNat_natCast];show 1*_<=sizeLine;omega
  have hA0:H rA=none:=s0.free hA
  have s1:=s0.trans (ak (o:=.lst (List.replicate (((ps.map V.ref).length:Nat):Int).toNat [V.int 0]).flatten) hA)
  refine⟨_,rfl,?_⟩
  refine gN (fun σ H'=>Same H H'/\∃(n:Nat)(rs:List Nat)(b:Int)(v6:Option V),H' rA=some (.lst (rs.map fun x=>V.int (x:Nat)))/\rs.length=c.rules.length/\(∀i v,rs[i]?=some v->e6 c c.under S n i v)/\((b=-1/\n=0)∨∃j,n=j+1/\b=((aB c c.under S j:Nat):Int))/\σ=[some (.int (S:Nat)),some (.ref q),some (.ref rA),some (.int (n:Nat)),some (.int b),some (.int ((aB c c.under S n:Nat):Int)),v6])
   (fun σ _=>match σ with|[_,_,_,_,some (.int b),some (.int R),_]=>2*cV c.rules.length R.toNat+(if b=R then 0 else 1)|_=>0) ⟨s1,0,List.replicate c.rules.length 0,-1,none,?_,by simp,?_,.inl ⟨rfl,rfl⟩,rfl⟩ ?_
  ·rw[af,<-wV,List.length_map,h2,Int.toNat_natCast]
  ·intro i v hv
   have:=List.mem_of_getElem? hv
   have:=List.eq_of_mem_replicate this
   subst this
   exact rW
  rintro σ H2 ⟨s2,n,rs,b,v6,hr2,hl,hrk,hb,rfl⟩
  refine⟨_,rfl,_,rfl,rfl,_,rfl,?_⟩
  have ed:(!decide (V.int ((aB c c.under S n:Nat):Int)=V.int b))=!decide (b=((aB c c.under S n:Nat):Int)):=by
   congr 1
   by_cases e:b=((aB c c.under S n:Nat):Int)
   ·rw[e];simp
   ·rw[decide_eq_false e,decide_eq_false fun z=>e (V.int.inj z).symm]
  rw[ed]
  by_cases e:b=((aB c c.under S n:Nat):Int)
  ·rw[decide_eq_true e]
   refine bX ⟨_,rfl,k rs hl (fun i v hv=>?_) rA H2 s2 hA0 hr2⟩
   rcases hb with ⟨z,_⟩|⟨j,rfl,z⟩
   ·omega
   ·exact uR (hrk i v hv) (by omega)
  ·rw[decide_eq_false e]
   refine cw ⟨_,gT,_,rfl,_,rfl,_,_,rfl,rfl,_,rfl,_,rfl,_,rfl,aB c c.under S n,q,c,rfl,hn,hS.same s2,fun H3 s3=>?_⟩
   refine⟨_,_,rfl,rfl,?_⟩
   have hr3:=s3 _ _ hr2
   have s03:=s2.trans s3
   have eg:(fun i j:Int=>V.int (Builtin.bitAnd i j)) (S:Int) ((bJ c c.under (aB c c.under S n):Nat):Int)=V.int ((aB c c.under S (n+1):Nat):Int):=by
    show V.int (Builtin.bitAnd (S:Int) ((bJ c c.under (aB c c.under S n):Nat):Int))=_
    rw[cU,Nat.and_comm]
    rfl
   rw[eg]
   refine⟨_,rfl,rA,_,rfl,.inl (SqL.of hr3),_,rfl,?_,?_,?_⟩
   ·rw[List.length_map,hl];omega
   ·rw[List.length_map,hl];omega
   rw[List.length_map,hl,Int.toNat_natCast]
   refine cz d3 (fun i σ H4=>Same H H4/\∃(rs':List Nat)(v6:Option V),H4 rA=some (.lst (rs'.map fun x=>V.int (x:Nat)))/\rs'.length=c.rules.length/\(∀m v,rs'[m]?=some v->e6 c c.under S (if m<i then n+1 else n) m v)/\σ=[some (.int (S:Nat)),some (.ref q),some (.ref rA),some (.int ((n:Int)+1)),some (.int ((aB c c.under S n:Nat):Int)),some (.int ((aB c c.under S (n+1):Nat):Int)),v6]) ?_ ?_ ?_ ?_
   ·exact⟨s03,rs,v6,hr3,hl,fun m v hv=>by rw[if_neg (Nat.not_lt_zero m)];exact hrk m v hv,rfl⟩
   ·rintro i σ H4 _ _
    trivial
   ·rintro i x σ H4 hi rfl ⟨s4,rs',v6',h4,hl4,hk4,rfl⟩
    have e0:(0:Int)+(i:Nat)=((i:Nat):Int):=by omega
    rw[e0]
    have hi':i<rs'.length:=by omega
    have er:rs'[i]?=some rs'[i]:=by simp[hi']
    have ev:(rs'.map fun x=>V.int (x:Nat))[i]?=some (V.int ((rs'[i]:Nat):Int)):=by rw[List.getElem?_map,er];rfl
    have ki:=hk4 i _ er
    rw[if_neg (Nat.lt_irrefl i)]at ki
    have keep:¬(rs'[i]=0/\Mo.held (aB c c.under S (n+1)) i=true)->∀m v,rs'[m]?=some v->e6 c c.under S (if m<i+1 then n+1 else n) m v:=fun hno m v hv=>by
     by_cases em:m=i
     ·subst em
      rw[er]at hv
      cases hv
      rw[if_pos (Nat.lt_succ_self m)]
      exact rn ki hno
     ·have:=hk4 m v hv
      by_cases lt:m<i
      ·rw[if_pos lt]at this;rw[if_pos (by omega)];exact this
      ·rw[if_neg lt]at this;rw[if_neg (by omega)];exact this
    refine⟨_,rfl,_,rfl,rA,_,_,_,rfl,rfl,SqL.of h4,bu (j:=i) ev,rfl,_,rfl,?_⟩
    have ez:decide (V.int ((rs'[i]:Nat):Int)=V.int 0)=decide (rs'[i]=0):=by
     by_cases z:rs'[i]=0
     ·rw[z];rfl
     ·rw[decide_eq_false z,decide_eq_false fun y=>z (by have:=V.int.inj y;omega)]
    rw[ez]
    refine aW (fun hz=>?_) (fun hz=>?_)
    ·have hz:=of_decide_eq_true hz
     refine⟨_,rfl,_,rfl,aB c c.under S (n+1),i,rfl,_,rfl,?_⟩
     refine aW (fun hh=>?_) (fun hh=>?_)
     ·refine⟨_,rfl,_,rfl,_,rfl,rA,_,_,i,rfl,rfl,h4,xO (by rw[List.length_map];exact hi'),?_⟩
      refine⟨aN s4 hA0,rs'.set i (n+1),_,?_,?_,?_,rfl⟩
      ·rw[af,show ((n:Int)+1)=((n+1:Nat):Int) by omega,wv]
      ·rw[List.length_set];exact hl4
      ·intro m v hv
       by_cases em:m=i
       ·subst em
        rw[List.getElem?_set_self hi']at hv
        cases hv
        rw[if_pos (Nat.lt_succ_self m)]
        exact ue ki hz hh
       ·rw[List.getElem?_set_ne (fun z=>em z.symm)]at hv
        have:=hk4 m v hv
        by_cases lt:m<i
        ·rw[if_pos lt]at this;rw[if_pos (by omega)];exact this
        ·rw[if_neg lt]at this;rw[if_neg (by omega)];exact this
     ·exact⟨s4,rs',_,h4,hl4,keep fun z=>hh z.2,rfl⟩
    ·exact bX ⟨s4,rs',_,h4,hl4,keep fun z=>hz (decide_eq_true z.1),rfl⟩
   ·rintro σ H4 ⟨s4,rs',v6',h4,hl4,hk4,rfl⟩
    refine⟨⟨s4,n+1,rs',_,v6',h4,hl4,fun i v hv=>?_,.inr ⟨n,rfl,rfl⟩,rfl⟩,?_⟩
    ·have hi:i<rs'.length:=(List.getElem?_eq_some_iff.mp hv).1
     have:=hk4 i v hv
     rw[if_pos (by omega)]at this
     exact this
    ·show 2*cV c.rules.length (((aB c c.under S (n+1):Nat):Int)).toNat+(if ((aB c c.under S n:Nat):Int)=((aB c c.under S (n+1):Nat):Int) then 0 else 1)<2*cV c.rules.length (((aB c c.under S n:Nat):Int)).toNat+(if b=((aB c c.under S n:Nat):Int) then 0 else 1)
     rw[if_neg e,Int.toNat_natCast,Int.toNat_natCast]
     by_cases e2:aB c c.under S (n+1)=aB c c.under S n
     ·rw[e2,if_pos rfl]
      omega
     ·have:=p8 e2
      split<;>omega
end
section
variable {P:Program}{w:World}{K:PySem.W.Frag}{mg:Str->Option Value}{base:Heap}{A:Adr}
def tq (K:PySem.W.Frag):Sp:=fun vs H Q _=>∃(a:Addr)(rs:List Nat),vs=[.ref a]/\H a=some (.lst (rs.map fun x=>V.int (x:Nat)))/\rs.length<=10/\∀H',Same H H'->Q (.int ((bg ((List.range rs.length).filter fun i=>decide (0<rs.getD i 0)):Nat):Int)) H'
theorem f9 (T:Txt K mg A):Cal P w K mg base "rules_with_rank" ["ranks"] 2 (tq K):=by
 have nd:=sc_rules_with_rank.nd
 have C_set_of:=iA (P:=P) (w:=w) (base:=base) T
 refine T.d_rules_with_rank.ok sc_rules_with_rank (fun vs H Q E h=>?_) (fun f cdv A0 outer s H vs Q E hr h=>?_)
 ·obtain⟨a,rs,rfl,_⟩:=h
  rfl
 ·obtain⟨a,rs,rfl,h1,hn,k⟩:=h
  refine⟨_,(aj (al (ao C_set_of (hr.mono (by decide)) rfl (ab (cq rfl nd (eJ rfl T.b_enumerate (ab (pv 0) ah)) (aU (N:=["ranks","number","rank"]) (sc:=ai cW) (own:=[("number",1),("rank",2)]) (by decide +kernel)) (fun _ _ _ _ _=>(k4 K (n:=2) rfl (bw (aw (i:=1) nd rfl lc_) (bw (aw (i:=2) nd rfl lc_) dO)))) (fun _ _ _ _ _=>(i6 (aJ jB (pv 2) au (aK _)))) (fun _ _ _ _ _=>(pv 1))) ah)))),?_⟩
  have sl:4000<=sizeLine:=by decide
  refine⟨_,rfl,a,_,rfl,SqL.of h1,fun L hL=>fJ (xs:=rs.map fun x=>V.int (x:Nat)) ((List.range rs.length).map fun i=>if decide (0<rs.getD i 0)=true then some (V.int (i:Nat)) else none) (by simp) (by rw[List.length_map];omega) hL (fun H2 s2=>SqL.of (s2 _ _ h1)) (fun i x=>rfl) ?_ ?_⟩
  ·rintro i x y H2 e hy s2 R R' hR hR'
   rw[List.getElem?_map]at e
   obtain⟨v,ev,rfl⟩:=Option.map_eq_some_iff.mp e
   rw[List.getElem?_map]at hy
   obtain⟨j,hj,rfl⟩:=Option.map_eq_some_iff.mp hy
   obtain⟨rfl,hjn⟩:=jo hj
   have ed:rs.getD j 0=v:=by rw[List.getD_eq_getElem?_getD,ev];rfl
   rw[ed]at hR hR'
   refine⟨_,rfl,_,_,rfl,rfl,_,rfl,?_⟩
   by_cases h:0<v
   ·rw[decide_eq_true (show (0:Int)<(v:Nat) by omega)]
    exact cw ⟨_,rfl,hR _ _ (by rw[if_pos (decide_eq_true h)]) (Same.refl _)⟩
   ·rw[decide_eq_false (show ¬(0:Int)<(v:Nat) by omega)]
    exact bX (hR' _ (by rw[if_neg (by rw[decide_eq_true_eq];exact h)]) (Same.refl _))
  ·intro H2 s2 hL2
   rw[je rs.length fun i=>decide (0<rs.getD i 0)]at hL2
   refine⟨L,_,rfl,SqL.of hL2,fun x hx=>?_,?_⟩
   ·have:=List.mem_range.mp (List.mem_filter.mp hx).1
    omega
   ·exact k H2 s2
def vZ:Sp:=fun vs H Q _=>∃(q:Addr)(c:Mo.Case),vs=[.ref q]/\c.rules.length<=10/\StrAt H c q/\∀H',Same H H'->Q (.int ((c.seen.ground:Nat):Int)) H'
theorem qc (T:Txt K mg A):Cal P w K mg base "ground_of" ["strikers"] 6 vZ:=by
 have nd:=sc_ground_of.nd
 have C_least_ranks:=iW (P:=P) (w:=w) (base:=base) T
 have C_rules_with_rank:=f9 (P:=P) (w:=w) (base:=base) T
 refine T.d_ground_of.ok sc_ground_of (fun vs H Q E h=>?_) (fun f cdv A0 outer s H vs Q E hr h=>?_)
 ·obtain⟨q,c,rfl,_⟩:=h
  rfl
 ·obtain⟨q,c,rfl,hn,hS,k⟩:=h
  refine⟨_,(ag (ap (i:=1) nd rfl lc_ (aO qX (aO f7 au (aI aP rfl T.b_len PySem.boot_len (ab (pv 0) ah))) au)) (aj (al (ao C_rules_with_rank (hr.mono (by decide)) rfl (ab (ao C_least_ranks (hr.mono (by decide)) rfl (ab (pv 1) (ab (pv 0) ah))) ah))))),?_⟩
  have sl:4000<=sizeLine:=by decide
  obtain⟨ps,h1,h2,h3⟩:=id hS
  have eg:c.seen.ground=cE c c.under (2^c.rules.length-1):=gi c c.under
  rw[eg]at k
  refine⟨_,rfl,q,_,rfl,.inl (SqL.of h1),_,_,rfl,rfl,⟨by omega,(by rw[List.length_map,h2];omega),by decide⟩,_,_,rfl,rfl,?_⟩
  have ev:(fun i j:Int=>V.int (i-j)) (1*2^((((ps.map V.ref).length:Nat):Int)).toNat) 1=V.int ((2^c.rules.length-1:Nat):Int):=by
   show V.int (1*2^((((ps.map V.ref).length:Nat):Int)).toNat-1)=_
   rw[fC,List.length_map,h2]
   have:=Nat.two_pow_pos c.rules.length
   congr 1
   omega
  rw[ev]
  refine⟨_,rfl,_,rfl,2^c.rules.length-1,q,c,rfl,hn,hS,fun rs hl hrk r H1 s1 hr0 hr1=>?_⟩
  refine⟨r,rs,rfl,hr1,(by omega),fun H2 s2=>?_⟩
  rw[l5 hl hrk]
  exact k H2 (s1.trans s2)
end
theorem qE {α:Type}(q:α->Bool)(g:α->V):∀(L:List α)(z:α),L.find? q=some z->∃r,(L.map fun z=>if q z=true then some (g z) else none).filterMap id=g z :: r
 |[],z,h=>by cases h
 |a :: L,z,h=>by
  rw[List.find?_cons]at h
  cases ha:q a with
  |true=>
   rw[ha]at h
   cases h
   exact⟨_,by rw[List.map_cons,if_pos ha];rfl⟩
  |false=>
   rw[ha]at h
   obtain⟨r,e⟩:=qE q g L z h
   refine⟨r,?_⟩
   rw[List.map_cons,if_neg (by rw[ha];decide)]
   exact e
theorem r4 {α:Type}(l:List α)(f:α->Bool):(l.map f).all id=l.all f:=by
 rw[List.all_map]
 rfl
theorem qZ {α β:Type}(q:β->Bool):∀(L:List α)(M:List β)(s:β),L.length=M.length->M.find? q=some s->∃(p:α)(i:Nat),(L.zip M).find? (fun z=>q z.2)=some (p,s)/\L[i]?=some p/\M[i]?=some s
 |[],[],s,_,h=>by cases h
 |[],_ :: _,_,h,_=>by cases h
 |_ :: _,[],_,h,_=>by cases h
 |a :: L,b :: M,s,hl,h=>by
  rw[List.find?_cons]at h
  cases hb:q b with
  |true=>
   rw[hb]at h
   cases h
   exact⟨a,0,by rw[List.zip_cons_cons,List.find?_cons,hb],rfl,rfl⟩
  |false=>
   rw[hb]at h
   obtain⟨p,i,h1,h2,h3⟩:=qZ q L M s (by simpa using hl) h
   exact⟨p,i+1,by rw[List.zip_cons_cons,List.find?_cons,hb];exact h1,by simpa using h2,by simpa using h3⟩
theorem u1 {PL:List PS}{kvs:List (Key×V)}{n x:Nat}(rds:Rds (PL.map bq) kvs)(hn:1<=n):∀z,(az kvs (kI x)).getD (.int (n:Nat))=z->∃m:Int,z=.int m/\decide (m<(n:Int))=aE PL (n-1) x:=by
 intro z hz
 cases e:az kvs (kI x) with
 |none=>
  rw[e]at hz
  subst hz
  refine⟨n,rfl,?_⟩
  have:=rds.no _ e (n-1)
  rw[fF]at this
  rw[this,decide_eq_false (by omega)]
 |some v=>
  obtain⟨m,rfl,hm⟩:=rds.yes _ v e
  rw[e]at hz
  subst hz
  have hm:=ud hm
  refine⟨m,rfl,?_⟩
  by_cases h:m<n
  ·rw[decide_eq_true (by omega),gf hm.1 (by omega)]
  ·rw[decide_eq_false (by omega),hm.2 (n-1) (by omega)]
section
variable {P:Program}{w:World}{K:PySem.W.Frag}{mg:Str->Option Value}{base:Heap}{A:Adr}
def yz:Sp:=fun vs H Q _=>∃(a d:Addr)(ks:List Nat)(PL:List PS)(kvs:List (Key×V))(n:Nat),vs=[.ref a,.ref d,.int (n:Nat)]/\H a=some (.tup ((ks.map kI).map kV))/\ks.length<=LB/\H d=some (.dK kvs)/\Rds (PL.map bq) kvs/\1<=n/\
 ∀H',Same H H'->Q (.bl (ks.all (aE PL (n-1)))) H'
theorem pD (T:Txt K mg A):Cal P w K mg base "all_below" ["literals","rounds","bound"] 1 yz:=by
 have nd:=sc_all_below.nd
 refine T.d_all_below.ok sc_all_below (fun vs H Q E h=>?_) (fun f cdv A0 outer s H vs Q E hr h=>?_)
 ·obtain⟨a,d,ks,PL,kvs,n,rfl,_⟩:=h
  rfl
 ·obtain⟨a,d,ks,PL,kvs,n,rfl,ha,hl,hd,rds,hn,k⟩:=h
  have hu:=b9 hr
  refine⟨_,(aj (al (aI (mK rfl) rfl T.b_all boot_all (ab (cq rfl nd (kj (pv 0)) (aU (N:=["literals","rounds","bound","literal"]) (sc:=ai fW) (own:=[("literal",3)]) (by decide +kernel)) (fun _ _ _ _ _=>(aw (i:=3) nd rfl lc_)) (fun _ _ _ _ _=>bj) (fun _ _ _ _ _=>(fN k3 (qg hu (pv 1) (pv 3) (pv 2) ⟨rfl,rfl,rfl,rfl⟩) (pv 2) (aK _)))) ah)))),?_⟩
  refine⟨_,rfl,a,rfl,⟨_,SqT.of ha⟩,fun L hL=>cy (gb (xs:=(ks.map kI).map kV)) ((ks.map (aE PL (n-1))).map V.bl) (by simp) (by rw[List.length_map,List.length_map];exact dQ hl) hL (fun H2 s2=>SqT.of (s2 _ _ ha)) ?_ bB br ?_⟩
  ·rintro i x y H2 e hy s2 R2 hR
   rw[List.getElem?_map,List.getElem?_map]at e hy
   cases ec:ks[i]? with
   |none=>rw[ec]at e;cases e
   |some z=>
    rw[ec]at e hy
    cases e
    cases hy
    have hd2:=s2 _ _ hd
    obtain⟨m,hm1,hm2⟩:=u1 (x:=z) rds hn _ rfl
    refine⟨rfl,rfl,_,rfl,d,rfl,.inl ⟨_,.inl hd2⟩,_,rfl,_,rfl,_,DGet.k (k:=kI z) hd2,?_⟩
    rw[hm1]
    refine⟨_,rfl,_,_,rfl,rfl,?_⟩
    have:=hR H2 (Same.refl _)
    rw[<-hm2]at this
    exact this
  ·intro H2 s2 h2
   refine⟨L,_,rfl,SqL.of h2,?_⟩
   rw[r4]
   exact k H2 s2
def ua (K:PySem.W.Frag)(C:Addr):Sp:=fun vs H Q _=>∃(a d:Addr)(ps:List Addr)(PL:List PS)(kvs:List (Key×V))(x n:Nat),vs=[.ref a,.ref d,.int (x:Nat)]/\SqL K H a (ps.map V.ref)/\StepsAt C H ps (PL.map bq)/\PL.length<=1000/\H d=some (.dK kvs)/\Rds (PL.map bq) kvs/\IsRN PL x n/\
 ∀p s,told PL x n=some s->StepAt C H p (bq s)->∀H',Same H H'->Q (.ref p) H'
theorem p6 (T:Txt K mg A):Cal P w K mg base "told_step" ["steps","rounds","literal"] 2 (ua K A.Step):=by
 have nd:=sc_told_step.nd
 have C_all_below:=pD (P:=P) (w:=w) (base:=base) T
 refine T.d_told_step.ok sc_told_step (fun vs H Q E h=>?_) (fun f cdv A0 outer s H vs Q E hr h=>?_)
 ·obtain⟨a,d,ps,PL,kvs,x,n,rfl,_⟩:=h
  rfl
 ·obtain⟨a,d,ps,PL,kvs,x,n,rfl,hS,hT,hl,hd,rds,hn,k⟩:=h
  have hu:=b9 hr
  refine⟨_,(ag (ap (i:=3) nd rfl lc_ (cn hu (pv 1) (pv 2) (fun _ _=>rfl))) (ag (dF rfl nd (i:=4) rfl rfl (eK rfl rfl rfl rfl) (be (pv 0)) (aU (N:=["steps","rounds","literal","own","fitting","step"]) (sc:=ai fU) (own:=[("step",5)]) (by decide +kernel)) (fun _ _ _ _ _=>(aw (i:=5) nd rfl lc_)) (fun _ _ _ _ _=>(i6 (PW.pt (eY (aJ cM (aG K (pv 5)) (pv 2) (aK _)) (eM (bE (ao C_all_below (hr.mono (by decide)) rfl (ab (aG K (pv 5)) (ab (pv 1) (ab (pv 3) ah)))))))))) (fun _ _ _ _ _=>(pv 5))) (aj (al (bH bf (pv 4) au (fun _ _=>rfl)))))),?_⟩
  have sl:2000<=sizeLine:=by decide
  have hpl:ps.length=PL.length:=by rw[hT.1,List.length_map]
  have ev:az kvs (kI x)=some (.int (n:Nat)):=by
   cases e:az kvs (kI x) with
   |none=>
    have:=rds.no _ e n
    rw[fF,hn.1]at this
    cases this
   |some v=>
    obtain⟨m,rfl,hm⟩:=rds.yes _ v e
    rw[(ud hm).uniq hn]
  refine⟨_,rfl,_,rfl,d,_,rfl,fb (k:=kI x) hd rfl ev,?_⟩
  refine⟨_,rfl,a,rfl,⟨_,hS⟩,fun L hL=>oe (aR (xs:=ps.map V.ref)) ((ps.zip PL).map fun z=>if (decide (z.2.lit=x)&&z.2.body.all (aE PL (n-1)))=true then some (V.ref z.1) else none) (by simp[hpl]) (by rw[List.length_map];omega) hL (fun H2 s2=>s2.seq hS) ?_ ?_⟩
  ·rintro i v y H2 e hy s2 R R' hR hR'
   rw[List.getElem?_map]at e
   obtain⟨p,ep,rfl⟩:=Option.map_eq_some_iff.mp e
   have hi:i<PL.length:=by rw[<-hpl];exact (List.getElem?_eq_some_iff.mp ep).1
   have es:PL[i]?=some PL[i]:=by simp[hi]
   have ez:(ps.zip PL)[i]?=some (p,PL[i]):=by rw[List.getElem?_zip_eq_some];exact⟨ep,es⟩
   rw[List.getElem?_map,ez]at hy
   cases hy
   obtain⟨dx,bp,h1,h2,h3⟩:=(hT.2 i p (bq PL[i]) ep (by rw[List.getElem?_map,es];rfl)).same s2
   refine⟨rfl,_,rfl,p,A.Step,dx,_,_,rfl,h1,T.cl_Step,T.n_Step_literal,rfl,_,rfl,rfl,_,rfl,?_⟩
   have ed:decide (kV (bq PL[i]).lit=V.int ((x:Nat):Int))=decide (PL[i].lit=x):=by
    show decide (V.int ((PL[i].lit:Nat):Int)=V.int ((x:Nat):Int))=_
    by_cases z:PL[i].lit=x
    ·rw[z];simp
    ·rw[decide_eq_false z,decide_eq_false fun q=>z (by have:=V.int.inj q;omega)]
   rw[ed]
   refine aW (fun hz=>?_) (fun hz=>?_)
   ·refine⟨_,rfl,p,A.Step,dx,_,_,rfl,h1,T.cl_Step,T.n_Step_body,rfl,_,rfl,_,rfl,bp,d,PL[i].body,PL,kvs,n,rfl,h2,(by have:(bq PL[i]).body.length=PL[i].body.length:=(by show (PL[i].body.map kI).length=_;simp);omega),s2 _ _ hd,rds,hn.pos,fun H3 s3=>⟨_,rfl,?_⟩⟩
    refine aW (fun hb=>?_) (fun hb=>?_)
    ·exact⟨_,rfl,hR _ _ (if_pos (by rw[hz,hb];rfl)) s3⟩
    ·exact hR' _ (if_neg (fun q=>hb (by rw[Bool.and_eq_true]at q;exact q.2))) s3
   ·exact bX (hR' _ (if_neg (fun q=>hz (by rw[Bool.and_eq_true]at q;exact q.1))) (Same.refl _))
  ·intro H2 s2 hL2
   obtain⟨t,ht⟩:=sq hn
   obtain⟨p,i,h1,h2,h3⟩:=qZ (fun s:PS=>decide (s.lit=x)&&s.body.all (aE PL (n-1))) ps PL t hpl ht
   obtain⟨r,hr2⟩:=qE (fun z:Addr×PS=>decide (z.2.lit=x)&&z.2.body.all (aE PL (n-1))) (fun z=>V.ref z.1) (ps.zip PL) (p,t) h1
   rw[hr2]at hL2
   refine⟨_,rfl,L,_,_,_,rfl,rfl,SqL.of hL2,bu (j:=0) rfl,k p t ht (hT.2 i p (bq t) h2 (by rw[List.getElem?_map,h3];rfl)) H2 s2⟩
end
def bc (TD:List (Nat×Addr)):List (Key×V):=TD.map fun z=>(kI z.1,V.ref z.2)
theorem tM (TD:List (Nat×Addr)):(bc TD).map (·.1)=(TD.map (·.1)).map kI:=by
 unfold bc
 rw[List.map_map,List.map_map]
 rfl
theorem toldK_has {TD:List (Nat×Addr)}{x:Nat}:(az (bc TD) (kI x)).isSome=true↔x∈TD.map (·.1):=by
 rw[iN,tM,List.mem_map]
 constructor
 ·rintro⟨y,hy,e⟩
  rw[<-qY e]
  exact hy
 ·intro h
  exact⟨x,h,rfl⟩
theorem uG {TD:List (Nat×Addr)}{x:Nat}{p:Addr}(h:x ∉ TD.map (·.1)):bI (bc TD) (kI x) (.ref p)=bc (TD++[(x,p)]):=by
 have e:az (bc TD) (kI x)=none:=by
  cases q:az (bc TD) (kI x) with
  |none=>rfl
  |some v=>exact absurd (toldK_has.mp (by rw[q];rfl)) h
 rw[fO _ e]
 unfold bc
 rw[List.map_append]
 rfl
theorem og {TD:List (Nat×Addr)}(nd:(TD.map (·.1)).Nodup){x:Nat}{p:Addr}(h:(x,p)∈TD):az (bc TD) (kI x)=some (.ref p):=by
 induction TD with
 |nil=>cases h
 |cons a TD ih=>
  rw[List.map_cons,List.nodup_cons]at nd
  unfold bc
  rw[List.map_cons]
  rcases List.mem_cons.mp h with e|e
  ·subst e
   exact bL rfl
  ·have:¬kI a.1=kI x:=fun z=>nd.1 (by rw[qY z];exact List.mem_map.mpr ⟨_,e,rfl⟩)
   rw[bM this]
   exact ih nd.2 e
structure ToldD (C:Addr)(H:Hp)(PL:List PS)(l:Nat)(TD:List (Nat×Addr)):Prop where
 nd:(TD.map (·.1)).Nodup
 yes:∀x p,(x,p)∈TD->∃n s,Need PL l x/\IsRN PL x n/\told PL x n=some s/\StepAt C H p (bq s)
theorem ToldD.put {C:Addr}{H H':Hp}{PL:List PS}{l:Nat}{TD:List (Nat×Addr)}(h:ToldD C H PL l TD)(k:∀p s,StepAt C H p s->StepAt C H' p s):ToldD C H' PL l TD:=⟨h.nd,fun x p e=>by
 obtain⟨n,s,h1,h2,h3,h4⟩:=h.yes x p e
 exact⟨n,s,h1,h2,h3,k _ _ h4⟩⟩
theorem ToldD.len {C:Addr}{H:Hp}{PL:List PS}{l b:Nat}{TD:List (Nat×Addr)}(h:ToldD C H PL l TD)(hb:∀p∈PL,p.lit<b):TD.length<=b:=by
 have:=cf (m:=List.range b) h.nd (fun x hx=>by
  obtain⟨z,hz,e⟩:=List.mem_map.mp hx
  obtain⟨n,s,_,_,h3,_⟩:=h.yes z.1 z.2 hz
  obtain⟨h4,h5,_⟩:=eI h3
  have:=hb s h4
  rw[List.mem_range]
  omega)
 rw[List.length_map,List.length_range]at this
 exact this
theorem w8 {PL:List PS}{l:Nat}{T:Nat->Prop}(h0:T l)(h1:∀x n s,T x->IsRN PL x n->told PL x n=some s->∀y∈s.body,T y):∀x,Need PL l x->T x:=fun x h=>by
 induction h with
 |self=>exact h0
 |body _ hn ht hy ih=>exact h1 _ _ _ ih hn ht _ hy
section
variable {P:Program}{w:World}{K:PySem.W.Frag}{mg:Str->Option Value}{base:Heap}{A:Adr}
def we (K:PySem.W.Frag)(C:Addr):Sp:=fun vs H Q _=>∃(a d:Addr)(ps:List Addr)(PL:List PS)(kvs:List (Key×V))(l n:Nat),vs=[.ref a,.ref d,.int (l:Nat)]/\SqL K H a (ps.map V.ref)/\StepsAt C H ps (PL.map bq)/\PL.length<=1000/\(∀p∈PL,p.lit<1000/\p.body.length<=100)/\H d=some (.dK kvs)/\Rds (PL.map bq) kvs/\IsRN PL l n/\
 ∀q TD H',Same H H'->H q=none->H' q=some (.dK (bc TD))->ToldD C H' PL l TD->(∀x,Need PL l x->x∈TD.map (·.1))->TD.length<=1000->Q (.ref q) H'
theorem ma (T:Txt K mg A):Cal P w K mg base "needed_steps" ["steps","rounds","literal"] 3 (we K A.Step):=by
 have nd:=sc_needed_steps.nd
 have C_told_step:=p6 (P:=P) (w:=w) (base:=base) T
 refine T.d_needed_steps.ok sc_needed_steps (fun vs H Q E h=>?_) (fun f cdv A0 outer s H vs Q E hr h=>?_)
 ·obtain⟨a,d,ps,PL,kvs,l,n,rfl,_⟩:=h
  rfl
 ·obtain⟨a,d,ps,PL,kvs,l,n,rfl,hS,hT,hl,hsm,hd,rds,hn,k⟩:=h
  have hu:=b9 hr
  refine⟨_,(ag (ap (i:=3) nd rfl lc_ da) (ag (ap (i:=4) nd rfl lc_ (cx (ab (pv 2) ah))) (ag (fE PassesOwn.never (aJ jB (aI aP rfl T.b_len PySem.boot_len (ab (pv 4) ah)) au (aK _)) (ag (ap (i:=5) nd rfl lc_ (y4 PySem.F.plainAttrs_list PySem.F.slot_list_pop PySem.F.type_list_pop yH (pv 4))) (aj (aV (cH (io hu (pv 5) (pv 3)) (by with_unfolding_all rfl)) (ag (ap (i:=6) nd rfl lc_ (ao C_told_step (hr.mono (by decide)) rfl (ab (pv 0) (ab (pv 1) (ab (pv 5) ah))))) (ag (dr hu (pv 3) (pv 5) (pv 6) rfl) (aj (cN (eU PySem.F.plainAttrs_list PySem.F.slot_list_extend PySem.F.type_list_extend tN (pv 4) (ab (aG K (pv 6)) ah)))))) aF)))) (aj (al (pv 3)))))),?_⟩
  have sl:200000<=sizeLine:=by decide
  intro q hq
  have s0:=ak (o:=.dK []) hq
  refine⟨_,rfl,(by show 1<=sizeLine;omega),fun wL hw=>?_⟩
  have hw0:H wL=none:=s0.free hw
  have s1:=s0.trans (ak (o:=.lst [V.int (l:Nat)]) hw)
  have hqw:q≠wL:=fun z=>by rw[<-z,af]at hw;cases hw
  refine gN (fun σ H2=>Same H H2/\∃(TD:List (Nat×Addr))(W:List Nat)(v5 v6:Option V),H2 q=some (.dK (bc TD))/\H2 wL=some (.lst (W.map fun x=>V.int (x:Nat)))/\ToldD A.Step H2 PL l TD/\(∀x∈W,Need PL l x)/\(l∈W∨l∈TD.map (·.1))/\(∀x m s,x∈TD.map (·.1)->IsRN PL x m->told PL x m=some s->∀y∈s.body,y∈W∨y∈TD.map (·.1))/\W.length<=1+100*TD.length/\
    σ=[some (.ref a),some (.ref d),some (.int (l:Nat)),some (.ref q),some (.ref wL),v5,v6])
   (fun _ H2=>match H2 q,H2 wL with|some (.dK kvs2),some (.lst ws)=>101*(1000-kvs2.length)+ws.length|_,_=>0) ⟨s1,[],[l],none,none,?_,af,⟨by simp,fun x p e=>by cases e⟩,?_,.inl (by simp),fun x m s e=>by simp at e,by simp,rfl⟩ ?_
  ·rw[ae hqw,af];rfl
  ·intro x hx
   have:x=l:=by simpa using hx
   rw[this]
   exact .self
  rintro σ H2 ⟨s2,TD,W,v5,v6,hq2,hw2,hTD,hW,hlW,hcl,hWl,rfl⟩
  refine⟨_,rfl,wL,_,rfl,.inl (SqL.of hw2),_,_,rfl,rfl,_,rfl,?_⟩
  rw[List.length_map]
  have hTl:=hTD.len fun p hp=>(hsm p hp).1
  have key:(match H2 q,H2 wL with|some (.dK kvs2),some (.lst ws)=>101*(1000-kvs2.length)+ws.length|_,_=>0)=101*(1000-TD.length)+W.length:=by
   rw[hq2,hw2]
   show 101*(1000-(bc TD).length)+(W.map fun x=>V.int (x:Nat)).length=_
   rw[List.length_map]
   unfold bc
   rw[List.length_map]
  refine aW (fun hpos=>?_) (fun hpos=>?_)
  ·have hpos:=of_decide_eq_true hpos
   have hWp:0<W.length:=by omega
   have hlast:(W.map fun x=>V.int (x:Nat))[(W.map fun x=>V.int (x:Nat)).length-1]?=some (V.int ((W[W.length-1]:Nat):Int)):=by
    rw[List.length_map,List.getElem?_map,List.getElem?_eq_getElem (by omega)]
    rfl
   generalize hz:W[W.length-1]=z at hlast
   have hzW:z∈W:=by rw[<-hz];exact List.getElem_mem _
   have hzN:=hW z hzW
   obtain⟨m,hm⟩:=mI hn hzN
   have hdl:(W.map fun x=>V.int (x:Nat)).dropLast=W.dropLast.map fun x=>V.int (x:Nat):=by rw[List.map_dropLast]
   have hmem:∀y∈W,y=z∨y∈W.dropLast:=fun y hy=>by
    have e:W=W.dropLast++[z]:=by
     rw[<-hz]
     have hne:W≠[]:=by intro z;rw[z]at hWp;cases hWp
     have:=(List.dropLast_concat_getLast hne).symm
     rw[List.getLast_eq_getElem]at this
     exact this
    rw[e]at hy
    rcases List.mem_append.mp hy with h|h
    ·exact .inr h
    ·exact .inl (by simpa using h)
   refine⟨_,gT,_,rfl,.inl ⟨rfl,_,SqL.of hw2⟩,wL,_,_,rfl,rfl,hw2,hlast,?_⟩
   rw[hdl]
   have hq3:upd H2 wL (.lst (W.dropLast.map fun x=>V.int (x:Nat))) q=some (.dK (bc TD)):=by rw[ae hqw];exact hq2
   have s3:Same H (upd H2 wL (.lst (W.dropLast.map fun x=>V.int (x:Nat)))):=aN s2 hw0
   have hdW:W.dropLast.length=W.length-1:=List.length_dropLast
   have st3:∀p s,StepAt A.Step H2 p s->StepAt A.Step (upd H2 wL (.lst (W.dropLast.map fun x=>V.int (x:Nat)))) p s:=fun p s h=>h.putL hw2
   refine⟨_,rfl,_,rfl,q,_,rfl,DGet.k (k:=kI z) hq3,_,rfl,?_⟩
   by_cases hin:z∈TD.map (·.1)
   ·have e:(!(az (bc TD) (kI z)).isSome)=false:=by rw[toldK_has.mpr hin];rfl
    rw[e]
    refine bX ⟨⟨s3,TD,W.dropLast,_,_,hq3,af,hTD.put st3,fun x hx=>hW x (List.dropLast_subset W hx),?_,fun x m s e1 e2 e3 y hy=>?_,by omega,rfl⟩,?_⟩
    ·rcases hlW with h|h
     ·rcases hmem l h with h|h
      ·exact .inr (by rw[h];exact hin)
      ·exact .inl h
     ·exact .inr h
    ·rcases hcl x m s e1 e2 e3 y hy with h|h
     ·rcases hmem y h with h|h
      ·exact .inr (by rw[h];exact hin)
      ·exact .inl h
     ·exact .inr h
    ·rw[key]
     show (match upd H2 wL (.lst (W.dropLast.map fun x=>V.int (x:Nat))) q,upd H2 wL (.lst (W.dropLast.map fun x=>V.int (x:Nat))) wL with|some (.dK kvs2),some (.lst ws)=>101*(1000-kvs2.length)+ws.length|_,_=>0)<_
     rw[hq3,af]
     show 101*(1000-(bc TD).length)+(W.dropLast.map fun x=>V.int (x:Nat)).length<_
     unfold bc
     rw[List.length_map,List.length_map]
     omega
   ·have e:(!(az (bc TD) (kI z)).isSome)=true:=by
     cases q:(az (bc TD) (kI z)).isSome with
     |false=>rfl
     |true=>exact absurd (toldK_has.mp q) hin
    rw[e]
    refine cw ⟨_,rfl,_,rfl,_,rfl,a,d,ps,PL,kvs,z,m,rfl,s3.seq hS,hT.same s3,hl,s3 _ _ hd,rds,hm,fun p s hs hp H4 s4=>?_⟩
    have hq4:=s4 _ _ hq3
    have hw4:=s4 _ _ (show upd H2 wL (.lst (W.dropLast.map fun x=>V.int (x:Nat))) wL=_ from af)
    have hp4:=hp.same s4
    refine⟨_,rfl,_,rfl,_,rfl,q,_,rfl,DPut.k (k:=kI z) hq4 ?_,?_⟩
    ·unfold bc
     rw[List.length_map]
     omega
    rw[uG hin]
    have hs5:∀p s,StepAt A.Step H4 p s->StepAt A.Step (upd H4 q (.dK (bc (TD++[(z,p)])))) p s:=fun p s h=>lX h hq4
    obtain⟨dx,bp,h1,h2,h3⟩:=lX (o:=.dK (bc (TD++[(z,p)]))) hp4 hq4
    have hw5:upd H4 q (.dK (bc (TD++[(z,p)]))) wL=some (.lst (W.dropLast.map fun x=>V.int (x:Nat))):=by rw[ae (Ne.symm hqw)];exact hw4
    have hbody:(bq s).body.map kV=s.body.map fun x=>V.int (x:Nat):=by
     show (s.body.map kI).map kV=_
     rw[List.map_map]
     rfl
    rw[hbody]at h2
    have hbl:=(hsm s (eI hs).1).2
    refine⟨_,rfl,.inl ⟨rfl,_,SqL.of hw5⟩,_,rfl,p,A.Step,dx,_,_,rfl,h1,T.cl_Step,T.n_Step_body,rfl,wL,bp,_,_,rfl,rfl,hw5,h2,?_,?_⟩
    ·rw[List.length_map,List.length_map];omega
    rw[<-List.map_append]
    have hfin:∀p' s',StepAt A.Step H4 p' s'->StepAt A.Step (upd (upd H4 q (.dK (bc (TD++[(z,p)])))) wL (.lst ((W.dropLast++s.body).map fun x=>V.int (x:Nat)))) p' s':=fun p' s' h=>(lX (o:=.dK (bc (TD++[(z,p)]))) h hq4).putL hw5
    have s5:Same H (upd (upd H4 q (.dK (bc (TD++[(z,p)])))) wL (.lst ((W.dropLast++s.body).map fun x=>V.int (x:Nat)))):=aN (aN (s3.trans s4) hq) hw0
    have hq6:upd (upd H4 q (.dK (bc (TD++[(z,p)])))) wL (.lst ((W.dropLast++s.body).map fun x=>V.int (x:Nat))) q=some (.dK (bc (TD++[(z,p)]))):=by rw[ae hqw,af]
    have hTl2:TD.length<1000:=by
     have t2:ToldD A.Step H4 PL l (TD++[(z,p)]):=⟨by
      rw[List.map_append]
      exact List.nodup_append.mpr ⟨hTD.nd,by simp,fun u hu v hv=>by
       have:v=z:=by simpa using hv
       subst this
       exact fun e=>hin (by rw[<-e];exact hu)⟩,fun x p' e=>by
      rcases List.mem_append.mp e with e|e
      ·obtain⟨n',s',a1,a2,a3,a4⟩:=hTD.yes x p' e
       exact⟨n',s',a1,a2,a3,(st3 _ _ a4).same s4⟩
      ·have e:(x,p')=(z,p):=by simpa using e
       cases e
       exact⟨m,s,hzN,hm,hs,hp4⟩⟩
     have:=t2.len fun p hp=>(hsm p hp).1
     rw[List.length_append]at this
     exact this
    refine⟨⟨s5,TD++[(z,p)],W.dropLast++s.body,_,_,hq6,af,⟨?_,fun x p' e=>?_⟩,fun x hx=>?_,?_,fun x m' s' e1 e2 e3 y hy=>?_,?_,rfl⟩,?_⟩
    ·rw[List.map_append]
     exact List.nodup_append.mpr ⟨hTD.nd,by simp,fun u hu v hv=>by
      have:v=z:=by simpa using hv
      subst this
      exact fun e=>hin (by rw[<-e];exact hu)⟩
    ·rcases List.mem_append.mp e with e|e
     ·obtain⟨n',s',a1,a2,a3,a4⟩:=hTD.yes x p' e
      exact⟨n',s',a1,a2,a3,hfin _ _ ((st3 _ _ a4).same s4)⟩
     ·have e:(x,p')=(z,p):=by simpa using e
      cases e
      exact⟨m,s,hzN,hm,hs,hfin _ _ hp4⟩
    ·rcases List.mem_append.mp hx with h|h
     ·exact hW x (List.dropLast_subset W h)
     ·exact .body hzN hm hs h
    ·rcases hlW with h|h
     ·rcases hmem l h with h|h
      ·exact .inr (by rw[List.map_append,h];simp)
      ·exact .inl (List.mem_append_left _ h)
     ·exact .inr (by rw[List.map_append];exact List.mem_append_left _ h)
    ·rw[List.map_append]at e1 ⊢
     rcases List.mem_append.mp e1 with e1|e1
     ·rcases hcl x m' s' e1 e2 e3 y hy with h|h
      ·rcases hmem y h with h|h
       ·exact .inr (List.mem_append_right _ (by simp[h]))
       ·exact .inl (List.mem_append_left _ h)
      ·exact .inr (List.mem_append_left _ h)
     ·have e1:x=z:=by simpa using e1
      subst e1
      have:=e2.uniq hm
      subst this
      rw[hs]at e3
      cases e3
      exact .inl (List.mem_append_right _ hy)
    ·rw[List.length_append,List.length_append]
     show W.dropLast.length+s.body.length<=1+100*(TD.length+1)
     omega
    ·rw[key]
     show (match upd (upd H4 q (.dK (bc (TD++[(z,p)])))) wL (.lst ((W.dropLast++s.body).map fun x=>V.int (x:Nat))) q,upd (upd H4 q (.dK (bc (TD++[(z,p)])))) wL (.lst ((W.dropLast++s.body).map fun x=>V.int (x:Nat))) wL with|some (.dK kvs2),some (.lst ws)=>101*(1000-kvs2.length)+ws.length|_,_=>0)<_
     rw[hq6,af]
     show 101*(1000-(bc (TD++[(z,p)])).length)+((W.dropLast++s.body).map fun x=>V.int (x:Nat)).length<_
     unfold bc
     rw[List.length_map,List.length_map,List.length_append,List.length_append]
     show 101*(1000-(TD.length+1))+(W.dropLast.length+s.body.length)<_
     omega
  ·have hW0:W=[]:=by
    cases W with
    |nil=>rfl
    |cons w W=>exact absurd (decide_eq_true (by simp)) hpos
   subst hW0
   refine⟨_,rfl,k q TD H2 s2 hq hq2 hTD ?_ hTl⟩
   refine w8 ?_ fun x m s e1 e2 e3 y hy=>?_
   ·rcases hlW with h|h
    ·cases h
    ·exact h
   ·rcases hcl x m s e1 e2 e3 y hy with h|h
    ·cases h
    ·exact h
end
theorem nO {X:List Nat}{r:Nat->Nat}{ys:List V}(hnd:X.Nodup)(h:eP (X.map fun x=>(((r x:Nat):Int),((x:Nat):Int))) (X.map fun x=>V.int (x:Nat)) ys):∃D:List Nat,ys=D.map (fun x=>V.int (x:Nat))/\D.Perm X/\D.Pairwise (cD r):=by
 obtain⟨idx,h1,h2,rfl⟩:=h
 rw[List.length_map]at h1
 have hin:∀i∈idx,i<X.length:=fun i hi=>List.mem_range.mp (h1.mem_iff.mp hi)
 have hX:(List.range X.length).map (fun i=>X.getD i 0)=X:=by
  apply List.ext_getElem?
  intro i
  rw[List.getElem?_map]
  by_cases hi:i<X.length
  ·simp[hi]
  ·rw[List.getElem?_eq_none (by simp;omega),List.getElem?_eq_none (by omega)]
   rfl
 refine⟨idx.map fun i=>X.getD i 0,?_,?_,?_⟩
 ·rw[List.map_map]
  refine List.map_congr_left fun i hi=>?_
  have:=hin i hi
  simp[this]
 ·have:=h1.map fun i=>X.getD i 0
  rw[hX]at this
  exact this
 ·rw[List.pairwise_map]
  have hn:idx.Nodup:=h1.nodup_iff.mpr List.nodup_range
  refine (h2.and hn).imp_of_mem fun {i j} hi hj ⟨e,ne⟩=>?_
  have li:=hin i hi
  have lj:=hin j hj
  have ei:(X.map fun x=>(((r x:Nat):Int),((x:Nat):Int))).getD i (0,0)=(((r (X.getD i 0):Nat):Int),((X.getD i 0:Nat):Int)):=by simp[li]
  have ej:(X.map fun x=>(((r x:Nat):Int),((x:Nat):Int))).getD j (0,0)=(((r (X.getD j 0):Nat):Int),((X.getD j 0:Nat):Int)):=by simp[lj]
  rw[ei,ej]at e
  have nx:X.getD i 0≠X.getD j 0:=fun z=>by
   have a:X.getD i 0=X[i]:=by simp[li]
   have b:X.getD j 0=X[j]:=by simp[lj]
   rw[a,b]at z
   exact ne ((vB hnd li lj).mp z)
  unfold mW at e
  simp only[Bool.or_eq_false_iff,Bool.and_eq_false_iff,decide_eq_false_iff_not]at e
  unfold cD
  omega
theorem ss {σ:L2.St}{R:V->Hp->Prop}{x:V}{H:Hp}(h:R x H):ni σ H (fun xs H2=>xw R (x :: xs) H2):=h
def SameX (PT:Addr)(H H':Hp):Prop:=∀b o,b≠PT->H b=some o->H' b=some o
theorem SameX.of {PT:Addr}{H H1 H2 H3:Hp}(a:Same H H1)(b:∀b,b≠PT->H2 b=H1 b)(c:Same H2 H3):SameX PT H H3:=fun x o n e=>c x o (by rw[b x n];exact a x o e)
def gJ (c:Mo.Case)(S:Nat)(D:List Nat):List Nat:=MoD.stepNums (D.filterMap (c.numbered.stepOf S))
theorem sW (c:Mo.Case)(S x:Nat)(D:List Nat){p:PS}{n:Nat}(h:IsRN (aq c S) x n)(ht:told (aq c S) x n=some p):gJ c S (D++[x])=gJ c S D++[p.kind,p.number]:=by
 unfold gJ
 rw[List.filterMap_append]
 have e:[x].filterMap (c.numbered.stepOf S)=[fY p]:=by
  rw[List.filterMap_cons,le h,ht]
  rfl
 rw[e]
 unfold MoD.stepNums
 rw[List.flatMap_append]
 rfl
theorem nZ (c:Mo.Case)(S:Nat)(D:List Nat):(gJ c S D).length<=2*D.length:=by
 unfold gJ MoD.stepNums
 have:=List.length_filterMap_le (c.numbered.stepOf S) D
 rw[List.length_flatMap]
 have e:∀l:List Mo.Step,(l.map fun a=>[a.kind,a.number].length).sum=2*l.length:=fun l=>by
  induction l with
  |nil=>rfl
  |cons a l ih=>rw[List.map_cons,List.sum_cons,ih,List.length_cons];show 2+2*l.length=2*(l.length+1);omega
 rw[e]
 omega
section
variable {P:Program}{w:World}{K:PySem.W.Frag}{mg:Str->Option Value}{base:Heap}{A:Adr}
def vM (K:PySem.W.Frag)(C PT:Addr):Sp:=fun vs H Q _=>∃(a d:Addr)(ps:List Addr)(c:Mo.Case)(S:Nat)(kvs:List (Key×V))(l n:Nat),vs=[.ref a,.ref d,.int (l:Nat)]/\SqL K H a (ps.map V.ref)/\StepsAt C H ps ((aq c S).map bq)/\(aq c S).length<=1000/\(∀p∈aq c S,p.lit<1000/\p.body.length<=100)/\H d=some (.dK kvs)/\Rds ((aq c S).map bq) kvs/\IsRN (aq c S) l n/\l<2*c.atoms.length/\H PT=some (.tbl #[])/\
 ∀q ds H',SameX PT H H'->c.numbered.derive S l=some ds->(MoD.stepNums ds).length<=2000->H' q=some (.lst ((MoD.stepNums ds).map fun x=>V.int (x:Nat)))->Q (.ref q) H'
theorem ko {cT PT:Addr} (T:Txt K mg A) (hcT:dk K mg "told_derivation" cT) (hC:PySem.W.CodeHd base cT PT) (hB:ir mg base):Cal P w K mg base "told_derivation" ["steps","rounds","literal"] 5 (vM K A.Step PT):=by
 have nd:=sc_told_derivation.nd
 have C_needed_steps:=ma (P:=P) (w:=w) (base:=base) T
 refine T.d_told_derivation.okC hcT sc_told_derivation (fun vs H Q E h=>?_) (fun f A0 outer s H vs Q E hr h=>?_)
 ·obtain⟨a,d,ps,c,S,kvs,l,n,rfl,_⟩:=h
  rfl
 ·obtain⟨a,d,ps,c,S,kvs,l,n,rfl,hS,hT,hl,hsm,hd,rds,hn,hla,hPT,k⟩:=h
  have hu:=b9 hr
  have hu2:∀env:Env,((A0.deeper (envOfC "told_derivation" (ai bV) s.heap.objs.size f (.ref cT))).in1.in1.deeper env).units+1<cLine:=fun env=>by have:=(p5 (k:=2) hr env).un;omega
  refine⟨_,(ag (ap (i:=3) nd rfl lc_ (ao C_needed_steps (hr.mono (by decide)) rfl (ab (pv 0) (ab (pv 1) (ab (pv 2) ah))))) (ag (ap (i:=4) nd rfl lc_ (cx ah)) (ag (bO PassesOwn.never rfl (be (mD rfl hr (qz (N:=["steps","rounds","literal","told","row","needed"]) (sc:=ai bV) (x:="one") (own:=[("rounds",1)]) (by decide +kernel)) rfl hC hB rfl T.b_sorted PyProof.Rows.boot_sorted (ab (pv 3) ah) (fun _ _ _ _ _ _=>(iV (ab (cn (hu2 _) (pv 1) (pv 0) (fun _ _=>rfl)) (ab (pv 0) ah)))) (fun _ _ _ _ _ _ _=>rfl) rfl rfl rfl rfl)) (aw (i:=5) nd rfl lc_) (ag (cN (eU PySem.F.plainAttrs_list PySem.F.slot_list_append PySem.F.type_list_append cR (pv 4) (ab (aG K (cn hu (pv 3) (pv 5) (fun _ _=>rfl))) ah))) (aj (cN (eU PySem.F.plainAttrs_list PySem.F.slot_list_append PySem.F.type_list_append cR (pv 4) (ab (aG K (cn hu (pv 3) (pv 5) (fun _ _=>rfl))) ah)))))) (aj (al (pv 4)))))),?_⟩
  have sl:200000<=sizeLine:=by decide
  refine⟨_,rfl,_,rfl,_,rfl,a,d,ps,aq c S,kvs,l,n,rfl,hS,hT,hl,hsm,hd,rds,hn,fun q TD H1 s1 hq hq1 hTD hall hTl=>?_⟩
  refine⟨(by show 0<=sizeLine;omega),fun rL hrL=>?_⟩
  have s2:=s1.trans (ak (o:=.lst []) hrL)
  have hr0:H rL=none:=s1.free hrL
  have hq2:=ak (o:=.lst []) hrL _ _ hq1
  have hPT2:=s2 _ _ hPT
  have ev:∀x∈TD.map (·.1),az kvs (kI x)=some (.int ((rnd c S x:Nat):Int)):=fun x hx=>by
   obtain⟨z,hz,e⟩:=List.mem_map.mp hx
   obtain⟨m,t,_,hm,_,_⟩:=hTD.yes z.1 z.2 hz
   have e:z.1=x:=e
   rw[e]at hm
   rw[y0 hm]
   cases e:az kvs (kI x) with
   |none=>
    have:=rds.no _ e m
    rw[fF,hm.1]at this
    cases this
   |some v=>
    obtain⟨m',rfl,hm'⟩:=rds.yes _ v e
    rw[(ud hm').uniq hm]
  have hxs:(bc TD).map (fun z=>kV z.1)=(TD.map (·.1)).map fun x=>V.int (x:Nat):=by
   unfold bc
   rw[List.map_map,List.map_map]
   rfl
  refine⟨_,rfl,ss ?_⟩
  refine⟨(TD.map (·.1)).map fun x=>V.int (x:Nat),(TD.map (·.1)).map fun x=>(((rnd c S x:Nat):Int),((x:Nat):Int)),⟨q,rfl,.inr ⟨_,hq2,hxs.symm⟩⟩,by simp,(by rw[List.length_map,List.length_map];omega),hPT2,fun H2 hne hP2=>⟨fun i x kk ex ek H' sm=>?_,fun H' ys p o sm hp=>?_⟩⟩
  ·rw[List.getElem?_map]at ex ek
   obtain⟨z,ez,rfl⟩:=Option.map_eq_some_iff.mp ex
   rw[ez]at ek
   cases ek
   have hzT:=List.mem_of_getElem? ez
   have hdP:d≠PT:=fun z=>by rw[z,hPT]at hd;cases hd
   have hd':H' d=some (.dK kvs):=sm _ _ (by rw[hne d hdP];exact s2 _ _ hd)
   exact⟨_,rfl,_,rfl,d,_,rfl,fb (k:=kI z) hd' rfl (ev z hzT),_,rfl,(by show 2<=sizeLine;omega),fun p hp=>⟨p,rfl,af,ak hp⟩⟩
  ·obtain⟨D,rfl,hperm,hpw⟩:=nO hTD.nd o
   have hmem:∀x,x∈D↔x∈TD.map (·.1):=fun x=>hperm.mem_iff
   have hDl:D.length<=1000:=by rw[hperm.length_eq,List.length_map];exact hTl
   have hder:c.numbered.derive S l=some (D.filterMap (c.numbered.stepOf S)):=by
    refine rY hn hla D hpw fun x=>?_
    rw[hmem]
    constructor
    ·intro hx
     obtain⟨z,hz,e⟩:=List.mem_map.mp hx
     obtain⟨m,t,h1,_⟩:=hTD.yes z.1 z.2 hz
     have e:z.1=x:=e
     rw[<-e]
     exact h1
    ·exact hall x
   have nP:∀{b:Addr} {o:HO},upd H1 rL (.lst []) b=some o->(∀ps,o≠.tbl ps)->b≠PT:=fun {b o} e n z=>by
    rw[z,hPT2]at e
    cases e
    exact n _ rfl
   have at2:∀{b:Addr} {o:HO},upd H1 rL (.lst []) b=some o->(∀ps,o≠.tbl ps)->upd H' p (.lst (D.map fun x=>V.int (x:Nat))) b=some o:=fun {b o} e n=>ak hp _ _ (sm _ _ (by rw[hne b (nP e n)];exact e))
   have hr5:=at2 (b:=rL) (o:=.lst []) af (fun ps z=>by cases z)
   have hq5:=at2 hq2 (fun ps z=>by cases z)
   have hsx:SameX PT H (upd H' p (.lst (D.map fun x=>V.int (x:Nat)))):=fun b o nb e=>ak hp _ _ (sm _ _ (by rw[hne b nb];exact s2 _ _ e))
   have hrP:rL≠PT:=nP af (fun ps z=>by cases z)
   have hst:∀x p',(x,p')∈TD->∃m t,IsRN (aq c S) x m/\told (aq c S) x m=some t/\StepAt A.Step (upd H' p (.lst (D.map fun x=>V.int (x:Nat)))) p' (bq t):=fun x p' e=>by
    obtain⟨m,t,_,h2,h3,dx,bp,h4,h5,h6⟩:=hTD.yes x p' e
    have ne1:∀{b:Addr} {o:HO},H1 b=some o->upd H1 rL (.lst []) b=some o:=fun {b o} e=>ak hrL _ _ e
    exact⟨m,t,h2,h3,dx,bp,at2 (ne1 h4) (fun ps z=>by cases z),at2 (ne1 h5) (fun ps z=>by cases z),h6⟩
   refine⟨p,rfl,⟨_,SqL.of af⟩,cz (aR (xs:=D.map fun x=>V.int (x:Nat))) (fun i σ H4=>(∀b o,b≠rL->upd H' p (.lst (D.map fun x=>V.int (x:Nat))) b=some o->H4 b=some o)/\H4 rL=some (.lst ((gJ c S (D.take i)).map fun x=>V.int (x:Nat)))/\∃v5,σ=[some (.ref a),some (.ref d),some (.int (l:Nat)),some (.ref q),some (.ref rL),v5]) ?_ ?_ ?_ ?_⟩
   ·exact⟨fun b o _ e=>e,by rw[hr5];rfl,_,rfl⟩
   ·rintro i σ H4 _ ⟨s4,_⟩
    refine SqL.of (s4 _ _ (fun z=>?_) af)
    have:H' rL=some (.lst []):=sm _ _ (by rw[hne rL hrP];exact af)
    rw[<-z,hp]at this
    cases this
   ·rintro i x σ H4 hi e ⟨s4,h4,v5,rfl⟩
    rw[List.getElem?_map]at e
    obtain⟨z,ez,rfl⟩:=Option.map_eq_some_iff.mp e
    have hzT:=(hmem z).mp (List.mem_of_getElem? ez)
    obtain⟨⟨z',p'⟩,hzp,e'⟩:=List.mem_map.mp hzT
    have e':z'=z:=e'
    subst e'
    obtain⟨m,t,hm,ht,dx,bp,g1,g2,g3⟩:=hst z' p' hzp
    have ne:∀{b:Addr} {o:HO},upd H' p (.lst (D.map fun x=>V.int (x:Nat))) b=some o->o≠.lst []->b≠rL:=fun {b o} e n z=>by
     rw[z,hr5]at e
     cases e
     exact n rfl
    have hq4:=s4 _ _ (ne hq5 (fun z=>by cases z)) hq5
    have g4:=s4 _ _ (ne g1 (fun z=>by cases z)) g1
    have et:D.take (i+1)=D.take i++[z']:=by rw[List.take_add_one,ez];rfl
    have hrl:=nZ c S (D.take i)
    have htl:(D.take i).length<=1000:=by rw[List.length_take];omega
    have qr:q≠rL:=ne hq5 (fun z=>by cases z)
    have pr:p'≠rL:=ne g1 (fun z=>by cases z)
    refine⟨_,rfl,.inl ⟨rfl,_,SqL.of h4⟩,_,rfl,_,rfl,q,_,rfl,fb (k:=kI z') hq4 rfl (og hTD.nd hzp),p',A.Step,dx,_,_,rfl,g4,T.cl_Step,T.n_Step_kind,rfl,rL,_,_,rfl,rfl,h4,(by rw[List.length_map];omega),?_⟩
    have hq6:upd H4 rL (.lst ((gJ c S (D.take i)).map (fun x=>V.int (x:Nat))++[V.int (bq t).kind])) q=some (.dK (bc TD)):=by rw[ae qr];exact hq4
    have g6:=(ae (H:=H4) (o:=.lst ((gJ c S (D.take i)).map (fun x=>V.int (x:Nat))++[V.int (bq t).kind])) pr).trans g4
    refine⟨_,rfl,.inl ⟨rfl,_,SqL.of af⟩,_,rfl,_,rfl,q,_,rfl,fb (k:=kI z') hq6 rfl (og hTD.nd hzp),p',A.Step,dx,_,_,rfl,g6,T.cl_Step,T.n_Step_number,rfl,rL,_,_,rfl,rfl,af,(by rw[List.length_append,List.length_map];show _+1<_;omega),?_⟩
    refine⟨fun b o nb e=>?_,?_,_,rfl⟩
    ·rw[bW,ae nb]
     exact s4 b o nb e
    ·rw[af,et,sW c S z' _ hm ht,List.map_append,List.append_assoc]
     rfl
   ·rintro σ H4 ⟨s4,h4,v5,rfl⟩
    rw[List.length_map,List.take_of_length_le (Nat.le_refl _)]at h4
    refine⟨_,rfl,k rL _ H4 (fun b o nb e=>?_) hder ?_ h4⟩
    ·refine s4 b o (fun z=>?_) (hsx b o nb e)
     rw[z,hr0]at e
     cases e
    ·have:=nZ c S D
     show (gJ c S D).length<=2000
     omega
end
theorem pU (c:Mo.Case)(r:Mo.Row):(nums c r).length=r.body.length:=by
 unfold nums
 rw[List.length_map]
theorem tZ {c:Mo.Case}{S:Nat}(ha:c.atoms.length<=64)(hf:∀r,r∈c.laws∨r∈c.rules->r.body.length<=6):∀p∈aq c S,p.lit<1000/\p.body.length<=100:=fun p hp=>by
 have h1:=pG hp
 refine⟨by omega,?_⟩
 unfold aq at hp
 rcases List.mem_append.mp hp with hp|hp
 ·obtain⟨n,_,rfl⟩:=List.mem_map.mp hp
  exact Nat.zero_le _
 ·rcases List.mem_append.mp hp with hp|hp
  ·obtain⟨n,hn,rfl⟩:=List.mem_map.mp hp
   have hn:=List.mem_range.mp hn
   show (nums c (c.laws.getD n _)).length<=100
   rw[pU]
   have:=hf _ (.inl (List.getElem_mem hn))
   have e:c.laws.getD n ⟨[],[],⟨[],false⟩⟩=c.laws[n]:=by simp[hn]
   rw[e]
   omega
  ·obtain⟨n,hn,rfl⟩:=List.mem_map.mp hp
   have hn:=(mem_members.mp hn).1
   show (nums c (c.rules.getD n _)).length<=100
   rw[pU]
   have:=hf _ (.inr (List.getElem_mem hn))
   have e:c.rules.getD n ⟨[],[],⟨[],false⟩⟩=c.rules[n]:=by simp[hn]
   rw[e]
   omega
def SameT (H H':Hp):Prop:=∀b o,(∀ps,o≠.tbl ps)->H b=some o->H' b=some o
theorem SameT.of {H H':Hp}(s:Same H H'):SameT H H':=fun b o _ e=>s b o e
theorem SameT.trans {H H1 H2:Hp}(a:SameT H H1)(b:SameT H1 H2):SameT H H2:=fun c o n h=>b c o n (a c o n h)
theorem SameX.t {PT:Addr}{H H':Hp}{ps:Array Value}(s:SameX PT H H')(h:H PT=some (.tbl ps)):SameT H H':=fun b o n e=>s b o (fun z=>by rw[z,h]at e;cases e;exact n _ rfl) e
theorem NCls.st {C:Addr}{H H':Hp}{f:Mo.Case}{rows:List Mo.Row}{ps:List Addr}(x:NCls C H f rows ps)(s:SameT H H'):NCls C H' f rows ps:=⟨x.1,fun i p r a b=>by
 obtain⟨n,dx,bp,a,b⟩:=x.2 i p r a b
 exact⟨n,dx,bp,s _ _ (fun ps z=>by cases z) a,s _ _ (fun ps z=>by cases z) b⟩⟩
theorem CaseAt.st {A:Adr}{H H':Hp}{p:Addr}{f:Mo.Case}(D:CaseAt A H p f)(s:SameT H H'):CaseAt A H' p f:=by
 obtain⟨dx,aL,lL,rL,nL,oL,lps,rps,D⟩:=D
 exact⟨dx,aL,lL,rL,nL,oL,lps,rps,{ D with ob:=s _ _ (fun ps z=>by cases z) D.ob,at_:=s _ _ (fun ps z=>by cases z) D.at_,la:=s _ _ (fun ps z=>by cases z) D.la,ra:=s _ _ (fun ps z=>by cases z) D.ra,na:=s _ _ (fun ps z=>by cases z) D.na,oa:=s _ _ (fun ps z=>by cases z) D.oa,cl:=D.cl.st s,cr:=D.cr.st s }⟩
theorem StrAt.st {H H':Hp}{c:Mo.Case}{q:Addr}(h:StrAt H c q)(s:SameT H H'):StrAt H' c q:=by
 obtain⟨ps,h1,h2,h3⟩:=h
 exact⟨ps,s _ _ (fun ps z=>by cases z) h1,h2,fun i p e=>s _ _ (fun ps z=>by cases z) (h3 i p e)⟩
def cK (c:Mo.Case)(l g S:Nat):Bool:=Mo.within S g&&Mo.held (c.numbered.follows S) l
section
variable {P:Program}{w:World}{K:PySem.W.Frag}{mg:Str->Option Value}{base:Heap}{A:Adr}
def vb (A:Adr)(PS:Addr):Sp:=fun vs H Q _=>∃(p:Addr)(l:Nat)(fL:Addr)(g:Nat)(c:Mo.Case),vs=[.ref p,.int (l:Nat),.ref fL,.int (g:Nat)]/\CaseAt A H p c/\H fL=some (.lst (hE c))/\H PS=some (.tbl #[])/\
 ∀(q:Addr)(D:List Nat)(H':Hp),SameX PS H H'->H' q=some (.lst (D.map fun x=>V.int (x:Nat)))->D.Pairwise (cD (Mo.sizeOfSet c.rules.length))->(∀S,S∈D↔S<2^c.rules.length/\cK c l g S=true)->Q (.ref q) H'
theorem rX {cS PS:Addr} (T:Txt K mg A) (hcS:dk K mg "sets_for" cS) (hC:PySem.W.CodeHd base cS PS) (hB:ir mg base):Cal P w K mg base "sets_for" ["case","literal","following","ground"] 5 (vb A PS):=by
 have nd:=sc_sets_for.nd
 have C_is_within:=hV (P:=P) (w:=w) (base:=base) T
 have C_has_literal:=m7 (P:=P) (w:=w) (base:=base) T
 have C_members_of:=gu (P:=P) (w:=w) (base:=base) T
 refine T.d_sets_for.okC hcS sc_sets_for (fun vs H Q E h=>?_) (fun f A0 outer s H vs Q E hr h=>?_)
 ·obtain⟨p,l,fL,g,c,rfl,_⟩:=h
  rfl
 ·obtain⟨p,l,fL,g,c,rfl,DD,hfL,hPS,k⟩:=h
  have hu:=b9 hr
  have hr2:∀env:Env,Room 2 ((A0.deeper (envOfC "sets_for" (ai dU) s.heap.objs.size f (.ref cS))).in1.in1.deeper env):=fun env=>p5 (k:=2) hr env
  refine⟨_,(ag (ap (i:=4) nd rfl lc_ (cx ah)) (ag (bO PassesOwn.never rfl (eJ rfl T.b_enumerate (ab (pv 2) ah)) (iY rfl (bw (aw (i:=5) nd rfl lc_) (bw (aw (i:=6) nd rfl lc_) dO))) (aj (aV (PW.pt (eY (bE (ao C_is_within (hr.mono (by decide)) rfl (ab (pv 5) (ab (pv 3) ah)))) (eM (bE (ao C_has_literal (hr.mono (by decide)) rfl (ab (pv 6) (ab (pv 1) ah))))))) (aj (cN (eU PySem.F.plainAttrs_list PySem.F.slot_list_append PySem.F.type_list_append cR (pv 4) (ab (pv 5) ah)))) aF))) (aj (al (mD rfl hr (qz (N:=["case","literal","following","ground","found","rules","reached"]) (sc:=ai dU) (x:="one") (own:=[("case",0)]) (by decide +kernel)) rfl hC hB rfl T.b_sorted PyProof.Rows.boot_sorted (ab (pv 4) ah) (fun _ _ _ _ _ _=>(iV (ab (aI (qb K) rfl T.b_len PySem.boot_len (ab (ao C_members_of ((hr2 _).mono (by decide)) rfl (ab (pv 1) (ab (pv 0) ah))) ah)) (ab (pv 0) ah)))) (fun _ _ _ _ _ _ _=>rfl) rfl rfl rfl rfl))))),?_⟩
  have sl:200000<=sizeLine:=by decide
  have hn:c.rules.length<=10:=by
   obtain⟨dx,aL,lL,rL,nL,oL,lps,rps,D⟩:=id DD
   exact D.nu
  have hp10:=gQ hn
  refine⟨(by show 0<=sizeLine;omega),fun L hL=>?_⟩
  have s0:=ak (o:=.lst []) hL
  have flen:∀i,((List.range i).filter (cK c l g)).length<=i:=fun i=>by
   have:=List.length_filter_le (cK c l g) (List.range i)
   rw[List.length_range]at this
   exact this
  refine⟨_,rfl,fL,_,rfl,SqL.of (s0 _ _ hfL),jG (xs:=hE c) (fun i σ H2=>Same H H2/\H2 L=some (.lst (((List.range i).filter (cK c l g)).map fun x=>V.int (x:Nat)))/\∃v5 v6,σ=[some (.ref p),some (.int (l:Nat)),some (.ref fL),some (.int (g:Nat)),some (.ref L),v5,v6]) ?_ ?_ ?_ ?_⟩
  ·exact⟨s0,af,none,none,rfl⟩
  ·rintro i σ H2 _ ⟨s2,_⟩
   exact SqL.of (s2 _ _ hfL)
  ·rintro i x σ H2 Tp e ⟨s2,h2,v5,v6,rfl⟩ hT
   have hi:i<(hE c).length:=(List.getElem?_eq_some_iff.mp e).1
   rw[g5]at hi
   rw[sH hi]at e
   cases e
   have s3:=ak (o:=.tup [.int (i:Nat),V.int ((c.numbered.follows i:Nat):Int)]) hT
   have s03:=s2.trans s3
   have h3:=s3 _ _ h2
   have er:(List.range (i+1)).filter (cK c l g)=(List.range i).filter (cK c l g)++if cK c l g i=true then [i] else []:=by
    rw[List.range_succ,List.filter_append]
    congr 1
    rw[List.filter_cons]
    rfl
   have hfi:=flen i
   refine⟨_,rfl,_,rfl,i,g,rfl,_,rfl,?_⟩
   refine aW (fun hw=>?_) (fun hw=>?_)
   ·refine⟨_,rfl,_,rfl,c.numbered.follows i,l,rfl,_,rfl,?_⟩
    refine aW (fun hh=>?_) (fun hh=>?_)
    ·have hin:cK c l g i=true:=by unfold cK;rw[hw,hh];rfl
     refine⟨_,rfl,.inl ⟨rfl,_,SqL.of h3⟩,_,rfl,L,_,_,rfl,rfl,h3,(by rw[List.length_map];omega),aN s03 hL,?_,_,_,rfl⟩
     rw[af,er,if_pos hin,List.map_append]
     rfl
    ·refine⟨s03,?_,_,_,rfl⟩
     rw[er,if_neg (fun z=>hh (by unfold cK at z;rw[Bool.and_eq_true]at z;exact z.2)),List.append_nil]
     exact h3
   ·refine bX ⟨s03,?_,_,_,rfl⟩
    rw[er,if_neg (fun z=>hw (by unfold cK at z;rw[Bool.and_eq_true]at z;exact z.1)),List.append_nil]
    exact h3
  ·rintro σ H2 ⟨s2,h2,v5,v6,rfl⟩
   rw[g5]at h2
   generalize hF:(List.range (2^c.rules.length)).filter (cK c l g)=F at h2
   have hFl:F.length<=2^c.rules.length:=by rw[<-hF];exact flen _
   have hFn:F.Nodup:=by rw[<-hF];exact List.Pairwise.filter _ List.nodup_range
   have hPS2:=s2 _ _ hPS
   refine⟨_,rfl,ss ?_⟩
   refine⟨F.map fun x=>V.int (x:Nat),F.map fun x=>(((Mo.sizeOfSet c.rules.length x:Nat):Int),((x:Nat):Int)),⟨L,rfl,.inl h2⟩,by simp,(by rw[List.length_map];omega),hPS2,fun H3 hne hP3=>⟨fun i x kk ex ek H' sm=>?_,fun H' ys q o sm hq=>?_⟩⟩
   ·rw[List.getElem?_map]at ex ek
    obtain⟨z,ez,rfl⟩:=Option.map_eq_some_iff.mp ex
    rw[ez]at ek
    cases ek
    have st3:SameT H H':=fun b o no e=>sm _ _ (by
     rw[hne b (fun q=>by rw[q,hPS]at e;cases e;exact no _ rfl)]
     exact s2 _ _ e)
    refine⟨_,rfl,_,rfl,p,z,c,rfl,DD.st st3,fun mL H4 s4 hmL hmL4=>⟨mL,_,rfl,.inl (SqL.of hmL4),_,rfl,(by show 2<=sizeLine;omega),fun r hr=>⟨r,rfl,?_,s4.trans (ak hr)⟩⟩⟩
    rw[af,List.length_map]
    rfl
   ·obtain⟨D,rfl,hperm,hpw⟩:=nO hFn o
    refine k q D _ (fun b o nb e=>ak hq _ _ (sm _ _ (by rw[hne b nb];exact s2 _ _ e))) af hpw fun S=>?_
    rw[hperm.mem_iff,<-hF,List.mem_filter,List.mem_range]
end
section
variable {P:Program}{w:World}{K:PySem.W.Frag}{mg:Str->Option Value}{base:Heap}{A:Adr}
def rG (A:Adr)(PT:Addr):Sp:=fun vs H Q _=>∃(p:Addr)(S l n:Nat)(c:Mo.Case),vs=[.ref p,.int (S:Nat),.int (l:Nat)]/\CaseAt A H p c/\IsRN (aq c S) l n/\l<2*c.atoms.length/\H PT=some (.tbl #[])/\
 ∀(q:Addr)(ds:List Mo.Step)(H':Hp),SameX PT H H'->c.numbered.derive S l=some ds->(MoD.stepNums ds).length<=2000->H' q=some (.lst ((MoD.stepNums ds).map fun x=>V.int (x:Nat)))->Q (.ref q) H'
theorem o6 {cT PT:Addr} (T:Txt K mg A) (hcT:dk K mg "told_derivation" cT) (hC:PySem.W.CodeHd base cT PT) (hB:ir mg base):Cal P w K mg base "told_steps" ["case","rules","literal"] 6 (rG A PT):=by
 have nd:=sc_told_steps.nd
 have C_literal_rounds:=gx (P:=P) (w:=w) (base:=base) T
 have C_possible_steps:=k8 (P:=P) (w:=w) (base:=base) T
 have C_told_derivation:=ko (P:=P) (w:=w) (base:=base) T hcT hC hB
 refine T.d_told_steps.ok sc_told_steps (fun vs H Q E h=>?_) (fun f cdv A0 outer s H vs Q E hr h=>?_)
 ·obtain⟨p,S,l,n,c,rfl,_⟩:=h
  rfl
 ·obtain⟨p,S,l,n,c,rfl,hca,hn,hla,hPT,k⟩:=h
  have hu:=b9 hr
  refine⟨_,(ag (ap (i:=3) nd rfl lc_ (ao C_possible_steps (hr.mono (by decide)) rfl (ab (pv 0) (ab (pv 1) ah)))) (aj (al (ao C_told_derivation (hr.mono (by decide)) rfl (ab (pv 3) (ab (ao C_literal_rounds (hr.mono (by decide)) rfl (ab (pv 3) ah)) (ab (pv 2) ah))))))),?_⟩
  obtain⟨dx,aL,lL,rL,nL,oL,lps,rps,D⟩:=id hca
  have hpl:=ug (S:=S) D.nl D.nu
  refine⟨_,rfl,_,rfl,p,S,c,rfl,hca,fun q ps H2 s2 hq hq2 hst=>?_⟩
  refine⟨_,rfl,_,rfl,q,ps,_,rfl,SqL.of hq2,hst,(by rw[List.length_map];have:84<=LB:=(by decide);omega),fun d kvs H3 s3 hd hd3 rds hkl=>?_⟩
  exact⟨_,rfl,q,d,ps,c,S,kvs,l,n,rfl,SqL.of (s3 _ _ hq2),hst.same s3,(by omega),tZ D.nat D.few,hd3,rds,hn,hla,s3 _ _ (s2 _ _ hPT),fun r ds H5 s5 hds hdl hr5=>k r ds H5 (fun b o nb e=>s5 b o nb (s3 _ _ (s2 _ _ e))) hds hdl hr5⟩
def qR (A:Adr)(PS PT:Addr):Sp:=fun vs H Q _=>∃(p:Addr)(l:Nat)(c:Mo.Case),vs=[.ref p,.int (l:Nat)]/\CaseAt A H p c/\l<2*c.atoms.length/\H PS=some (.tbl #[])/\H PT=some (.tbl #[])/\PT≠PS/\
 (c.seen.reason l=none->∀H',Q .non H')/\∀(S:Nat)(rs:List Nat)(ds:List Mo.Step)(q:Addr)(H':Hp),c.seen.reason l=some (S,rs,ds)->(S :: (rs++MoD.stepNums ds)).length<=3000->H' q=some (.lst ((S :: (rs++MoD.stepNums ds)).map fun x=>V.int (x:Nat)))->Q (.ref q) H'
theorem ny {cS PS cT PT:Addr} (T:Txt K mg A) (hcS:dk K mg "sets_for" cS) (hCS:PySem.W.CodeHd base cS PS) (hcT:dk K mg "told_derivation" cT) (hCT:PySem.W.CodeHd base cT PT) (hB:ir mg base):Cal P w K mg base "told_reason" ["case","literal"] 7 (qR A PS PT):=by
 have nd:=sc_told_reason.nd
 have C_followers:=qt (P:=P) (w:=w) (base:=base) T
 have C_all_strikers:=l8 (P:=P) (w:=w) (base:=base) T
 have C_ground_of:=qc (P:=P) (w:=w) (base:=base) T
 have C_least_ranks:=iW (P:=P) (w:=w) (base:=base) T
 have C_rules_with_rank:=f9 (P:=P) (w:=w) (base:=base) T
 have C_sets_for:=rX (P:=P) (w:=w) (base:=base) T hcS hCS hB
 have C_told_steps:=o6 (P:=P) (w:=w) (base:=base) T hcT hCT hB
 refine T.d_told_reason.ok sc_told_reason (fun vs H Q E h=>?_) (fun f cdv A0 outer s H vs Q E hr h=>?_)
 ·obtain⟨p,l,c,rfl,_⟩:=h
  rfl
 ·obtain⟨p,l,c,rfl,DD,hla,hPS,hPT,hne,k1,k2⟩:=h
  have hu:=b9 hr
  refine⟨_,(ag (ap (i:=2) nd rfl lc_ (ao C_followers (hr.mono (by decide)) rfl (ab (pv 0) ah))) (ag (ap (i:=3) nd rfl lc_ (ao C_all_strikers (hr.mono (by decide)) rfl (ab (pv 0) (ab (pv 2) ah)))) (ag (bO PassesOwn.never rfl (be (ao C_sets_for (hr.mono (by decide)) rfl (ab (pv 0) (ab (pv 1) (ab (pv 2) (ab (ao C_ground_of (hr.mono (by decide)) rfl (ab (pv 3) ah)) ah)))))) (aw (i:=4) nd rfl lc_) (ag (ap (i:=5) nd rfl lc_ (ao C_least_ranks (hr.mono (by decide)) rfl (ab (pv 4) (ab (pv 3) ah)))) (aj (aV (aJ cM (ao C_rules_with_rank (hr.mono (by decide)) rfl (ab (pv 5) ah)) (pv 4) (aK _)) (aj (al (aO eT (aO eT (cx (ab (pv 4) ah)) (pv 5)) (ao C_told_steps (hr.mono (by decide)) rfl (ab (pv 0) (ab (pv 4) (ab (pv 1) ah))))))) aF)))) (aj (al dE))))),?_⟩
  have sl:200000<=sizeLine:=by decide
  have hn:c.rules.length<=10:=by
   obtain⟨dx,aL,lL,rL,nL,oL,lps,rps,D⟩:=id DD
   exact D.nu
  have hgr:c.seen.ground=cE c c.under (2^c.rules.length-1):=gi c c.under
  refine⟨_,rfl,p,c,rfl,DD,fun fL H1 s1 hfL hfL1=>?_⟩
  refine⟨_,rfl,_,rfl,p,fL,c,rfl,DD.same s1,hfL1,fun sL H2 s2 hsL=>?_⟩
  have s02:=s1.trans s2
  refine⟨_,rfl,_,rfl,_,rfl,_,rfl,sL,c,rfl,hn,hsL,fun H3 s3=>?_⟩
  have s03:=s02.trans s3
  refine⟨p,l,fL,c.seen.ground,c,rfl,DD.same s03,s3 _ _ (s2 _ _ hfL1),s03 _ _ hPS,fun q D H4 sx hq4 hpw hD=>?_⟩
  have hPS3:=s03 _ _ hPS
  have st4:SameT H3 H4:=sx.t hPS3
  have hPT4:H4 PT=some (.tbl #[]):=sx PT _ hne (s03 _ _ hPT)
  have DD4:CaseAt A H4 p c:=(DD.same s03).st st4
  have hs4:StrAt H4 c sL:=(hsL.same s3).st st4
  have hDl:D.length<=1024:=by
   have hp10:=gQ hn
   have hnd:D.Nodup:=hpw.imp fun {a b} h=>by
    unfold cD at h
    intro z
    rw[z]at h
    omega
   have:=cf (m:=List.range (2^c.rules.length)) hnd fun x hx=>List.mem_range.mpr ((hD x).mp hx).1
   rw[List.length_range]at this
   omega
  refine⟨q,rfl,⟨_,SqL.of hq4⟩,cz (aR (xs:=D.map fun x=>V.int (x:Nat))) (fun i σ H5=>Same H4 H5/\(∀T∈D.take i,cE c c.under T≠T)/\∃v4 v5,σ=[some (.ref p),some (.int (l:Nat)),some (.ref fL),some (.ref sL),v4,v5]) ?_ ?_ ?_ ?_⟩
  ·exact⟨Same.refl _,fun T hT=>by simp at hT,none,none,rfl⟩
  ·rintro i σ H5 _ ⟨s5,_⟩
   exact SqL.of (s5 _ _ hq4)
  ·rintro i x σ H5 hi e ⟨s5,hno,v4,v5,rfl⟩
   rw[List.getElem?_map]at e
   obtain⟨S,eS,rfl⟩:=Option.map_eq_some_iff.mp e
   have hSD:=(hD S).mp (List.mem_of_getElem? eS)
   have et:D.take (i+1)=D.take i++[S]:=by rw[List.take_add_one,eS];rfl
   refine⟨_,rfl,_,rfl,S,sL,c,rfl,hn,hs4.same s5,fun rs hrl hrk rL H6 s6 hrL hrL6=>?_⟩
   refine⟨_,rfl,rL,rs,rfl,hrL6,(by omega),fun H7 s7=>?_⟩
   rw[l5 hrl hrk]
   refine⟨_,rfl,rfl,_,rfl,?_⟩
   have ed:decide (V.int ((cE c c.under S:Nat):Int)=V.int (S:Nat))=decide (cE c c.under S=S):=by
    by_cases z:cE c c.under S=S
    ·rw[z];simp
    ·rw[decide_eq_false z,decide_eq_false fun y=>z (by have:=V.int.inj y;omega)]
   rw[ed]
   have s57:=s5.trans (s6.trans s7)
   by_cases hz:cE c c.under S=S
   ·rw[decide_eq_true hz]
    unfold cK at hSD
    rw[Bool.and_eq_true]at hSD
    obtain⟨hS1,hS2,hS3⟩:=hSD
    obtain⟨n,hn2⟩:=ph hS3
    rw[hgr]at hS2
    refine cw ⟨_,rfl,(by show 1<=sizeLine;omega),fun L1 hL1=>?_⟩
    have sL1:=ak (o:=.lst [V.int (S:Nat)]) hL1
    have hr8:=sL1 _ _ (s7 _ _ hrL6)
    refine⟨_,rfl,L1,rL,_,_,rfl,rfl,af,hr8,(by rw[List.length_map];show 1+_<=sizeLine;omega),fun L2 hL2=>?_⟩
    have sL2:=sL1.trans (ak (o:=.lst ([V.int (S:Nat)]++rs.map fun x=>V.int (x:Nat))) hL2)
    have hPT8:=sL2 _ _ (s57 _ _ hPT4)
    have hL2P:L2≠PT:=fun z=>by
     have:=sL1 _ _ (s57 _ _ hPT4)
     rw[<-z,hL2]at this
     cases this
    refine⟨_,rfl,_,rfl,_,rfl,p,S,l,n,c,rfl,(DD4.same s57).same sL2,hn2,hla,hPT8,fun r ds H9 s9 hds hdl hr9=>?_⟩
    have hL29:=s9 L2 _ hL2P af
    refine⟨L2,r,_,_,rfl,rfl,hL29,hr9,(by rw[List.length_append,List.length_map,List.length_map];show 1+_+_<=sizeLine;omega),fun q9 hq9=>?_⟩
    have hre:c.seen.reason l=some (S,rs,ds):=by
     refine rP (under:=c.under) hS1 hS2 hS3 hz (fun T hT1 hT2 hT3 hT4 hlt=>?_) hrl hrk hds
     have hTD:T∈D:=(hD T).mpr ⟨hT1,by unfold cK;rw[hgr,hT2,hT3];rfl⟩
     obtain⟨j,hj,ej⟩:=List.getElem_of_mem hTD
     have hi2:i<D.length:=(List.getElem?_eq_some_iff.mp eS).1
     have eS2:D[i]=S:=(List.getElem?_eq_some_iff.mp eS).2
     rcases Nat.lt_trichotomy j i with h|h|h
     ·refine hno T ?_ hT4
      rw[List.mem_take_iff_getElem]
      exact⟨j,by omega,ej⟩
     ·subst h
      rw[eS2]at ej
      subst ej
      unfold gB at hlt
      omega
     ·have:=(List.pairwise_iff_getElem.mp hpw) i j hi2 hj h
      rw[ej,eS2]at this
      unfold cD at this
      unfold gB at hlt
      omega
    refine k2 S rs ds q9 _ hre ?_ ?_
    ·rw[List.length_cons,List.length_append]
     omega
    ·rw[af,List.map_cons,List.map_append]
     rfl
   ·rw[decide_eq_false hz]
    refine bX ⟨s57,fun T hT=>?_,_,_,rfl⟩
    rw[et]at hT
    rcases List.mem_append.mp hT with h|h
    ·exact hno T h
    ·have:T=S:=by simpa using h
     rw[this]
     exact hz
  ·rintro σ H5 ⟨s5,hno,v4,v5,rfl⟩
   rw[List.length_map,List.take_of_length_le (Nat.le_refl _)]at hno
   refine k1 (rc (under:=c.under) fun S h1 h2 h3=>hno S ((hD S).mpr ⟨h1,by unfold cK;rw[hgr,h2,h3];rfl⟩)) H5
end
theorem wQ {t:B}{c:Mo.Case}(h:Mo.caseIn t=.ok c):cQ t=some c:=by unfold cQ;rw[h]
theorem uW {t:B}{f:Mo.Fault}(h:Mo.caseIn t=.error f):cQ t=none:=by unfold cQ;rw[h]
section
variable {P:Program}{w:World}{K:PySem.W.Frag}{mg:Str->Option Value}{base:Heap}{A:Adr}
def lI (PS PT:Addr)(K:PySem.W.Frag):Sp:=fun vs H Q _=>∃(l:Nat)(a:Addr)(t:B),vs=[.int (l:Nat),.ref a]/\SqL K H a (t.map fun c=>.int (c:Nat))/\t.length<=LB/\H PS=some (.tbl #[])/\H PT=some (.tbl #[])/\
 ∀p H',H' p=some (.lst ((PyWqalbt.reason l (t.map fun c:Nat=>(c:Int))).map V.int))->Q (.ref p) H'
theorem uA {cS PS cT PT:Addr} (T:Txt K mg A) (hcS:dk K mg "sets_for" cS) (hCS:PySem.W.CodeHd base cS PS) (hcT:dk K mg "told_derivation" cT) (hCT:PySem.W.CodeHd base cT PT) (hB:ir mg base) (hPP:PT≠PS):Cal P w K mg base "reason" ["literal","t"] 8 (lI PS PT K):=by
 have nd:=sc_reason.nd
 have C_read_case:=qw (P:=P) (w:=w) (base:=base) T
 have C_literal_refusal:=kl (P:=P) (w:=w) (base:=base) T
 have C_told_reason:=ny (P:=P) (w:=w) (base:=base) T hcS hCS hcT hCT hB
 refine T.d_reason.ok sc_reason (fun vs H Q E h=>?_) (fun f cdv A0 outer s H vs Q E hr h=>?_)
 ·obtain⟨l,a,t,rfl,_⟩:=h
  rfl
 ·obtain⟨l,a,t,rfl,hS,hl,hPS,hPT,k⟩:=h
  refine⟨_,(ag (ap (i:=2) nd rfl lc_ (ao C_read_case (hr.mono (by decide)) rfl (ab (pv 1) ah))) (ag (ap (i:=3) nd rfl lc_ (ao C_literal_refusal (hr.mono (by decide)) rfl (ab (pv 0) (ab (pv 1) (ab (pv 2) ah))))) (ag (aV (aJ eh (pv 3) (aQ rfl T.c_TAKEN) (aK _)) (aj (al (cx (ab (pv 3) ah)))) aF) (ag (ap (i:=4) nd rfl lc_ (ao C_told_reason (hr.mono (by decide)) rfl (ab (pv 2) (ab (pv 0) ah)))) (ag (aV (cH (jd (pv 4))) (aj (al (cx (ab (aQ rfl T.c_NONE_THERE) ah)))) aF) (aj (al (aO eT (cx (ab (aQ rfl T.c_TAKEN) ah)) (pv 4))))))))),?_⟩
  rw[tQ]at k
  have sl:200000<=sizeLine:=by decide
  have hbd:∀f:Mo.Case,¬l<2*f.atoms.length->MoD.lit_ f.seen l=false:=fun f h=>decide_eq_false h
  refine⟨_,rfl,a,t,rfl,hS,hl,fun fl hfl H1 s1=>?_,fun c hc cp H1 s1 hcp hca=>?_⟩
  ·have ho:=uW hfl
   have hne:dY l t none≠0:=fun z=>by obtain⟨_,f,e,_⟩:=oO z;cases e
   refine⟨_,rfl,_,rfl,_,rfl,l,a,t,.non,none,rfl,s1.seq hS,rfl,?_⟩
   refine⟨_,rfl,rfl,_,rfl,?_⟩
   have hz:(!decide (V.int (dY l t none)=V.int 0))=true:=by
    rw[Bool.not_eq_true',decide_eq_false]
    exact fun z=>hne (V.int.inj z)
   rw[hz]
   refine cw ⟨_,rfl,(by show 1<=sizeLine;omega),fun p hp=>k p _ ?_⟩
   rw[af]
   have:=u4 (l:=l) (t:=t) (b:=fun s=>MoD.lit_ s l) (g:=fun s=>match s.reason l with|some x=>.told (x.1 :: (x.2.1++MoD.stepNums x.2.2))|none=>.refused 3) (by rw[ho];exact hne) (fun f _ h=>hbd f h)
   rw[show MoDNeutral.shown (MoD.answer (.reason l t))=_ from this,ho]
   rfl
  ·have ho:=wQ hc
   refine⟨_,rfl,_,rfl,_,rfl,l,a,t,.ref cp,some c,rfl,s1.seq hS,⟨cp,rfl,hca⟩,?_⟩
   refine⟨_,rfl,rfl,_,rfl,?_⟩
   by_cases hz:dY l t (some c)=0
   ·have hbz:(!decide (V.int (dY l t (some c))=V.int 0))=false:=by rw[hz];rfl
    rw[hbz]
    refine bX ?_
    obtain⟨f,e1,e2,e4⟩:=Ai (l:=l) (t:=t) (b:=fun s=>MoD.lit_ s l) (g:=fun s=>match s.reason l with|some x=>.told (x.1 :: (x.2.1++MoD.stepNums x.2.2))|none=>.refused 3) (by rw[ho];exact hz) (fun f _ h=>decide_eq_true h)
    rw[ho]at e1
    cases e1
    rw[show MoDNeutral.shown (MoD.answer (.reason l t))=_ from e4]at k
    refine⟨_,rfl,_,rfl,cp,l,c,rfl,hca,e2,s1 _ _ hPS,s1 _ _ hPT,hPP,fun hre H2=>?_,fun S rs ds q H2 hre hrl hq2=>?_⟩
    ·simp only[hre]at k
     refine⟨_,rfl,_,rfl,cw ⟨(by show 1<=sizeLine;omega),fun p hp=>k p _ ?_⟩⟩
     rw[af]
     rfl
    ·simp only[hre]at k
     refine⟨_,rfl,_,rfl,bX ⟨(by show 1<=sizeLine;omega),fun L1 hL1=>⟨_,rfl,L1,q,_,_,rfl,rfl,af,ak hL1 _ _ hq2,(by rw[List.length_map];show 1+_<=sizeLine;omega),fun p hp=>k p _ ?_⟩⟩⟩
     rw[af]
     show some (HO.lst (V.int 0 :: ((S :: (rs++MoD.stepNums ds)).map fun x=>V.int (x:Nat))))=some (HO.lst (V.int 0 :: (((S :: (rs++MoD.stepNums ds)).map fun x=>((x:Nat):Int)).map V.int)))
     rw[List.map_map]
     rfl
   ·have hbz:(!decide (V.int (dY l t (some c))=V.int 0))=true:=by
     rw[Bool.not_eq_true',decide_eq_false]
     exact fun z=>hz (V.int.inj z)
    rw[hbz]
    refine cw ⟨_,rfl,(by show 1<=sizeLine;omega),fun p hp=>k p _ ?_⟩
    rw[af]
    have:=u4 (l:=l) (t:=t) (b:=fun s=>MoD.lit_ s l) (g:=fun s=>match s.reason l with|some x=>.told (x.1 :: (x.2.1++MoD.stepNums x.2.2))|none=>.refused 3) (by rw[ho];exact hz) (fun f _ h=>hbd f h)
    rw[show MoDNeutral.shown (MoD.answer (.reason l t))=_ from this,ho]
    rfl
end
open PySem.W in
theorem wz:PySem.Challenge.rw_reasonhall_s05_reason.wellSaid=true:=by decide +kernel
theorem rM (a:PySem.W.Codec.denoteAll PySem.Challenge.rw_reasonhall_s05_reason.args)(h:PySem.W.Codec.withinAll PySem.Challenge.rw_reasonhall_s05_reason.args a=true)(ha:PySem.W.Codec.app PySem.Challenge.rw_reasonhall_s05_reason.args PySem.Challenge.rw_reasonhall_s05_reason.asked a=true):∃(ks:List AK)(ans:List Int),PySem.W.Codec.encAll PySem.Challenge.rw_reasonhall_s05_reason.args a=ks.map AK.w/\ks.length=2/\(∀ns,AK.l ns∈ks->ns.length<=sizeLine)/\
   PySem.Challenge.rw_reasonhall_s05_reason.ret.enc (PySem.W.Codec.app PySem.Challenge.rw_reasonhall_s05_reason.args PySem.Challenge.rw_reasonhall_s05_reason.f a)=.list (ans.map .int)/\∀(pt:Str->Addr)(K:PySem.W.Frag)(xs:List V)(H:Hp),Args (t8 K H) ks xs->(∀x∈(["sets_for","told_derivation"]:List Str),H (pt x)=some (.tbl #[]))->lI (pt "sets_for") (pt "told_derivation") K xs H (fun v H'=>∃p,v=.ref p/\H' p=some (.lst (ans.map V.int))) E0:=by
 obtain⟨a0,a1,⟨⟩⟩:=a
 have h0:=(Bool.and_eq_true_iff.mp h)
 have b0:=PySem.W.Codec.inInt_iff.mp h0.1
 have b0:(0:Int)<=a0/\a0<=4294967295:=b0
 obtain⟨n0,rfl⟩:=Int.eq_ofNat_of_zero_le b0.1
 have h1:=(Bool.and_eq_true_iff.mp h0.2)
 have l1:=Bool.and_eq_true_iff.mp h1.1
 have m1:=(PySem.W.Codec.inNat_iff.mp l1.1).2
 have p1:∀x∈a1,(0:Int)<=x:=fun x hx=>(PySem.W.Codec.inInt_iff.mp (List.all_eq_true.mp l1.2 x hx)).1
 obtain⟨n1,rfl⟩:=pZ p1
 rw[List.length_map]at m1
 refine⟨[.i (n0:Nat),.l (n1.map fun c:Nat=>(c:Int))],PyWqalbt.reason (n0:Nat) (n1.map fun c:Nat=>(c:Int)),rfl,rfl,fun ns hns=>?_,?_,fun pt K xs H hx hT=>?_⟩
 ·simp only[List.mem_cons,List.not_mem_nil,or_false,AK.l.injEq,reduceCtorEq,false_or]at hns
  have sl:8300<=sizeLine:=by decide
  subst hns;rw[List.length_map];exact Nat.le_trans m1 (by omega)
 ·show PySem.W.WData.list _=_
  rfl
 ·rcases hx with _|⟨x0,_|⟨x1,_|_⟩⟩
  have x0:_=V.int _:=x0
  subst x0
  obtain⟨q1,rfl,x1⟩:=x1
  rw[List.map_map]at x1
  exact⟨n0,q1,n1,rfl,x1,Nat.le_trans m1 (by first|exact Nat.le_refl _|decide),hT "sets_for" (by simp),hT "told_derivation" (by simp),fun p H' hp=>⟨p,rfl,hp⟩⟩
end My
def PySem.W.Fast.tw10131959221973675072:Unit:=()
def PySem.W.Fast.tw9559490719712042790:Unit:=()
def PySem.W.Fast.tw2969185723075098075:Unit:=()
def PySem.W.Fast.tw15028556226059960893:Unit:=()
def PySem.W.Fast.tw17867400045314254853:Unit:=()
def PySem.W.Fast.tw86880034660494187:Unit:=()
def PySem.W.Fast.tw17231423635612275580:Unit:=()
def PySem.W.Fast.tw18155579297229888746:Unit:=()
def PySem.W.Fast.tw15623521272820787553:Unit:=()
def PySem.W.Fast.tw14898020703350071556:Unit:=()
def PySem.W.Fast.tw3410513958917157736:Unit:=()
def PySem.W.Fast.tw16577881064834582896:Unit:=()
def PySem.W.Fast.tw4932214774289734979:Unit:=()
def PySem.W.Fast.tw5476403665666577121:Unit:=()
def PySem.W.Fast.tw2706408223554007633:Unit:=()
def PySem.W.Fast.tw1278485700606233165:Unit:=()
def PySem.W.Fast.tw5272915667404502488:Unit:=()
def PySem.W.Fast.tw4797401081604162715:Unit:=()
def PySem.W.Fast.tw4709856697222708009:Unit:=()
def PySem.W.Fast.tw18370680272215326390:Unit:=()
def PySem.W.Fast.tw9993538600341984428:Unit:=()
def PySem.W.Fast.tw15490595941758556469:Unit:=()
def PySem.W.Fast.tw12235832950810884590:Unit:=()
def PySem.W.Fast.tw4717778499358416797:Unit:=()
def PySem.W.Fast.tw11596952628438686937:Unit:=()
def PySem.W.Fast.tw11734451565336322957:Unit:=()
def PySem.W.Fast.tw3742767580619177393:Unit:=()
def PySem.W.Fast.tw2732209284451719760:Unit:=()
def PySem.W.Fast.tw6522365436804350164:Unit:=()
def PySem.W.Fast.tw680021318056141256:Unit:=()
def PySem.W.Fast.tw848407304613209486:Unit:=()
def PySem.W.Fast.tw3559271403110006616:Unit:=()
def PySem.W.Fast.tw16343509229781349771:Unit:=()
def PySem.W.Fast.tw17063539748949213520:Unit:=()
def PySem.W.Fast.tw16938036248341077195:Unit:=()
def PySem.W.Fast.tw7706330955030455911:Unit:=()
def PySem.W.Fast.tw1148400074199013806:Unit:=()
def PySem.W.Fast.tw7243891150116476711:Unit:=()
def PySem.W.Fast.tw9233975179550966026:Unit:=()
def PySem.W.Fast.tw7268881486220949946:Unit:=()
def PySem.W.Fast.tw9007591908240953762:Unit:=()
def PySem.W.Fast.tw11747174761976079519:Unit:=()
def PySem.W.Fast.tw1921844241461037841:Unit:=()
def PySem.W.Fast.tw6760791369420175282:Unit:=()
def PySem.W.Fast.tw4589108775059982650:Unit:=()
def PySem.W.Fast.tw2870146938550114642:Unit:=()
def PySem.W.Fast.tw17897752909968403975:Unit:=()
def PySem.W.Fast.tw15959905234211090885:Unit:=()
def PySem.W.Fast.tw4134520725764994162:Unit:=()
def PySem.W.Fast.tw7714080211662336195:Unit:=()
def PySem.W.Fast.tw14507047215306308123:Unit:=()
def PySem.W.Fast.tw16853714497988650467:Unit:=()
def PySem.W.Fast.tw16858723672161735:Unit:=()
def PySem.W.Fast.tw11914144301635950767:Unit:=()
def PySem.W.Fast.tw18381793950321536999:Unit:=()
def PySem.W.Fast.tw10651766505008706829:Unit:=()
def PySem.W.Fast.tw10673584936055088362:Unit:=()
def PySem.W.Fast.tw152553948967008995:Unit:=()
def PySem.W.Fast.tw6208510890540245440:Unit:=()
def PySem.W.Fast.tw17677876416924774521:Unit:=()
def PySem.W.Fast.tw7614404380018816195:Unit:=()
def PySem.W.Fast.tw7630678015891816870:Unit:=()
def PySem.W.Fast.tw2018488892805288055:Unit:=()
def PySem.W.Fast.tw13793311145308542604:Unit:=()
def PySem.W.Fast.tw6462148026484567602:Unit:=()
def PySem.W.Fast.tw2667387147198213651:Unit:=()
def PySem.W.Fast.tw381253511654944313:Unit:=()
def PySem.W.Fast.tw12578603100748362028:Unit:=()
def PySem.W.Fast.tw11886783488149168207:Unit:=()
def PySem.W.Fast.tw8446371344120774515:Unit:=()
def PySem.W.Fast.tw12031163607371480343:Unit:=()
def PySem.W.Fast.tw16566432992657254369:Unit:=()
def PySem.W.Fast.tw17536141792559257146:Unit:=()
def PySem.W.Fast.tw13812055164487821104:Unit:=()
def PySem.W.Fast.tw15282993912829902332:Unit:=()
def PySem.W.Fast.tw1748585207122523416:Unit:=()
def PySem.W.Fast.tw5804075357226505983:Unit:=()
def PySem.W.Fast.tw2124913689115665392:Unit:=()
def PySem.W.Fast.tw13115647453829310394:Unit:=()
def PySem.W.Fast.tw9496430642924796486:Unit:=()
def PySem.W.Fast.tw17291109868295399238:Unit:=()
def PySem.W.Fast.tw398546695430103321:Unit:=()
def PySem.W.Fast.tw12527858612815589189:Unit:=()
def PySem.W.Fast.tw17456384915265291539:Unit:=()
def PySem.W.Fast.tw5071823193328474227:Unit:=()
def PySem.W.Fast.tw14621282678959916240:Unit:=()
def PySem.W.Fast.tw2714727452544132512:Unit:=()
def PySem.W.Fast.tw18115447363868867355:Unit:=()
def PySem.W.Fast.tw12136010960270769987:Unit:=()
def PySem.W.Fast.tw6543161499866112379:Unit:=()
def PySem.W.Fast.tw2864238623754970696:Unit:=()
def PySem.W.Fast.tw810287999144751486:Unit:=()
def PySem.W.Fast.tw18104052743672815643:Unit:=()
def PySem.W.Fast.tw1230263944620407810:Unit:=()
def PySem.W.Fast.tw1107361690835525482:Unit:=()
def PySem.W.Fast.tw6967887872281938931:Unit:=()
def PySem.W.Fast.tw7902990536831519394:Unit:=()
def PySem.W.Fast.tw12310085838982788574:Unit:=()
def PySem.W.Fast.tw948298742568114459:Unit:=()
def PySem.W.Fast.tw3591123048540379232:Unit:=()
def PySem.W.Fast.tw8663531260424624876:Unit:=()
def PySem.W.Fast.tw9977511808933057612:Unit:=()
def PySem.W.Fast.tw9508176149894228263:Unit:=()
def PySem.W.Fast.tw620849909386175123:Unit:=()
def PySem.W.Fast.tw3167908495334302135:Unit:=()
def PySem.W.Fast.tw7119537518670708729:Unit:=()
def PySem.W.Fast.tw3912364344638467710:Unit:=()
def PySem.W.Fast.tw11140421402329685686:Unit:=()
def PySem.W.Fast.tw1861698133764731282:Unit:=()
def PySem.W.Fast.tw15629068747092825007:Unit:=()
def PySem.W.Fast.tw13668814669505702031:Unit:=()
def PySem.W.Fast.tw18293199478147427586:Unit:=()
def PySem.W.Fast.tw18080017444586350480:Unit:=()
def PySem.W.Fast.tw2320408760965530162:Unit:=()
def PySem.W.Fast.tw7697726393698432355:Unit:=()
def PySem.W.Fast.tw10025857332697789815:Unit:=()
def PySem.W.Fast.tw10638353198792470535:Unit:=()
def PySem.W.Fast.tw7185043961865712565:Unit:=()
def PySem.W.Fast.tw14108269911572842823:Unit:=()
def PySem.W.Fast.tw16352427611999714959:Unit:=()
def PySem.W.Fast.tw9112587917269851687:Unit:=()
def PySem.W.Fast.tw865348930532251061:Unit:=()
def PySem.W.Fast.tw9526222597353446916:Unit:=()
def PySem.W.Fast.tw6189111267204992279:Unit:=()
def PySem.W.Fast.tw7376604567736969478:Unit:=()
def PySem.W.Fast.tw11568224803564077330:Unit:=()
def PySem.W.Fast.tw3691189664266358290:Unit:=()
def PySem.W.Fast.tw8105972370772633336:Unit:=()
def PySem.W.Fast.tw11096260844353841683:Unit:=()
def PySem.W.Fast.tw11371224768895268219:Unit:=()
def PySem.W.Fast.tw3315635991624926244:Unit:=()
def PySem.W.Fast.tw1262375408591964389:Unit:=()
def PySem.W.Fast.tw1166715859754714673:Unit:=()
def PySem.W.Fast.tw8178799088947594453:Unit:=()
def PySem.W.Fast.tw4068873283406578288:Unit:=()
def PySem.W.Fast.tw7001340379208104820:Unit:=()
def PySem.W.Fast.tw13617856387469646606:Unit:=()
def PySem.W.Fast.tw226092929018719758:Unit:=()
def PySem.W.Fast.tw18007510572613851988:Unit:=()
def PySem.W.Fast.tw9400481368412364048:Unit:=()
def PySem.W.Fast.tw4896977683159262798:Unit:=()
def PySem.W.Fast.tw13462472344584069061:Unit:=()
def PySem.W.Fast.tw12654714690395277681:Unit:=()
def PySem.W.Fast.tw11022030143027032774:Unit:=()
def PySem.W.Fast.tw11833130840688875205:Unit:=()
def PySem.W.Fast.tw3448918132793731260:Unit:=()
def PySem.W.Fast.tw7190136010346503658:Unit:=()
def PySem.W.Fast.tw5042387175868639835:Unit:=()
def PySem.W.Fast.tw13617128555495885708:Unit:=()
def PySem.W.Fast.tw14799793650613118316:Unit:=()
def PySem.W.Fast.tw11263078721810479507:Unit:=()
def PySem.W.Fast.tw8323419627946884099:Unit:=()
def PySem.W.Fast.tw5472234201821827637:Unit:=()
def PySem.W.Fast.tw14303737315520889955:Unit:=()
def PySem.W.Fast.tw12575240814500457136:Unit:=()
def PySem.W.Fast.tw3446046228486891148:Unit:=()
def PySem.W.Fast.tw16267083462065396081:Unit:=()
def PySem.W.Fast.tw1567129564628344295:Unit:=()
def PySem.W.Fast.tw255765750327384373:Unit:=()
def PySem.W.Fast.tw1794513541971393363:Unit:=()
def PySem.W.Fast.tw9267081869340465453:Unit:=()
def PySem.W.Fast.tw12434604546105340939:Unit:=()
def PySem.W.Fast.tw5922875992586284780:Unit:=()
def PySem.W.Fast.tw602304077164715126:Unit:=()
def PySem.W.Fast.tw14754464311668550679:Unit:=()
def PySem.W.Fast.tw2194911256379671543:Unit:=()
def PySem.W.Fast.tw10022818215400425717:Unit:=()
def PySem.W.Fast.tw6040354843758328723:Unit:=()
def PySem.W.Fast.tw5303490747466357918:Unit:=()
def PySem.W.Fast.tw12910145525805209524:Unit:=()
def PySem.W.Fast.tw18388666167907160990:Unit:=()
def PySem.W.Fast.tw5432746618247832781:Unit:=()
def PySem.W.Fast.tw4259804465950934865:Unit:=()
def PySem.W.Fast.tw2443219176685465404:Unit:=()
def PySem.W.Fast.tw16596614522814354636:Unit:=()
def PySem.W.Fast.tw5760805217860987596:Unit:=()
def PySem.W.Fast.tw4770192324094807113:Unit:=()
def PySem.W.Fast.tw9863225806562969114:Unit:=()
def PySem.W.Fast.tw6237486166840332437:Unit:=()
def PySem.W.Fast.tw14885013216948244300:Unit:=()
def PySem.W.Fast.tw2782014298481023954:Unit:=()
def PySem.W.Fast.tw15853676589725722545:Unit:=()
def PySem.W.Fast.tw7453380642334633513:Unit:=()
def PySem.W.Fast.tw6900614352880826382:Unit:=()
def PySem.W.Fast.tw8880919459881107314:Unit:=()
def PySem.W.Fast.tw13544954301255421811:Unit:=()
def PySem.W.Fast.tw15639437679720267753:Unit:=()
def PySem.W.Fast.tw17772435531036988644:Unit:=()
def PySem.W.Fast.tw16273836724384551986:Unit:=()
def PySem.W.Fast.tw3661452387511954577:Unit:=()
def PySem.W.Fast.tw16540412502888341325:Unit:=()
def PySem.W.Fast.tw9538718557111645680:Unit:=()
def PySem.W.Fast.tw5085397581881181894:Unit:=()
def PySem.W.Fast.tw9353061387338951175:Unit:=()
def PySem.W.Fast.tw16609759230579341452:Unit:=()
def PySem.W.Fast.tw5221349307439701331:Unit:=()
def PySem.W.Fast.tw9773100477594773311:Unit:=()
def PySem.W.Fast.tw13153303750182584884:Unit:=()
def PySem.W.Fast.tw7513564580212611743:Unit:=()
def PySem.W.Fast.tw15446342236732085426:Unit:=()
def PySem.W.Fast.tw17956866468205854280:Unit:=()
def PySem.W.Fast.tw3876476498955984751:Unit:=()
def PySem.W.Fast.tw4331997512096454622:Unit:=()
def PySem.W.Fast.tw1344738725256978720:Unit:=()
def PySem.W.Fast.tw17778942611703347218:Unit:=()
def PySem.W.Fast.tw14725389610348088142:Unit:=()
def PySem.W.Fast.tw763850288989694273:Unit:=()
def PySem.W.Fast.tw1593592820225223012:Unit:=()
def PySem.W.Fast.tw9012955399900535878:Unit:=()
def PySem.W.Fast.tw17055418672943512663:Unit:=()
def PySem.W.Fast.tw5218234232980316357:Unit:=()
def PySem.W.Fast.tw3608023176744521381:Unit:=()
def PySem.W.Fast.tw8457390249280662427:Unit:=()
def PySem.W.Fast.tw9379772333015787156:Unit:=()
def PySem.W.Fast.tw7693861007762471358:Unit:=()
def PySem.W.Fast.tw1904264502799302875:Unit:=()
def PySem.W.Fast.tw13853536807115873415:Unit:=()
def PySem.W.Fast.tw13921821697190757115:Unit:=()
def PySem.W.Fast.tw14869447276224942544:Unit:=()
def PySem.W.Fast.tw14814301255948709568:Unit:=()
def PySem.W.Fast.tw18371279463165578947:Unit:=()
def PySem.W.Fast.tw16786095061050631543:Unit:=()
def PySem.W.Fast.tw3655716363703428382:Unit:=()
def PySem.W.Fast.tw13653973060182088240:Unit:=()
def PySem.W.Fast.tw3571086997820206229:Unit:=()
def PySem.W.Fast.tw4114464139120814485:Unit:=()
def PySem.W.Fast.tw15095932920709139794:Unit:=()
def PySem.W.Fast.tw12400451210997785722:Unit:=()
open PySem PySem.W PyProof.Rows
set_option maxRecDepth 100000 in
set_option maxHeartbeats 0 in
theorem PySem.Challenge.cw_reasonhall_s05_reason_holds : PySem.Challenge.rw_reasonhall_s05_reason.Holds := by
 w_on;k_headS;(case hw=>exact⟨[.int 0,.list []],by decide +kernel,by decide +kernel⟩)
 k_fillS
 refine My.tj (ns:=["sets_for","told_derivation"]) (k:=8) (ps:=["literal","t"]) (sp:=fun pt K=>My.lI (pt "sets_for") (pt "told_derivation") K) My.wz rfl ⟨rfl,by decide,by decide⟩ (fun w h Y=>PySem.W.kIn_of Y) ?ntab ?rcs ?F My.rM
 case ntab=>intro w;kernel_rfl
 case rcs=>decide +kernel
 case F=>
  intro w mg fa h KX G hmg base kb nb ct pt TB
  have c_Clause:∃C,(L2.Cls (L2.KOf KX) C/\My.ClassAt (L2.KOf KX) mg "Clause" My.lR C ["self","name","body","head"])/\L2.NoAttr (L2.KOf KX) C "name"/\L2.NoAttr (L2.KOf KX) C "body"/\L2.NoAttr (L2.KOf KX) C "head":=by
   dsimp only[L2.KOf,L2.NoAttr]
   refine' ⟨_,My.kC (qual:="Clause.__init__") KX G ?z0q ?z0aC ?z0a ?z0i ?z0l ?z0c ?z0k ?z0pg ?z0hd ?z0po ?z0sa ?z0mk ?z0kc ?z0b,?z0n0,?z0n1,?z0n2⟩
   (case z0q=>decide +kernel);(case z0aC=>k_is);(case z0a=>k_is);(case z0i=>k_is);(case z0l=>k_is);(case z0c=>k_is);(case z0k=>k_is);(case z0pg=>k_is);(case z0hd=>k_is);(case z0po=>k_is);(case z0sa=>k_is);(case z0mk=>k_is);(case z0kc=>k_is)
   (case z0b=>exact fun _ _ _ _ _ _ us hl=>match us,hl with|[_,_,_,_],_=>rfl)
   (case z0n0=>k_is)
   (case z0n1=>k_is)
   (case z0n2=>k_is)
  obtain⟨C_Clause,⟨cl_Clause,ca_Clause⟩,n_Clause_name,n_Clause_body,n_Clause_head⟩:=c_Clause
  have c_Weight:∃C,(L2.Cls (L2.KOf KX) C/\My.ClassAt (L2.KOf KX) mg "Weight" My.lT C ["self","heavier","lighter"])/\L2.NoAttr (L2.KOf KX) C "heavier"/\L2.NoAttr (L2.KOf KX) C "lighter":=by
   dsimp only[L2.KOf,L2.NoAttr]
   refine' ⟨_,My.kC (qual:="Weight.__init__") KX G ?z1q ?z1aC ?z1a ?z1i ?z1l ?z1c ?z1k ?z1pg ?z1hd ?z1po ?z1sa ?z1mk ?z1kc ?z1b,?z1n0,?z1n1⟩
   (case z1q=>decide +kernel);(case z1aC=>k_is);(case z1a=>k_is);(case z1i=>k_is);(case z1l=>k_is);(case z1c=>k_is);(case z1k=>k_is);(case z1pg=>k_is);(case z1hd=>k_is);(case z1po=>k_is);(case z1sa=>k_is);(case z1mk=>k_is);(case z1kc=>k_is)
   (case z1b=>exact fun _ _ _ _ _ _ us hl=>match us,hl with|[_,_,_],_=>rfl)
   (case z1n0=>k_is)
   (case z1n1=>k_is)
  obtain⟨C_Weight,⟨cl_Weight,ca_Weight⟩,n_Weight_heavier,n_Weight_lighter⟩:=c_Weight
  have c_Step:∃C,(L2.Cls (L2.KOf KX) C/\My.ClassAt (L2.KOf KX) mg "Step" My.pX C ["self","kind","number","body","literal"])/\L2.NoAttr (L2.KOf KX) C "kind"/\L2.NoAttr (L2.KOf KX) C "number"/\L2.NoAttr (L2.KOf KX) C "body"/\L2.NoAttr (L2.KOf KX) C "literal":=by
   dsimp only[L2.KOf,L2.NoAttr]
   refine' ⟨_,My.kC (qual:="Step.__init__") KX G ?z2q ?z2aC ?z2a ?z2i ?z2l ?z2c ?z2k ?z2pg ?z2hd ?z2po ?z2sa ?z2mk ?z2kc ?z2b,?z2n0,?z2n1,?z2n2,?z2n3⟩
   (case z2q=>decide +kernel);(case z2aC=>k_is);(case z2a=>k_is);(case z2i=>k_is);(case z2l=>k_is);(case z2c=>k_is);(case z2k=>k_is);(case z2pg=>k_is);(case z2hd=>k_is);(case z2po=>k_is);(case z2sa=>k_is);(case z2mk=>k_is);(case z2kc=>k_is)
   (case z2b=>exact fun _ _ _ _ _ _ us hl=>match us,hl with|[_,_,_,_,_],_=>rfl)
   (case z2n0=>k_is)
   (case z2n1=>k_is)
   (case z2n2=>k_is)
   (case z2n3=>k_is)
  obtain⟨C_Step,⟨cl_Step,ca_Step⟩,n_Step_kind,n_Step_number,n_Step_body,n_Step_literal⟩:=c_Step
  have c_Draft:∃C,(L2.Cls (L2.KOf KX) C/\My.ClassAt (L2.KOf KX) mg "Draft" My.nv C ["self"])/\L2.NoAttr (L2.KOf KX) C "laws"/\L2.NoAttr (L2.KOf KX) C "rules"/\L2.NoAttr (L2.KOf KX) C "atoms"/\L2.NoAttr (L2.KOf KX) C "outweighed":=by
   dsimp only[L2.KOf,L2.NoAttr]
   refine' ⟨_,My.kC (qual:="Draft.__init__") KX G ?z3q ?z3aC ?z3a ?z3i ?z3l ?z3c ?z3k ?z3pg ?z3hd ?z3po ?z3sa ?z3mk ?z3kc ?z3b,?z3n0,?z3n1,?z3n2,?z3n3⟩
   (case z3q=>decide +kernel);(case z3aC=>k_is);(case z3a=>k_is);(case z3i=>k_is);(case z3l=>k_is);(case z3c=>k_is);(case z3k=>k_is);(case z3pg=>k_is);(case z3hd=>k_is);(case z3po=>k_is);(case z3sa=>k_is);(case z3mk=>k_is);(case z3kc=>k_is)
   (case z3b=>exact fun _ _ _ _ _ _ us hl=>match us,hl with|[_],_=>rfl)
   (case z3n0=>k_is)
   (case z3n1=>k_is)
   (case z3n2=>k_is)
   (case z3n3=>k_is)
  obtain⟨C_Draft,⟨cl_Draft,ca_Draft⟩,n_Draft_laws,n_Draft_rules,n_Draft_atoms,n_Draft_outweighed⟩:=c_Draft
  have c_Case:∃C,(L2.Cls (L2.KOf KX) C/\My.ClassAt (L2.KOf KX) mg "Case" My.pH C ["self","atoms","laws","rules","names","outweighed"])/\L2.NoAttr (L2.KOf KX) C "atoms"/\L2.NoAttr (L2.KOf KX) C "laws"/\L2.NoAttr (L2.KOf KX) C "rules"/\L2.NoAttr (L2.KOf KX) C "names"/\L2.NoAttr (L2.KOf KX) C "outweighed":=by
   dsimp only[L2.KOf,L2.NoAttr]
   refine' ⟨_,My.kC (qual:="Case.__init__") KX G ?z4q ?z4aC ?z4a ?z4i ?z4l ?z4c ?z4k ?z4pg ?z4hd ?z4po ?z4sa ?z4mk ?z4kc ?z4b,?z4n0,?z4n1,?z4n2,?z4n3,?z4n4⟩
   (case z4q=>decide +kernel);(case z4aC=>k_is);(case z4a=>k_is);(case z4i=>k_is);(case z4l=>k_is);(case z4c=>k_is);(case z4k=>k_is);(case z4pg=>k_is);(case z4hd=>k_is);(case z4po=>k_is);(case z4sa=>k_is);(case z4mk=>k_is);(case z4kc=>k_is)
   (case z4b=>exact fun _ _ _ _ _ _ us hl=>match us,hl with|[_,_,_,_,_,_],_=>rfl)
   (case z4n0=>k_is)
   (case z4n1=>k_is)
   (case z4n2=>k_is)
   (case z4n3=>k_is)
   (case z4n4=>k_is)
  obtain⟨C_Case,⟨cl_Case,ca_Case⟩,n_Case_atoms,n_Case_laws,n_Case_rules,n_Case_names,n_Case_outweighed⟩:=c_Case
  have d_sign_table:My.DefAt (L2.KOf KX) mg "sign_table" My.g7 []:=by
   dsimp only[L2.KOf]
   refine' My.ay KX G ?z5a ?z5l ?z5c ?z5k ?z5b
   (case z5a=>k_is);(case z5l=>k_is);(case z5c=>k_is);(case z5k=>k_is)
   (case z5b=>exact fun _ _ _ _ _ _ us hl=>match us,hl with|[],_=>rfl)
  have d_line_end:My.DefAt (L2.KOf KX) mg "line_end" My.jE ["t","place"]:=by
   dsimp only[L2.KOf]
   refine' My.ay KX G ?z6a ?z6l ?z6c ?z6k ?z6b
   (case z6a=>k_is);(case z6l=>k_is);(case z6c=>k_is);(case z6k=>k_is)
   (case z6b=>exact fun _ _ _ _ _ _ us hl=>match us,hl with|[_,_],_=>rfl)
  have d_words_of:My.DefAt (L2.KOf KX) mg "words_of" My.gC ["line","table"]:=by
   dsimp only[L2.KOf]
   refine' My.ay KX G ?z7a ?z7l ?z7c ?z7k ?z7b
   (case z7a=>k_is);(case z7l=>k_is);(case z7c=>k_is);(case z7k=>k_is)
   (case z7b=>exact fun _ _ _ _ _ _ us hl=>match us,hl with|[_,_],_=>rfl)
  have d_is_name:My.DefAt (L2.KOf KX) mg "is_name" My.iC ["word"]:=by
   dsimp only[L2.KOf]
   refine' My.ay KX G ?z8a ?z8l ?z8c ?z8k ?z8b
   (case z8a=>k_is);(case z8l=>k_is);(case z8c=>k_is);(case z8k=>k_is)
   (case z8b=>exact fun _ _ _ _ _ _ us hl=>match us,hl with|[_],_=>rfl)
  have d_is_literal:My.DefAt (L2.KOf KX) mg "is_literal" My.ic ["word"]:=by
   dsimp only[L2.KOf]
   refine' My.ay KX G ?z9a ?z9l ?z9c ?z9k ?z9b
   (case z9a=>k_is);(case z9l=>k_is);(case z9c=>k_is);(case z9k=>k_is)
   (case z9b=>exact fun _ _ _ _ _ _ us hl=>match us,hl with|[_],_=>rfl)
  have d_atom_of:My.DefAt (L2.KOf KX) mg "atom_of" My.kM ["literal"]:=by
   dsimp only[L2.KOf]
   refine' My.ay KX G ?z10a ?z10l ?z10c ?z10k ?z10b
   (case z10a=>k_is);(case z10l=>k_is);(case z10c=>k_is);(case z10k=>k_is)
   (case z10b=>exact fun _ _ _ _ _ _ us hl=>match us,hl with|[_],_=>rfl)
  have d_read_body:My.DefAt (L2.KOf KX) mg "read_body" My.iP ["words"]:=by
   dsimp only[L2.KOf]
   refine' My.ay KX G ?z11a ?z11l ?z11c ?z11k ?z11b
   (case z11a=>k_is);(case z11l=>k_is);(case z11c=>k_is);(case z11k=>k_is)
   (case z11b=>exact fun _ _ _ _ _ _ us hl=>match us,hl with|[_],_=>rfl)
  have d_read_clause:My.DefAt (L2.KOf KX) mg "read_clause" My.gw ["words","arrow"]:=by
   dsimp only[L2.KOf]
   refine' My.ay KX G ?z12a ?z12l ?z12c ?z12k ?z12b
   (case z12a=>k_is);(case z12l=>k_is);(case z12c=>k_is);(case z12k=>k_is)
   (case z12b=>exact fun _ _ _ _ _ _ us hl=>match us,hl with|[_,_],_=>rfl)
  have d_read_weight:My.DefAt (L2.KOf KX) mg "read_weight" My.gm ["words"]:=by
   dsimp only[L2.KOf]
   refine' My.ay KX G ?z13a ?z13l ?z13c ?z13k ?z13b
   (case z13a=>k_is);(case z13l=>k_is);(case z13c=>k_is);(case z13k=>k_is)
   (case z13b=>exact fun _ _ _ _ _ _ us hl=>match us,hl with|[_],_=>rfl)
  have d_has_rule:My.DefAt (L2.KOf KX) mg "has_rule" My.jA ["rules","number"]:=by
   dsimp only[L2.KOf]
   refine' My.ay KX G ?z14a ?z14l ?z14c ?z14k ?z14b
   (case z14a=>k_is);(case z14l=>k_is);(case z14c=>k_is);(case z14k=>k_is)
   (case z14b=>exact fun _ _ _ _ _ _ us hl=>match us,hl with|[_,_],_=>rfl)
  have d_is_within:My.DefAt (L2.KOf KX) mg "is_within" My.iO ["part","rules"]:=by
   dsimp only[L2.KOf]
   refine' My.ay KX G ?z15a ?z15l ?z15c ?z15k ?z15b
   (case z15a=>k_is);(case z15l=>k_is);(case z15c=>k_is);(case z15k=>k_is)
   (case z15b=>exact fun _ _ _ _ _ _ us hl=>match us,hl with|[_,_],_=>rfl)
  have d_members_of:My.DefAt (L2.KOf KX) mg "members_of" My.fe ["case","rules"]:=by
   dsimp only[L2.KOf]
   refine' My.ay KX G ?z16a ?z16l ?z16c ?z16k ?z16b
   (case z16a=>k_is);(case z16l=>k_is);(case z16c=>k_is);(case z16k=>k_is)
   (case z16b=>exact fun _ _ _ _ _ _ us hl=>match us,hl with|[_,_],_=>rfl)
  have d_set_of:My.DefAt (L2.KOf KX) mg "set_of" My.lJ ["numbers"]:=by
   dsimp only[L2.KOf]
   refine' My.ay KX G ?z17a ?z17l ?z17c ?z17k ?z17b
   (case z17a=>k_is);(case z17l=>k_is);(case z17c=>k_is);(case z17k=>k_is)
   (case z17b=>exact fun _ _ _ _ _ _ us hl=>match us,hl with|[_],_=>rfl)
  have d_fresh_literals:My.DefAt (L2.KOf KX) mg "fresh_literals" My.db ["steps","rounds"]:=by
   dsimp only[L2.KOf]
   refine' My.ay KX G ?z18a ?z18l ?z18c ?z18k ?z18b
   (case z18a=>k_is);(case z18l=>k_is);(case z18c=>k_is);(case z18k=>k_is)
   (case z18b=>exact fun _ _ _ _ _ _ us hl=>match us,hl with|[_,_],_=>rfl)
  have d_literal_rounds:My.DefAt (L2.KOf KX) mg "literal_rounds" My.eG ["steps"]:=by
   dsimp only[L2.KOf]
   refine' My.ay KX G ?z19a ?z19l ?z19c ?z19k ?z19b
   (case z19a=>k_is);(case z19l=>k_is);(case z19c=>k_is);(case z19k=>k_is)
   (case z19b=>exact fun _ _ _ _ _ _ us hl=>match us,hl with|[_],_=>rfl)
  have d_stands_before:My.DefAt (L2.KOf KX) mg "stands_before" My.eX ["clause","kin"]:=by
   dsimp only[L2.KOf]
   refine' My.ay KX G ?z20a ?z20l ?z20c ?z20k ?z20b
   (case z20a=>k_is);(case z20l=>k_is);(case z20c=>k_is);(case z20k=>k_is)
   (case z20b=>exact fun _ _ _ _ _ _ us hl=>match us,hl with|[_,_],_=>rfl)
  have d_clause_atoms:My.DefAt (L2.KOf KX) mg "clause_atoms" My.dS ["clause"]:=by
   dsimp only[L2.KOf]
   refine' My.ay KX G ?z21a ?z21l ?z21c ?z21k ?z21b
   (case z21a=>k_is);(case z21l=>k_is);(case z21c=>k_is);(case z21k=>k_is)
   (case z21b=>exact fun _ _ _ _ _ _ us hl=>match us,hl with|[_],_=>rfl)
  have d_clause_fault:My.DefAt (L2.KOf KX) mg "clause_fault" My.fH ["draft","clause","kin","most","atoms"]:=by
   dsimp only[L2.KOf]
   refine' My.ay KX G ?z22a ?z22l ?z22c ?z22k ?z22b
   (case z22a=>k_is);(case z22l=>k_is);(case z22c=>k_is);(case z22k=>k_is)
   (case z22b=>exact fun _ _ _ _ _ _ us hl=>match us,hl with|[_,_,_,_,_],_=>rfl)
  have d_keep_atoms:My.DefAt (L2.KOf KX) mg "keep_atoms" My.g0 ["draft","atoms"]:=by
   dsimp only[L2.KOf]
   refine' My.ay KX G ?z23a ?z23l ?z23c ?z23k ?z23b
   (case z23a=>k_is);(case z23l=>k_is);(case z23c=>k_is);(case z23k=>k_is)
   (case z23b=>exact fun _ _ _ _ _ _ us hl=>match us,hl with|[_,_],_=>rfl)
  have d_laws_clash:My.DefAt (L2.KOf KX) mg "laws_clash" My.dJ ["laws"]:=by
   dsimp only[L2.KOf]
   refine' My.ay KX G ?z24a ?z24l ?z24c ?z24k ?z24b
   (case z24a=>k_is);(case z24l=>k_is);(case z24c=>k_is);(case z24k=>k_is)
   (case z24b=>exact fun _ _ _ _ _ _ us hl=>match us,hl with|[_],_=>rfl)
  have d_enter_law:My.DefAt (L2.KOf KX) mg "enter_law" My.iJ ["draft","law"]:=by
   dsimp only[L2.KOf]
   refine' My.ay KX G ?z25a ?z25l ?z25c ?z25k ?z25b
   (case z25a=>k_is);(case z25l=>k_is);(case z25c=>k_is);(case z25k=>k_is)
   (case z25b=>exact fun _ _ _ _ _ _ us hl=>match us,hl with|[_,_],_=>rfl)
  have d_enter_rule:My.DefAt (L2.KOf KX) mg "enter_rule" My.gY ["draft","rule"]:=by
   dsimp only[L2.KOf]
   refine' My.ay KX G ?z26a ?z26l ?z26c ?z26k ?z26b
   (case z26a=>k_is);(case z26l=>k_is);(case z26c=>k_is);(case z26k=>k_is)
   (case z26b=>exact fun _ _ _ _ _ _ us hl=>match us,hl with|[_,_],_=>rfl)
  have d_weight_fault:My.DefAt (L2.KOf KX) mg "weight_fault" My.fw ["draft","weight"]:=by
   dsimp only[L2.KOf]
   refine' My.ay KX G ?z27a ?z27l ?z27c ?z27k ?z27b
   (case z27a=>k_is);(case z27l=>k_is);(case z27c=>k_is);(case z27k=>k_is)
   (case z27b=>exact fun _ _ _ _ _ _ us hl=>match us,hl with|[_,_],_=>rfl)
  have d_enter_weight:My.DefAt (L2.KOf KX) mg "enter_weight" My.fu ["draft","weight"]:=by
   dsimp only[L2.KOf]
   refine' My.ay KX G ?z28a ?z28l ?z28c ?z28k ?z28b
   (case z28a=>k_is);(case z28l=>k_is);(case z28c=>k_is);(case z28k=>k_is)
   (case z28b=>exact fun _ _ _ _ _ _ us hl=>match us,hl with|[_,_],_=>rfl)
  have d_enter_line:My.DefAt (L2.KOf KX) mg "enter_line" My.gZ ["draft","words"]:=by
   dsimp only[L2.KOf]
   refine' My.ay KX G ?z29a ?z29l ?z29c ?z29k ?z29b
   (case z29a=>k_is);(case z29l=>k_is);(case z29c=>k_is);(case z29k=>k_is)
   (case z29b=>exact fun _ _ _ _ _ _ us hl=>match us,hl with|[_,_],_=>rfl)
  have d_enter_text:My.DefAt (L2.KOf KX) mg "enter_text" My.hO ["draft","t"]:=by
   dsimp only[L2.KOf]
   refine' My.ay KX G ?z30a ?z30l ?z30c ?z30k ?z30b
   (case z30a=>k_is);(case z30l=>k_is);(case z30c=>k_is);(case z30k=>k_is)
   (case z30b=>exact fun _ _ _ _ _ _ us hl=>match us,hl with|[_,_],_=>rfl)
  have d_literal_numbers:My.DefAt (L2.KOf KX) mg "literal_numbers" My.dX ["atoms"]:=by
   dsimp only[L2.KOf]
   refine' My.ay KX G ?z31a ?z31l ?z31c ?z31k ?z31b
   (case z31a=>k_is);(case z31l=>k_is);(case z31c=>k_is);(case z31k=>k_is)
   (case z31b=>exact fun _ _ _ _ _ _ us hl=>match us,hl with|[_],_=>rfl)
  have d_numbered_clause:My.DefAt (L2.KOf KX) mg "numbered_clause" My.cX ["clause","numbers"]:=by
   dsimp only[L2.KOf]
   refine' My.ay KX G ?z32a ?z32l ?z32c ?z32k ?z32b
   (case z32a=>k_is);(case z32l=>k_is);(case z32c=>k_is);(case z32k=>k_is)
   (case z32b=>exact fun _ _ _ _ _ _ us hl=>match us,hl with|[_,_],_=>rfl)
  have d_numbered_rules:My.DefAt (L2.KOf KX) mg "numbered_rules" My.df ["names","order"]:=by
   dsimp only[L2.KOf]
   refine' My.ay KX G ?z33a ?z33l ?z33c ?z33k ?z33b
   (case z33a=>k_is);(case z33l=>k_is);(case z33c=>k_is);(case z33k=>k_is)
   (case z33b=>exact fun _ _ _ _ _ _ us hl=>match us,hl with|[_,_],_=>rfl)
  have d_numbered_case:My.DefAt (L2.KOf KX) mg "numbered_case" My.bT ["draft"]:=by
   dsimp only[L2.KOf]
   refine' My.ay KX G ?z34a ?z34l ?z34c ?z34k ?z34b
   (case z34a=>k_is);(case z34l=>k_is);(case z34c=>k_is);(case z34k=>k_is)
   (case z34b=>exact fun _ _ _ _ _ _ us hl=>match us,hl with|[_],_=>rfl)
  have d_read_case:My.DefAt (L2.KOf KX) mg "read_case" My.iK ["t"]:=by
   dsimp only[L2.KOf]
   refine' My.ay KX G ?z35a ?z35l ?z35c ?z35k ?z35b
   (case z35a=>k_is);(case z35l=>k_is);(case z35c=>k_is);(case z35k=>k_is)
   (case z35b=>exact fun _ _ _ _ _ _ us hl=>match us,hl with|[_],_=>rfl)
  have d_possible_steps:My.DefAt (L2.KOf KX) mg "possible_steps" My.c7 ["case","rules"]:=by
   dsimp only[L2.KOf]
   refine' My.ay KX G ?z36a ?z36l ?z36c ?z36k ?z36b
   (case z36a=>k_is);(case z36l=>k_is);(case z36c=>k_is);(case z36k=>k_is)
   (case z36b=>exact fun _ _ _ _ _ _ us hl=>match us,hl with|[_,_],_=>rfl)
  have d_all_below:My.DefAt (L2.KOf KX) mg "all_below" My.fW ["literals","rounds","bound"]:=by
   dsimp only[L2.KOf]
   refine' My.ay KX G ?z37a ?z37l ?z37c ?z37k ?z37b
   (case z37a=>k_is);(case z37l=>k_is);(case z37c=>k_is);(case z37k=>k_is)
   (case z37b=>exact fun _ _ _ _ _ _ us hl=>match us,hl with|[_,_,_],_=>rfl)
  have d_told_step:My.DefAt (L2.KOf KX) mg "told_step" My.fU ["steps","rounds","literal"]:=by
   dsimp only[L2.KOf]
   refine' My.ay KX G ?z38a ?z38l ?z38c ?z38k ?z38b
   (case z38a=>k_is);(case z38l=>k_is);(case z38c=>k_is);(case z38k=>k_is)
   (case z38b=>exact fun _ _ _ _ _ _ us hl=>match us,hl with|[_,_,_],_=>rfl)
  have d_needed_steps:My.DefAt (L2.KOf KX) mg "needed_steps" My.fP ["steps","rounds","literal"]:=by
   dsimp only[L2.KOf]
   refine' My.ay KX G ?z39a ?z39l ?z39c ?z39k ?z39b
   (case z39a=>k_is);(case z39l=>k_is);(case z39c=>k_is);(case z39k=>k_is)
   (case z39b=>exact fun _ _ _ _ _ _ us hl=>match us,hl with|[_,_,_],_=>rfl)
  have d_told_derivation:My.DefAt (L2.KOf KX) mg "told_derivation" My.bV ["steps","rounds","literal"]:=by
   dsimp only[L2.KOf]
   refine' My.ay KX G ?z40a ?z40l ?z40c ?z40k ?z40b
   (case z40a=>k_is);(case z40l=>k_is);(case z40c=>k_is);(case z40k=>k_is)
   (case z40b=>exact fun _ _ _ _ _ _ us hl=>match us,hl with|[_,_,_],_=>rfl)
  have d_literal_bits:My.DefAt (L2.KOf KX) mg "literal_bits" My.fD ["literals"]:=by
   dsimp only[L2.KOf]
   refine' My.ay KX G ?z41a ?z41l ?z41c ?z41k ?z41b
   (case z41a=>k_is);(case z41l=>k_is);(case z41c=>k_is);(case z41k=>k_is)
   (case z41b=>exact fun _ _ _ _ _ _ us hl=>match us,hl with|[_],_=>rfl)
  have d_has_literal:My.DefAt (L2.KOf KX) mg "has_literal" My.gt ["reached","literal"]:=by
   dsimp only[L2.KOf]
   refine' My.ay KX G ?z42a ?z42l ?z42c ?z42k ?z42b
   (case z42a=>k_is);(case z42l=>k_is);(case z42c=>k_is);(case z42k=>k_is)
   (case z42b=>exact fun _ _ _ _ _ _ us hl=>match us,hl with|[_,_],_=>rfl)
  have d_clause_bits:My.DefAt (L2.KOf KX) mg "clause_bits" My.gk ["clause"]:=by
   dsimp only[L2.KOf]
   refine' My.ay KX G ?z43a ?z43l ?z43c ?z43k ?z43b
   (case z43a=>k_is);(case z43l=>k_is);(case z43c=>k_is);(case z43k=>k_is)
   (case z43b=>exact fun _ _ _ _ _ _ us hl=>match us,hl with|[_],_=>rfl)
  have d_gone_on:My.DefAt (L2.KOf KX) mg "gone_on" My.j8 ["reached","clauses"]:=by
   dsimp only[L2.KOf]
   refine' My.ay KX G ?z44a ?z44l ?z44c ?z44k ?z44b
   (case z44a=>k_is);(case z44l=>k_is);(case z44c=>k_is);(case z44k=>k_is)
   (case z44b=>exact fun _ _ _ _ _ _ us hl=>match us,hl with|[_,_],_=>rfl)
  have d_followers:My.DefAt (L2.KOf KX) mg "followers" My.dn ["case"]:=by
   dsimp only[L2.KOf]
   refine' My.ay KX G ?z45a ?z45l ?z45c ?z45k ?z45b
   (case z45a=>k_is);(case z45l=>k_is);(case z45c=>k_is);(case z45k=>k_is)
   (case z45b=>exact fun _ _ _ _ _ _ us hl=>match us,hl with|[_],_=>rfl)
  have d_opposites_meet:My.DefAt (L2.KOf KX) mg "opposites_meet" My.de ["reached","atoms"]:=by
   dsimp only[L2.KOf]
   refine' My.ay KX G ?z46a ?z46l ?z46c ?z46k ?z46b
   (case z46a=>k_is);(case z46l=>k_is);(case z46c=>k_is);(case z46k=>k_is)
   (case z46b=>exact fun _ _ _ _ _ _ us hl=>match us,hl with|[_,_],_=>rfl)
  have d_clash_table:My.DefAt (L2.KOf KX) mg "clash_table" My.ef ["case","following"]:=by
   dsimp only[L2.KOf]
   refine' My.ay KX G ?z47a ?z47l ?z47c ?z47k ?z47b
   (case z47a=>k_is);(case z47l=>k_is);(case z47c=>k_is);(case z47k=>k_is)
   (case z47b=>exact fun _ _ _ _ _ _ us hl=>match us,hl with|[_,_],_=>rfl)
  have d_strikers_of:My.DefAt (L2.KOf KX) mg "strikers_of" My.eA ["number","outweighed","clashing"]:=by
   dsimp only[L2.KOf]
   refine' My.ay KX G ?z48a ?z48l ?z48c ?z48k ?z48b
   (case z48a=>k_is);(case z48l=>k_is);(case z48c=>k_is);(case z48k=>k_is)
   (case z48b=>exact fun _ _ _ _ _ _ us hl=>match us,hl with|[_,_,_],_=>rfl)
  have d_all_strikers:My.DefAt (L2.KOf KX) mg "all_strikers" My.dL ["case","following"]:=by
   dsimp only[L2.KOf]
   refine' My.ay KX G ?z49a ?z49l ?z49c ?z49k ?z49b
   (case z49a=>k_is);(case z49l=>k_is);(case z49c=>k_is);(case z49k=>k_is)
   (case z49b=>exact fun _ _ _ _ _ _ us hl=>match us,hl with|[_,_],_=>rfl)
  have d_has_striker:My.DefAt (L2.KOf KX) mg "has_striker" My.eC ["rules","own_strikers"]:=by
   dsimp only[L2.KOf]
   refine' My.ay KX G ?z50a ?z50l ?z50c ?z50k ?z50b
   (case z50a=>k_is);(case z50l=>k_is);(case z50c=>k_is);(case z50k=>k_is)
   (case z50b=>exact fun _ _ _ _ _ _ us hl=>match us,hl with|[_,_],_=>rfl)
  have d_struck_by:My.DefAt (L2.KOf KX) mg "struck_by" My.fT ["rules","strikers"]:=by
   dsimp only[L2.KOf]
   refine' My.ay KX G ?z51a ?z51l ?z51c ?z51k ?z51b
   (case z51a=>k_is);(case z51l=>k_is);(case z51c=>k_is);(case z51k=>k_is)
   (case z51b=>exact fun _ _ _ _ _ _ us hl=>match us,hl with|[_,_],_=>rfl)
  have d_all_meet:My.DefAt (L2.KOf KX) mg "all_meet" My.gE ["own_strikers","struck"]:=by
   dsimp only[L2.KOf]
   refine' My.ay KX G ?z52a ?z52l ?z52c ?z52k ?z52b
   (case z52a=>k_is);(case z52l=>k_is);(case z52c=>k_is);(case z52k=>k_is)
   (case z52b=>exact fun _ _ _ _ _ _ us hl=>match us,hl with|[_,_],_=>rfl)
  have d_defended_by:My.DefAt (L2.KOf KX) mg "defended_by" My.eD ["rules","strikers"]:=by
   dsimp only[L2.KOf]
   refine' My.ay KX G ?z53a ?z53l ?z53c ?z53k ?z53b
   (case z53a=>k_is);(case z53l=>k_is);(case z53c=>k_is);(case z53k=>k_is)
   (case z53b=>exact fun _ _ _ _ _ _ us hl=>match us,hl with|[_,_],_=>rfl)
  have d_least_ranks:My.DefAt (L2.KOf KX) mg "least_ranks" My.gv ["rules","strikers"]:=by
   dsimp only[L2.KOf]
   refine' My.ay KX G ?z54a ?z54l ?z54c ?z54k ?z54b
   (case z54a=>k_is);(case z54l=>k_is);(case z54c=>k_is);(case z54k=>k_is)
   (case z54b=>exact fun _ _ _ _ _ _ us hl=>match us,hl with|[_,_],_=>rfl)
  have d_rules_with_rank:My.DefAt (L2.KOf KX) mg "rules_with_rank" My.cW ["ranks"]:=by
   dsimp only[L2.KOf]
   refine' My.ay KX G ?z55a ?z55l ?z55c ?z55k ?z55b
   (case z55a=>k_is);(case z55l=>k_is);(case z55c=>k_is);(case z55k=>k_is)
   (case z55b=>exact fun _ _ _ _ _ _ us hl=>match us,hl with|[_],_=>rfl)
  have d_ground_of:My.DefAt (L2.KOf KX) mg "ground_of" My.iH ["strikers"]:=by
   dsimp only[L2.KOf]
   refine' My.ay KX G ?z56a ?z56l ?z56c ?z56k ?z56b
   (case z56a=>k_is);(case z56l=>k_is);(case z56c=>k_is);(case z56k=>k_is)
   (case z56b=>exact fun _ _ _ _ _ _ us hl=>match us,hl with|[_],_=>rfl)
  have d_sets_for:My.DefAt (L2.KOf KX) mg "sets_for" My.dU ["case","literal","following","ground"]:=by
   dsimp only[L2.KOf]
   refine' My.ay KX G ?z57a ?z57l ?z57c ?z57k ?z57b
   (case z57a=>k_is);(case z57l=>k_is);(case z57c=>k_is);(case z57k=>k_is)
   (case z57b=>exact fun _ _ _ _ _ _ us hl=>match us,hl with|[_,_,_,_],_=>rfl)
  have d_told_steps:My.DefAt (L2.KOf KX) mg "told_steps" My.hJ ["case","rules","literal"]:=by
   dsimp only[L2.KOf]
   refine' My.ay KX G ?z58a ?z58l ?z58c ?z58k ?z58b
   (case z58a=>k_is);(case z58l=>k_is);(case z58c=>k_is);(case z58k=>k_is)
   (case z58b=>exact fun _ _ _ _ _ _ us hl=>match us,hl with|[_,_,_],_=>rfl)
  have d_told_reason:My.DefAt (L2.KOf KX) mg "told_reason" My.gn ["case","literal"]:=by
   dsimp only[L2.KOf]
   refine' My.ay KX G ?z59a ?z59l ?z59c ?z59k ?z59b
   (case z59a=>k_is);(case z59l=>k_is);(case z59c=>k_is);(case z59k=>k_is)
   (case z59b=>exact fun _ _ _ _ _ _ us hl=>match us,hl with|[_,_],_=>rfl)
  have d_text_refusal:My.DefAt (L2.KOf KX) mg "text_refusal" My.ft ["t","case"]:=by
   dsimp only[L2.KOf]
   refine' My.ay KX G ?z60a ?z60l ?z60c ?z60k ?z60b
   (case z60a=>k_is);(case z60l=>k_is);(case z60c=>k_is);(case z60k=>k_is)
   (case z60b=>exact fun _ _ _ _ _ _ us hl=>match us,hl with|[_,_],_=>rfl)
  have d_literal_refusal:My.DefAt (L2.KOf KX) mg "literal_refusal" My.dW ["literal","t","case"]:=by
   dsimp only[L2.KOf]
   refine' My.ay KX G ?z61a ?z61l ?z61c ?z61k ?z61b
   (case z61a=>k_is);(case z61l=>k_is);(case z61c=>k_is);(case z61k=>k_is)
   (case z61b=>exact fun _ _ _ _ _ _ us hl=>match us,hl with|[_,_,_],_=>rfl)
  have d_reason:My.DefAt (L2.KOf KX) mg "reason" My.lN ["literal","t"]:=by
   dsimp only[L2.KOf]
   refine' My.ay KX G ?z62a ?z62l ?z62c ?z62k ?z62b
   (case z62a=>k_is);(case z62l=>k_is);(case z62c=>k_is);(case z62k=>k_is)
   (case z62b=>exact fun _ _ _ _ _ _ us hl=>match us,hl with|[_,_],_=>rfl)
  have g_LINE_FEED:My.GV mg "LINE_FEED" (.int 10):=by
   refine' My.bC KX G ?LINE_FEED_e
   (case LINE_FEED_e=>k_is)
  have g_LETTERS:My.GV mg "LETTERS" (.str "abcdefghijklmnopqrstuvwxyz"):=by
   refine' My.ku KX G ?LETTERS_e
   (case LETTERS_e=>k_is)
  have g_NAME_SIGNS:My.GV mg "NAME_SIGNS" (.str "abcdefghijklmnopqrstuvwxyz0123456789-"):=by
   refine' My.ku KX G ?NAME_SIGNS_e
   (case NAME_SIGNS_e=>k_is)
  have g_LINE_SIGNS:My.GV mg "LINE_SIGNS" (.str "abcdefghijklmnopqrstuvwxyz0123456789- ~:,=>"):=by
   refine' My.ku KX G ?LINE_SIGNS_e
   (case LINE_SIGNS_e=>k_is)
  have g_NO_SIGN:My.GV mg "NO_SIGN" (.str "?"):=by
   refine' My.ku KX G ?NO_SIGN_e
   (case NO_SIGN_e=>k_is)
  have g_OPPOSITE:My.GV mg "OPPOSITE" (.str "~"):=by
   refine' My.ku KX G ?OPPOSITE_e
   (case OPPOSITE_e=>k_is)
  have g_MOST_NAME_SIGNS:My.GV mg "MOST_NAME_SIGNS" (.int 15):=by
   refine' My.bC KX G ?MOST_NAME_SIGNS_e
   (case MOST_NAME_SIGNS_e=>k_is)
  have g_MOST_BODY:My.GV mg "MOST_BODY" (.int 6):=by
   refine' My.bC KX G ?MOST_BODY_e
   (case MOST_BODY_e=>k_is)
  have g_BODILESS_WORDS:My.GV mg "BODILESS_WORDS" (.int 4):=by
   refine' My.bC KX G ?BODILESS_WORDS_e
   (case BODILESS_WORDS_e=>k_is)
  have g_RULE_NAME:My.GV mg "RULE_NAME" (.int 0):=by
   refine' My.bC KX G ?RULE_NAME_e
   (case RULE_NAME_e=>k_is)
  have g_LAW_HEAD:My.GV mg "LAW_HEAD" (.int 1):=by
   refine' My.bC KX G ?LAW_HEAD_e
   (case LAW_HEAD_e=>k_is)
  have g_RULE_HEAD:My.GV mg "RULE_HEAD" (.int 2):=by
   refine' My.bC KX G ?RULE_HEAD_e
   (case RULE_HEAD_e=>k_is)
  have g_MOST_LAWS:My.GV mg "MOST_LAWS" (.int 64):=by
   refine' My.bC KX G ?MOST_LAWS_e
   (case MOST_LAWS_e=>k_is)
  have g_MOST_RULES:My.GV mg "MOST_RULES" (.int 10):=by
   refine' My.bC KX G ?MOST_RULES_e
   (case MOST_RULES_e=>k_is)
  have g_MOST_ATOMS:My.GV mg "MOST_ATOMS" (.int 64):=by
   refine' My.bC KX G ?MOST_ATOMS_e
   (case MOST_ATOMS_e=>k_is)
  have g_NO_FAULT:My.GV mg "NO_FAULT" (.int 0):=by
   refine' My.bC KX G ?NO_FAULT_e
   (case NO_FAULT_e=>k_is)
  have g_NO_LINE:My.GV mg "NO_LINE" (.int 1):=by
   refine' My.bC KX G ?NO_LINE_e
   (case NO_LINE_e=>k_is)
  have g_NAME_AGAIN:My.GV mg "NAME_AGAIN" (.int 2):=by
   refine' My.bC KX G ?NAME_AGAIN_e
   (case NAME_AGAIN_e=>k_is)
  have g_CLAUSE_AGAIN:My.GV mg "CLAUSE_AGAIN" (.int 3):=by
   refine' My.bC KX G ?CLAUSE_AGAIN_e
   (case CLAUSE_AGAIN_e=>k_is)
  have g_TOO_MANY:My.GV mg "TOO_MANY" (.int 4):=by
   refine' My.bC KX G ?TOO_MANY_e
   (case TOO_MANY_e=>k_is)
  have g_NO_RULES_NAME:My.GV mg "NO_RULES_NAME" (.int 5):=by
   refine' My.bC KX G ?NO_RULES_NAME_e
   (case NO_RULES_NAME_e=>k_is)
  have g_CIRCLE:My.GV mg "CIRCLE" (.int 6):=by
   refine' My.bC KX G ?CIRCLE_e
   (case CIRCLE_e=>k_is)
  have g_LAWS_CLASH:My.GV mg "LAWS_CLASH" (.int 7):=by
   refine' My.bC KX G ?LAWS_CLASH_e
   (case LAWS_CLASH_e=>k_is)
  have g_MOST_BYTES:My.GV mg "MOST_BYTES" (.int 8192):=by
   refine' My.bC KX G ?MOST_BYTES_e
   (case MOST_BYTES_e=>k_is)
  have g_TAKEN:My.GV mg "TAKEN" (.int 0):=by
   refine' My.bC KX G ?TAKEN_e
   (case TAKEN_e=>k_is)
  have g_OUT_OF_RANGE:My.GV mg "OUT_OF_RANGE" (.int (-1)):=by
   refine' My.bC KX G ?OUT_OF_RANGE_e
   (case OUT_OF_RANGE_e=>k_is)
  have g_NONE_THERE:My.GV mg "NONE_THERE" (.int (-3)):=by
   refine' My.bC KX G ?NONE_THERE_e
   (case NONE_THERE_e=>k_is)
  have g_NO_CASE:My.GV mg "NO_CASE" (.int (-6)):=by
   refine' My.bC KX G ?NO_CASE_e
   (case NO_CASE_e=>k_is)
  have b_all:mg "all"=none:=by
   refine' PySem.W.mg_none_of KX G ?all_z
   (case all_z=>k_is)
  have b_any:mg "any"=none:=by
   refine' PySem.W.mg_none_of KX G ?any_z
   (case any_z=>k_is)
  have b_enumerate:mg "enumerate"=none:=by
   refine' PySem.W.mg_none_of KX G ?enumerate_z
   (case enumerate_z=>k_is)
  have b_len:mg "len"=none:=by
   refine' PySem.W.mg_none_of KX G ?len_z
   (case len_z=>k_is)
  have b_list:mg "list"=none:=by
   refine' PySem.W.mg_none_of KX G ?list_z
   (case list_z=>k_is)
  have b_ord:mg "ord"=none:=by
   refine' PySem.W.mg_none_of KX G ?ord_z
   (case ord_z=>k_is)
  have b_range:mg "range"=none:=by
   refine' PySem.W.mg_none_of KX G ?range_z
   (case range_z=>k_is)
  have b_set:mg "set"=none:=by
   refine' PySem.W.mg_none_of KX G ?set_z
   (case set_z=>k_is)
  have b_sorted:mg "sorted"=none:=by
   refine' PySem.W.mg_none_of KX G ?sorted_z
   (case sorted_z=>k_is)
  have b_tuple:mg "tuple"=none:=by
   refine' PySem.W.mg_none_of KX G ?tuple_z
   (case tuple_z=>k_is)
  have hPP:pt "told_derivation"≠pt "sets_for":=by
   refine' My.ye (st:=My.bV) (su:=My.dU) kb KX G (TB.code "told_derivation" (by simp)) (TB.hd "told_derivation" (by simp)) (TB.code "sets_for" (by simp)) (TB.hd "sets_for" (by simp)) ?tpa ?tpl ?tpm ?tpv ?tqa ?tql ?tqm ?tqv ?tqz
   (case tpa=>k_is);(case tpl=>k_is);(case tpm=>k_is);(case tpv=>rfl);(case tqa=>k_is);(case tql=>k_is);(case tqm=>k_is);(case tqv=>rfl);(case tqz=>decide)
  exact My.uA (A:={ Clause:=C_Clause,Weight:=C_Weight,Step:=C_Step,Draft:=C_Draft,Case:=C_Case }) { c_LINE_FEED:=g_LINE_FEED,c_LETTERS:=g_LETTERS,c_NAME_SIGNS:=g_NAME_SIGNS,c_LINE_SIGNS:=g_LINE_SIGNS,c_NO_SIGN:=g_NO_SIGN,c_OPPOSITE:=g_OPPOSITE,c_MOST_NAME_SIGNS:=g_MOST_NAME_SIGNS,c_MOST_BODY:=g_MOST_BODY,c_BODILESS_WORDS:=g_BODILESS_WORDS,c_RULE_NAME:=g_RULE_NAME,c_LAW_HEAD:=g_LAW_HEAD,c_RULE_HEAD:=g_RULE_HEAD,c_MOST_LAWS:=g_MOST_LAWS,c_MOST_RULES:=g_MOST_RULES,c_MOST_ATOMS:=g_MOST_ATOMS,c_NO_FAULT:=g_NO_FAULT,c_NO_LINE:=g_NO_LINE,c_NAME_AGAIN:=g_NAME_AGAIN,c_CLAUSE_AGAIN:=g_CLAUSE_AGAIN,c_TOO_MANY:=g_TOO_MANY,c_NO_RULES_NAME:=g_NO_RULES_NAME,c_CIRCLE:=g_CIRCLE,c_LAWS_CLASH:=g_LAWS_CLASH,c_MOST_BYTES:=g_MOST_BYTES,c_TAKEN:=g_TAKEN,c_OUT_OF_RANGE:=g_OUT_OF_RANGE,c_NONE_THERE:=g_NONE_THERE,c_NO_CASE:=g_NO_CASE,b_all,b_any,b_enumerate,b_len,b_list,b_ord,b_range,b_set,b_sorted,b_tuple,cl_Clause,k_Clause:=ca_Clause,n_Clause_name,n_Clause_body,n_Clause_head,cl_Weight,k_Weight:=ca_Weight,n_Weight_heavier,n_Weight_lighter,cl_Step,k_Step:=ca_Step,n_Step_kind,n_Step_number,n_Step_body,n_Step_literal,cl_Draft,k_Draft:=ca_Draft,n_Draft_laws,n_Draft_rules,n_Draft_atoms,n_Draft_outweighed,cl_Case,k_Case:=ca_Case,n_Case_atoms,n_Case_laws,n_Case_rules,n_Case_names,n_Case_outweighed,d_sign_table,d_line_end,d_words_of,d_is_name,d_is_literal,d_atom_of,d_read_body,d_read_clause,d_read_weight,d_has_rule,d_is_within,d_members_of,d_set_of,d_fresh_literals,d_literal_rounds,d_stands_before,d_clause_atoms,d_clause_fault,d_keep_atoms,d_laws_clash,d_enter_law,d_enter_rule,d_weight_fault,d_enter_weight,d_enter_line,d_enter_text,d_literal_numbers,d_numbered_clause,d_numbered_rules,d_numbered_case,d_read_case,d_possible_steps,d_all_below,d_told_step,d_needed_steps,d_told_derivation,d_literal_bits,d_has_literal,d_clause_bits,d_gone_on,d_followers,d_opposites_meet,d_clash_table,d_strikers_of,d_all_strikers,d_has_striker,d_struck_by,d_all_meet,d_defended_by,d_least_ranks,d_rules_with_rank,d_ground_of,d_sets_for,d_told_steps,d_told_reason,d_text_refusal,d_literal_refusal,d_reason } (TB.code "sets_for" (by simp)) (TB.hd "sets_for" (by simp)) (TB.code "told_derivation" (by simp)) (TB.hd "told_derivation" (by simp)) TB.bm hPP
#print axioms PySem.Challenge.cw_reasonhall_s05_reason_holds
