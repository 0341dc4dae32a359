import PyProof.Rows.All
import Wide.All
import OpenK.AllK
import Wide.FinOn
import PyProof.EqAt
import PyProof.EqKinds
import PyProof.TupleCall
import KE.BitLaws
import KE.KTupSum
import PyProof.ZipIter
import PyProof.TupleIter
import PyProof.Draws
import PyProof.WalksMore
import PyProof.EnumMake
import PyProof.Rows.SetFrom
import PyProof.SetKind
import PyProof.TupleKey
import PySem.SetTable
import PyProof.DictRoadsH
import PyProof.MeetsDict
import PyProof.DefCall
import KE.OsGo
import Open.SpecLaws
import PySem.Challenge.RW_linewords_s03_mean
set_option Elab.async false
set_option linter.all false
set_option maxRecDepth 100000
namespace L2
open PySem PySem.Spec PyProof.Rows
abbrev Key:=Sum Int Str
def keyIs:Key→Value→Bool
 |.inl k,v=>Value.isInt k v
 |.inr x,v=>Value.isStrOf x v
def keyH(w:World):Key→Int
 |.inl k=>hashInt k
 |.inr x=>hashStr w x
theorem yO:∀{k:Key} {v:Value},keyIs k v=true→(∃i t,k=Sum.inl i∧v=Value.int i t)∨(∃x t,k=Sum.inr x∧v=Value.str x t)
 |.inl i,v,h=>by
  obtain⟨t,e⟩:=Value.isInt_shape (k:=i) (v:=v) h
  exact .inl ⟨i,t,rfl,e⟩
 |.inr x,v,h=>by
  obtain⟨t,e⟩:=Value.isStrOf_shape (x:=x) (v:=v) h
  exact .inr ⟨x,t,rfl,e⟩
theorem keyIs_int(i:Int)(t:Tok):keyIs (.inl i) (.int i t)=true:=by simp[keyIs,Value.isInt]
theorem keyIs_str(x:Str)(t:Tok):keyIs (.inr x) (.str x t)=true:=by simp[keyIs,Value.isStrOf]
theorem key_ll(a b:Int):decide ((Sum.inl a:Key)=Sum.inl b)=(a==b):=by
 by_cases e:a=b
 ·subst e;simp
 ·have h:¬(Sum.inl a:Key)=Sum.inl b:=fun q=>e (Sum.inl.inj q)
  rw[decide_eq_false h]
  exact(beq_eq_false_iff_ne.mpr e).symm
theorem key_rr(a b:Str):decide ((Sum.inr a:Key)=Sum.inr b)=decide (a=b):=by
 by_cases e:a=b
 ·subst e;simp
 ·have h:¬(Sum.inr a:Key)=Sum.inr b:=fun q=>e (Sum.inr.inj q)
  rw[decide_eq_false h,decide_eq_false e]
theorem key_lr(a:Int)(b:Str):decide ((Sum.inl a:Key)=Sum.inr b)=false:=decide_eq_false (fun q=>nomatch q)
theorem key_rl(a:Str)(b:Int):decide ((Sum.inr a:Key)=Sum.inl b)=false:=decide_eq_false (fun q=>nomatch q)
def mixKind(prog:Program)(w:World):PySem.KeyKind prog w Key where
 is:=keyIs
 hash:=keyH w
 inj:=fun v a b ha hb=>by
  rcases yO ha with⟨i,t,rfl,rfl⟩ | ⟨x,t,rfl,rfl⟩
  ·rcases yO hb with⟨j,u,rfl,e⟩ | ⟨y,u,rfl,e⟩
   ·injection e with e1 _;rw[e1]
   ·exact nomatch e
  ·rcases yO hb with⟨j,u,rfl,e⟩ | ⟨y,u,rfl,e⟩
   ·exact nomatch e
   ·injection e with e1 _;rw[e1]
 byValue:=fun k v h=>by
  rcases yO h with⟨i,t,rfl,rfl⟩ | ⟨x,t,rfl,rfl⟩<;>rfl
 pyHash:=fun hv h=>by
  rcases yO hv with⟨i,t,rfl,rfl⟩ | ⟨x,t,rfl,rfl⟩
  ·exact wpAny_pyHash_int h
  ·exact wpAny_pyHash_str h
 eqBool:=fun hu hv h=>by
  rcases yO hu with⟨i,t,rfl,rfl⟩ | ⟨x,t,rfl,rfl⟩
  ·rcases yO hv with⟨j,u,rfl,rfl⟩ | ⟨y,u,rfl,rfl⟩
   ·rw[key_ll]at h;exact wpAny_eqBool_int h
   ·rw[key_lr]at h;exact SeqAt.EqAt.int_str i t y u _ _ _ _ h
  ·rcases yO hv with⟨j,u,rfl,rfl⟩ | ⟨y,u,rfl,rfl⟩
   ·rw[key_rl]at h;exact SeqAt.EqAt.str_int x t j u _ _ _ _ h
   ·rw[key_rr]at h;exact wpAny_eqBool_str h
 «strs»:=fun k x t v h=>by
  rcases yO h with⟨i,u,rfl,e⟩ | ⟨y,u,rfl,e⟩
  ·exact nomatch e
  ·injection e with e1 _
   subst e1
   cases v<;>rfl
theorem mixKind_int(prog:Program)(w:World)(i:Int)(t:Tok):(mixKind prog w).is (.inl i) (.int i t)=true:=keyIs_int i t
theorem mixKind_str(prog:Program)(w:World)(x:Str)(t:Tok):(mixKind prog w).is (.inr x) (.str x t)=true:=keyIs_str x t
end L2
namespace L2
open PySem PySem.Spec PyProof.Rows
inductive V where
 |non | bl (b:Bool) | int (i:Int) | str (x:Str) | byt (b:Array UInt8) | flt (b:UInt64) | ref (a:Addr) | ty (n:String)
 deriving DecidableEq
def RelV:V→Value→Prop
 |.non,u=>u=Value.none
 |.bl b,u=>u=Value.bool b
 |.int i,u=>∃t,u=Value.int i t
 |.str x,u=>∃t,u=Value.str x t
 |.byt b,u=>∃t,u=Value.bytes b t
 |.flt b,u=>∃t,u=Value.float b t
 |.ref a,u=>u=Value.ref a
 |.ty n,u=>u=Value.type n
abbrev Vals:List V→List Value→Prop:=Paired RelV
theorem Vals.length{xs:List V}{us:List Value}(r:Vals xs us):xs.length=us.length:=Paired.length r
theorem Vals.get:∀{xs:List V} {us:List Value} {i:Nat} {x:V},Vals xs us→xs[i]? =some x→∃u,us[i]? =some u∧RelV x u
 |_,_,_,_,.nil,e=>by simp at e
 |_,_,0,_,.cons r _,e=>by simp at e;subst e;exact⟨_,rfl,r⟩
 |_,_,i+1,x,.cons _ t,e=>by
  obtain⟨u,h1,h2⟩:=Vals.get (i:=i) (x:=x) t (by simpa using e)
  exact⟨u,by simpa using h1,h2⟩
theorem Vals.set{x:V}{u:Value}(r:RelV x u):∀{xs:List V} {us:List Value} (i:Nat),Vals xs us→Vals (xs.set i x) (us.set i u)
 |_,_,_,.nil=>.nil
 |_,_,0,.cons _ t=>.cons r t
 |_,_,i+1,.cons q t=>.cons q (Vals.set r i t)
theorem Vals.append:∀{xs ys:List V} {us ws:List Value},Vals xs us→Vals ys ws→Vals (xs++ys) (us++ws)
 |_,_,_,_,.nil,s=>s
 |_,_,_,_,.cons r t,s=>.cons r (Vals.append t s)
theorem Vals.take:∀{xs:List V} {us:List Value} (n:Nat),Vals xs us→Vals (xs.take n) (us.take n)
 |_,_,0,_=>.nil
 |_,_,_+1,.nil=>.nil
 |_,_,n+1,.cons r t=>.cons r (Vals.take n t)
theorem Vals.drop:∀{xs:List V} {us:List Value} (n:Nat),Vals xs us→Vals (xs.drop n) (us.drop n)
 |_,_,0,r=>r
 |_,_,_+1,.nil=>.nil
 |_,_,n+1,.cons _ t=>Vals.drop n t
def RelO:Option V→Option Value→Prop
 |some v,some u=>RelV v u
 |none,none=>True
 |_,_=>False
def KV{κ:Type}:List (κ×V)→List (κ×Value)→Prop:=Paired fun(p:κ×V) (q:κ×Value)=>p.1=q.1∧RelV p.2 q.2
def kV:Key→V
 |.inl i=>.int i
 |.inr x=>.str x
inductive HO where
 |lst (xs:List V)
 |tup (xs:List V)
 |dK (kvs:List (Key×V)) | dT (kvs:List (List Key×V))
 |set (S:Int→Bool) (n:Nat)
 |ins (C dx:Addr) (fs:List (Str×V))
 |own (x:Addr)
 |xd (fs:List (Str×V))
 |met (f x:Addr)
 |rng (lo hi:Int)
 |frz (o:Obj) (u:HO)
 |tbl (ps:Array Value)
 |ext (φ:Heap→Prop)
abbrev Hp:=Addr→Option HO
def upd(H:Hp)(a:Addr)(o:HO):Hp:=fun b=>if b=a then some o else H b
theorem zB{H:Hp}{a:Addr}{o:HO}:upd H a o a=some o:=by unfold upd;rw[if_pos rfl]
theorem zF{H:Hp}{a b:Addr}{o:HO}(h:b≠a):upd H a o b=H b:=by unfold upd;rw[if_neg h]
theorem yP{H:Hp}{a:Addr}{o u:HO}:upd (upd H a o) a u=upd H a u:=by
 funext b;unfold upd;split<;>rfl
theorem ne_of{H:Hp}{a b:Addr}{o u:HO}(h:H a=some o)(h':H b=some u)(d:o≠u):a≠b:=by
 intro e;subst e;rw[h]at h';exact d (Option.some.inj h')
theorem zH{H:Hp}{a b:Addr}{o:HO}(h:H a=some o)(h':H b=none):a≠b:=by
 intro e;subst e;rw[h]at h';cases h'
section
variable (P:Program)(w:World)
def ObjOk(H:Hp)(h:Heap)(a:Addr):HO→Prop
 |.lst xs=>xs.length≤sizeLine∧∃(its:List Value) (n:Nat),Vals xs its∧h.get? a=some { cls:=.type "list",data:=.seq its.toArray n }
 |.tup xs=>xs.length≤sizeLine∧∃its:List Value,Vals xs its∧IsTup h a its.toArray
 |.dK kvs=>kvs.length≤sizeLine∧(a==sysModules)=false∧∃vs,KV kvs vs∧h.DictOf (mixKind P w) a vs
 |.dT kvs=>kvs.length≤sizeLine∧(a==sysModules)=false∧∃xs:List (List Key×Addr×Value),
   Paired (fun(p:List Key×V) (q:List Key×Addr×Value)=>p.1=q.1∧H q.2.1=some (.tup (p.1.map kV))∧RelV p.2 q.2.2) kvs xs∧
   ∃o es ep,h.get? a=some o∧o.ExactDict∧o.data=.dict es ep∧es.toList=xs.map (entryOfKey (tupleKind (mixKind P w)))∧(xs.map (·.1)).Nodup
 |.set S n=>h.SetOf (intKind P w) a S n
 |.ins C dx fs=>H dx=some (.own a)∧fs.length≤1000∧dx≠a∧h.get? a=some (PySem.W.instObj C dx)∧
   ∃mA,h.Ns1 dx mA∧(∀f,RelO (fs.lookup f) (mA f))∧PySem.Within mA (fs.map (·.1))
 |.own _=>∃o,h.get? a=some o
 |.xd fs=>∃mA,h.Ns1 a mA∧∀f,RelO (fs.lookup f) (mA f)
 |.rng lo hi=>∃t u v,h.get? a=some { cls:=.type "range",data:=.fields #[.int lo t,.int hi u,.int 1 v] }
 |.frz o u=>h.get? a=some o∧ObjOk H h a u
 |.tbl ps=>h.get? a=some { cls:=.none,data:=.fields ps }
 |.met f x=>h.get? a=some (PySem.W.methodObj (.ref f) (.ref x))
 |.ext φ=>φ h∧(∃o,h.get? a=some o)∧∀h1 h2:Heap,φ h1→(∀o,h1.get? a=some o→h2.get? a=some o)→φ h2
def HOk(H:Hp)(h:Heap):Prop:=∀a o,H a=some o→ObjOk P w H h a o
end
section
variable {P:Program}{w:World}{H H':Hp}{h h':Heap}{a:Addr}{o:HO}
theorem ObjOk.lt(x:ObjOk P w H h a o):a<h.objs.size:=by
 cases o with
 |lst xs=>obtain⟨_,_,_,_,e⟩:=x;exact Heap.lt_size e
 |tup xs=>obtain⟨_,_,_,p⟩:=x;exact p.lt
 |dK kvs=>obtain⟨_,_,_,_,o,_,_,e,_⟩:=x;exact Heap.lt_size e
 |dT kvs=>obtain⟨_,_,_,_,o,_,_,e,_⟩:=x;exact Heap.lt_size e
 |set S n=>obtain⟨o,_,_,_,e,_⟩:=x;exact Heap.lt_size e
 |ins C dx fs=>obtain⟨_,_,_,e,_⟩:=x;exact Heap.lt_size e
 |own y=>obtain⟨_,e⟩:=x;exact Heap.lt_size e
 |xd fs=>obtain⟨_,⟨_,_,_,e,_⟩,_⟩:=x;exact Heap.lt_size e
 |rng lo hi=>obtain⟨_,_,_,e⟩:=x;exact Heap.lt_size e
 |frz ob u=>obtain⟨e,_⟩:=x;exact Heap.lt_size e
 |tbl ps=>exact Heap.lt_size (show h.get? a=some _ from x)
 |met f y=>exact Heap.lt_size (show h.get? a=some _ from x)
 |ext φ=>obtain⟨_,⟨_,e⟩,_⟩:=x;exact Heap.lt_size e
theorem Paired.mapP{α β:Type}{F G:α→β→Prop}:∀{l₁:List α} {l₂:List β},Paired F l₁ l₂→(∀a b,F a b→G a b)→Paired G l₁ l₂
 |_,_,.nil,_=>.nil
 |_,_,.cons r t,f=>.cons (f _ _ r) (Paired.mapP t f)
theorem ObjOk.stay(x:ObjOk P w H h a o)(k:∀b u,(b=a∨H b=some (.own a))→h.get? b=some u→h'.get? b=some u)
  (ho:∀b,H b=some (.own a)→H' b=some (.own a))(ht:∀b xs,H b=some (.tup xs)→H' b=some (.tup xs)):ObjOk P w H' h' a o:=by
 induction o with
 |lst xs=>obtain⟨z,its,n,r,e⟩:=x;exact⟨z,its,n,r,k _ _ (.inl rfl) e⟩
 |tup xs=>obtain⟨z,its,r,ob,e,c⟩:=x;exact⟨z,its,r,ob,k _ _ (.inl rfl) e,c⟩
 |dK kvs=>obtain⟨z,y,vs,r,ob,es,ep,e,c⟩:=x;exact⟨z,y,vs,r,ob,es,ep,k _ _ (.inl rfl) e,c⟩
 |dT kvs=>
  obtain⟨z,y,xs,r,ob,es,ep,e,c⟩:=x
  exact⟨z,y,xs,Paired.mapP r fun p q z=>⟨z.1,ht _ _ z.2.1,z.2.2⟩,ob,es,ep,k _ _ (.inl rfl) e,c⟩
 |set S n=>obtain⟨ob,es,ep,t,e,c⟩:=x;exact⟨ob,es,ep,t,k _ _ (.inl rfl) e,c⟩
 |ins C dx fs=>
  obtain⟨d,z,ne,e,mA,⟨od,es,ep,e2,c⟩,r⟩:=x
  exact⟨ho _ d,z,ne,k _ _ (.inl rfl) e,mA,⟨od,es,ep,k _ _ (.inr d) e2,c⟩,r⟩
 |own y=>obtain⟨ob,e⟩:=x;exact⟨ob,k _ _ (.inl rfl) e⟩
 |xd fs=>obtain⟨mA,⟨od,es,ep,e,c⟩,r⟩:=x;exact⟨mA,⟨od,es,ep,k _ _ (.inl rfl) e,c⟩,r⟩
 |rng lo hi=>obtain⟨t,u,v,e⟩:=x;exact⟨t,u,v,k _ _ (.inl rfl) e⟩
 |frz ob u ih=>obtain⟨e,q⟩:=x;exact⟨k _ _ (.inl rfl) e,ih q⟩
 |tbl ps=>
  have e:h.get? a=some { cls:=.none,data:=.fields ps }:=x
  show h'.get? a=some { cls:=.none,data:=.fields ps }
  exact k a _ (.inl rfl) e
 |met f y=>
  have e:h.get? a=some (PySem.W.methodObj (.ref f) (.ref y)):=x
  show h'.get? a=some (PySem.W.methodObj (.ref f) (.ref y))
  exact k a _ (.inl rfl) e
 |ext φ=>obtain⟨p,⟨o,e⟩,st⟩:=x;exact⟨st _ _ p fun o q=>k _ _ (.inl rfl) q,⟨o,k _ _ (.inl rfl) e⟩,st⟩
theorem HOk.lt(x:HOk P w H h)(e:H a=some o):a<h.objs.size:=(x a o e).lt
theorem HOk.fresh(x:HOk P w H h)(e:h.objs.size≤a):H a=none:=by
 cases q:H a with
 |none=>rfl
 |some u=>exact absurd (Nat.lt_of_lt_of_le (x.lt q) e) (Nat.lt_irrefl _)
theorem HOk.kept(x:HOk P w H h)(k:∀b u,h.get? b=some u→h'.get? b=some u):HOk P w H h':=fun a o e=>
 (x a o e).stay (fun b u _ q=>k b u q) (fun _ q=>q) fun _ _ q=>q
theorem HOk.laid(x:HOk P w H h)(k:∀b u,h.get? b=some u→h'.get? b=some u)(hp:h.objs.size≤a)(new:ObjOk P w (upd H a o) h' a o):HOk P w (upd H a o) h':=fun b u e=>by
 have hn:=x.fresh hp
 by_cases hb:b=a
 ·subst hb;rw[zB]at e;cases e;exact new
 ·rw[zF hb]at e
  exact(x b u e).stay (fun c v _ q=>k c v q) (fun c q=>by rw[zF (zH q hn)];exact q) fun c xs q=>by rw[zF (zH q hn)];exact q
end
def Rd(H:Hp)(a:Addr)(u:HO):Prop:=H a=some u∨∃o,H a=some (.frz o u)
theorem Rd.ok{P:Program}{w:World}{H:Hp}{h:Heap}{a:Addr}{u:HO}(r:Rd H a u)(x:HOk P w H h):ObjOk P w H h a u:=by
 rcases r with r | ⟨o,r⟩
 ·exact x a u r
 ·obtain⟨_,q⟩:=x a _ r
  exact q
def Mut:Option HO→Prop
 |some (.lst _)=>True
 |some (.dK _)=>True
 |some (.dT _)=>True
 |some (.set _ _)=>True
 |some (.ins _ _ _)=>True
 |some (.ext _)=>True
 |_=>False
section
variable {P:Program}{w:World}{H:Hp}{h h':Heap}{x e:Addr}{o':HO}
theorem HOk.write(ok:HOk P w H h)(mu:Mut (H x))(he:e=x∨H e=some (.own x))(k:∀b u,b≠e→h.get? b=some u→h'.get? b=some u)(heo:∃u,h'.get? e=some u)
  (new:ObjOk P w (upd H x o') h' x o'):HOk P w (upd H x o') h':=fun b u q=>by
 have nown:∀c y,H c=some (.own y)→c≠x:=fun c y r z=>by subst z;rw[r]at mu;exact mu
 have ntup:∀c xs,H c=some (.tup xs)→c≠x:=fun c xs r z=>by subst z;rw[r]at mu;exact mu
 by_cases hb:b=x
 ·subst hb;rw[zB]at q;cases q;exact new
 ·rw[zF hb]at q
  by_cases hbe:b=e
  ·have q':H b=some (.own x):=by
    rcases he with z | z
    ·exact absurd (hbe.trans z) hb
    ·rw[hbe];exact z
   rw[q]at q';cases q'
   obtain⟨v,hv⟩:=heo
   exact⟨v,by rw[hbe];exact hv⟩
  ·refine(ok b u q).stay (fun c v hc r=>k c v ?_ r) (fun c r=>by rw[zF (nown c b r)];exact r) fun c xs r=>by rw[zF (ntup c xs r)];exact r
   rcases hc with rfl | hc
   ·exact hbe
   ·rintro rfl
    rcases he with z | z
    ·exact nown c b hc z
    ·rw[hc]at z;cases z;exact hb rfl
end
structure Un (fs ex:List Addr) (H H':Hp) (h h':Heap):Prop where
 keep:∀b o,h.get? b=some o→H b=none→b∉fs→b∉ex→h'.get? b=some o
 slot:∀b o,h.get? b=some o→H b=none→b∈fs→b∉ex→∃sl,h'.get? b=some { o with slots:=sl }
 free:∀b o,h.get? b=some o→H b=none→b∉ex→H' b=none
 there:∀b o,h.get? b=some o→b∉ex→∃o',h'.get? b=some o'
 tups:∀b xs,H b=some (.tup xs)→H' b=some (.tup xs)
 frzs:∀b o u,H b=some (.frz o u)→H' b=some (.frz o u)
 tbls:∀b ps,H b=some (.tbl ps)→∃more,H' b=some (.tbl (ps++more))
section
variable {fs fs' ex ex':List Addr}{H H1 H2:Hp}{h h1 h2 h':Heap}{a x e:Addr}{o:HO}
theorem Un.any(u:Un fs ex H H1 h h1){b:Addr}{ob:Obj}(q:h.get? b=some ob)(n:H b=none)(hx:b∉ex):∃sl,h1.get? b=some { ob with slots:=sl }:=by
 by_cases hb:b∈fs
 ·exact u.slot b ob q n hb hx
 ·exact⟨ob.slots,u.keep b ob q n hb hx⟩
theorem Un.kept(k:∀b u,h.get? b=some u→h'.get? b=some u):Un fs ex H H h h':=
 ⟨fun b ob q _ _ _=>k b ob q,fun b ob q _ _ _=>⟨ob.slots,k b ob q⟩,fun _ _ _ n _=>n,fun b ob q _=>⟨ob,k b ob q⟩,fun _ _ q=>q,fun _ _ _ q=>q,fun _ ps q=>⟨#[],by rw[q];simp⟩⟩
theorem Un.refl:Un fs ex H H h h:=Un.kept fun _ _ q=>q
theorem Un.laid(k:∀b u,h.get? b=some u→h'.get? b=some u)(hp:h.objs.size≤a)(hn:H a=none):Un fs ex H (upd H a o) h h' where
 keep:=fun b u q _ _ _=>k b u q
 slot:=fun b u q _ _ _=>⟨u.slots,k b u q⟩
 free:=fun b u q n _=>by rw[zF (Nat.ne_of_lt (Nat.lt_of_lt_of_le (Heap.lt_size q) hp))];exact n
 there:=fun b u q _=>⟨u,k b u q⟩
 tups:=fun b xs q=>by rw[zF (zH q hn)];exact q
 frzs:=fun b u xs q=>by rw[zF (zH q hn)];exact q
 tbls:=fun b ps q=>⟨#[],by rw[zF (zH q hn),q];simp⟩
theorem Un.write(mu:Mut (H x))(he:e=x∨H e=some (.own x))(k:∀b u,b≠e→h.get? b=some u→h'.get? b=some u)(heo:∃u,h'.get? e=some u):Un fs ex H (upd H x o) h h':=by
 have hx:∀b,H b=none→b≠x:=fun b n z=>by subst z;rw[n]at mu;exact mu
 have hb:∀b,H b=none→b≠e:=fun b n z=>by
  subst z
  rcases he with r | r
  ·exact hx b n r
  ·rw[n]at r;cases r
 have hm:∀b u,H b=some u→¬Mut (some u)→b≠x:=fun b u q nm z=>by subst z;rw[q]at mu;exact nm mu
 refine⟨fun b u q n _ _=>k b u (hb b n) q,fun b u q n _ _=>⟨u.slots,k b u (hb b n) q⟩,fun b u q n _=>by rw[zF (hx b n)];exact n,fun b u q _=>?_,
  fun b xs q=>by rw[zF (hm b _ q fun z=>z)];exact q,fun b u xs q=>by rw[zF (hm b _ q fun z=>z)];exact q,fun b ps q=>⟨#[],by rw[zF (hm b _ q fun z=>z),q];simp⟩⟩
 by_cases hbe:b=e
 ·subst hbe;exact heo
 ·exact⟨u,k b u hbe q⟩
end
def trk(h:Heap)(H:Hp):List Addr:=(List.range h.objs.size).filter fun a=>(H a).isSome
def hidT(h:Heap)(H:Hp):Heap:=PySem.W.hideAll h (trk h H)
theorem hidT_size(h:Heap)(H:Hp):(hidT h H).objs.size=h.objs.size:=PySem.W.hideAll_size _ _
theorem hidT_get{h:Heap}{H:Hp}{b:Addr}{o:Obj}(e:h.get? b=some o)(n:H b=none):(hidT h H).get? b=some o:=
 PySem.W.hideAll_get _ e fun hm=>by
  have q:(H b).isSome=true:=(List.mem_filter.mp hm).2
  rw[n]at q;simp at q
theorem of_hidT{h:Heap}{H:Hp}{b:Addr}{o:Obj}(e:(hidT h H).get? b=some o):h.get? b=some o∧H b=none:=by
 have e':h.get? b=some o:=PySem.W.of_hideAll (trk h H) e
 refine⟨e',?_⟩
 cases q:H b with
 |none=>rfl
 |some x=>
  have hm:b∈trk h H:=List.mem_filter.mpr ⟨List.mem_range.mpr (Heap.lt_size e'),by simp[q]⟩
  have z:(hidT h H).get? b=none:=PySem.W.hideAll_none (trk h H) hm
  rw[z]at e;cases e
end L2
namespace L2
open PySem PySem.Spec PyProof.Rows
structure Mod (K:PySem.W.Frag) (mg:Str→Option Value) (base:Heap):Prop where
 kin:K.In base
 glob:base.Ns mainGlobals mg
 blt:∃mb,base.Ns builtinsNs mb∧∀x:Str,x≠ "__name__"→mb x=bootBuiltins x
 nolimit:base.NoLimit
structure Cx where
 prog:Program
 w:World
 K:PySem.W.Frag
 mg:Str→Option Value
 base:Heap
 A:Around
 N:List Str
 s_0:Shared
 H_0:Hp
 env:Env
 outer:List Env
 stack:List Env
 ex:List Addr
 fn:Str→Bool
 calm:Bool
 pn:List (Addr×Obj)
 xe:Value→Shared→Prop
def frs(l:List Env):List Addr:=l.filterMap (·.frame)
abbrev Cx.fs(X:Cx):List Addr:=frs X.outer
def Vis(sc:Scope)(x:Str):Prop:=sc.names.lookup x=some .local∨sc.names.lookup x=some .cell∨sc.names.lookup x=some .free
def Loc(sc:Scope)(x:Str):Prop:=sc.names.lookup x=some .local∨sc.names.lookup x=some .cell
def Look(env:Env)(h:Heap)(m:Str→Option Value)(x:Str)(u:Value):Prop:=
 (env.kindOf x=some .local∧m x=some u)∨((env.kindOf x=some .cell∨env.kindOf x=some .free)∧∃c,env.cells.lookup x=some c∧h.IsCell c (some u))
structure Cx.Ok (X:Cx):Prop where
 mod:Mod X.K X.mg X.base
 kind:X.env.scope.kind=.function
 glob:X.env.globals=mainGlobals
 blt:X.env.builtins=builtinsNs
 above:X.s_0.heap.objs.size≤X.env.locals
 inj:∀x y c,X.env.cells.lookup x=some c→X.env.cells.lookup y=some c→x=y
 has:∀x,(X.env.kindOf x=some .cell∨X.env.kindOf x=some .free)→∃c,X.env.cells.lookup x=some c
 cab:∀x c,X.fn x=true→X.env.cells.lookup x=some c→X.s_0.heap.objs.size≤c
 hd:X.calm=true→X.A.handled=none
 frames:X.A.frames=some X.stack
 stk:X.stack=X.outer∨(X.stack=X.env::X.outer∧X.env.frame=some X.env.locals)
 exf:∀b∈X.ex,b≠X.env.locals∧∀x c,X.env.cells.lookup x=some c→c≠b
 bs:∀b o,X.base.get? b=some o→X.s_0.heap.get? b=some o∧X.H_0 b=none
 bsz:X.base.objs.size≤X.s_0.heap.objs.size
 noex:∀b o,X.base.get? b=some o→b∉X.ex
 exfs:∀b∈X.ex,b∉X.fs
 funs:X.s_0.heap.FunFrames X.base X.outer
 frf:∀b∈X.fs,X.H_0 b=none
structure Inv (X:Cx) (pins:List (Addr×Obj)) (σ:List (Option V)) (H:Hp) (s:Shared):Prop where
 ok:X.Ok
 os:s.os=X.s_0.os
 bare:AllBare s.gens
 base:Un X.fs X.ex X.H_0 H X.s_0.heap s.heap
 loc:∃m,s.heap.Ns X.env.locals m∧∀(i:Nat) (x:Str) (v:V),X.N[i]? =some x→σ[i]? =some (some v)→Vis X.env.scope x→∃u,RelV v u∧Look X.env s.heap m x u
 cell:∀x c,X.env.cells.lookup x=some c→∃v,s.heap.IsCell c v
 free:H X.env.locals=none
 freeC:∀x c,X.env.cells.lookup x=some c→H c=none
 pin:∀p∈X.pn++pins,s.heap.get? p.1=some p.2∧H p.1=none∧p.1≠X.env.locals∧p.1∉X.fs∧∀v,p.2.data≠.cell v
 hok:HOk X.prog X.w H s.heap
 len:σ.length=X.N.length
section
variable {X:Cx}{pins:List (Addr×Obj)}{σ:List (Option V)}{H H':Hp}{s:Shared}{h':Heap}
theorem Cx.Ok.nofr(ok:X.Ok){b:Addr}{o:Obj}(e:X.base.get? b=some o):b∉X.fs:=fun hb=>by
 have:=(ok.funs.mem hb).1
 rw[e]at this;cases this
theorem Inv.bs(I:Inv X pins σ H s):∀b o,X.base.get? b=some o→s.heap.get? b=some o∧H b=none:=fun b o e=>
 ⟨I.base.keep b o (I.ok.bs b o e).1 (I.ok.bs b o e).2 (I.ok.nofr e) (I.ok.noex b o e),I.base.free b o (I.ok.bs b o e).1 (I.ok.bs b o e).2 (I.ok.noex b o e)⟩
theorem Inv.bk(I:Inv X pins σ H s):∀b o,X.base.get? b=some o→s.heap.get? b=some o:=fun b o e=>(I.bs b o e).1
theorem Inv.mod(I:Inv X pins σ H s):Mod X.K X.mg X.base:=I.ok.mod
theorem Inv.kIn(I:Inv X pins σ H s):X.K.In s.heap:=I.ok.mod.kin.keeps I.bk
theorem Inv.fr(I:Inv X pins σ H s):∃m,Fr X.base X.env.locals s.heap m:=
 let ⟨m,hn,_⟩:=I.loc
 ⟨m,hn,I.bk,Nat.le_trans I.ok.bsz I.ok.above⟩
theorem Inv.lt(I:Inv X pins σ H s):X.env.locals<s.heap.objs.size:=let ⟨_,hn,_⟩:=I.loc;hn.lt
theorem Inv.sz(I:Inv X pins σ H s):X.s_0.heap.objs.size≤s.heap.objs.size:=Nat.le_trans I.ok.above (Nat.le_of_lt I.lt)
theorem Inv.nofs(I:Inv X pins σ H s){a:Addr}(h:s.heap.objs.size≤a):a∉X.fs:=fun hb=>by
 obtain⟨_,o,ho,_⟩:=I.ok.funs.mem hb
 exact absurd (Nat.lt_of_lt_of_le (Heap.lt_size ho) (Nat.le_trans I.sz h)) (Nat.lt_irrefl _)
theorem Inv.cne(I:Inv X pins σ H s):∀x c,X.env.cells.lookup x=some c→c≠X.env.locals:=fun x c e z=>by
 obtain⟨v,o,ho,hd⟩:=I.cell x c e
 obtain⟨m,⟨o',es,ep,ho',hd',_⟩,_⟩:=I.loc
 rw[z,ho']at ho;cases ho;rw[hd']at hd;cases hd
theorem Inv.funs(I:Inv X pins σ H s):s.heap.FunFrames X.base X.outer:=by
 have all:∀(l:List Env),(∀b∈frs l,b∈X.fs)→X.s_0.heap.FunFrames X.base l→s.heap.FunFrames X.base l:=by
  intro l
  induction l with
  |nil=>intro _ _;trivial
  |cons env r ih=>
   intro hs hl
   obtain⟨hk,⟨L,o,hf,hn,ho,hd⟩,hr⟩:=hl
   have hL:L∈X.fs:=hs L (by unfold frs;rw[List.filterMap_cons,hf];exact List.mem_cons_self)
   obtain⟨sl,e⟩:=I.base.slot L o ho (I.ok.frf L hL) hL fun z=>I.ok.exfs L z hL
   exact⟨hk,⟨L,_,hf,hn,e,hd⟩,ih (fun b hb=>hs b (by unfold frs;rw[List.filterMap_cons,hf];exact List.mem_cons_of_mem _ hb)) hr⟩
 exact all X.outer (fun _ hb=>hb) I.ok.funs
theorem Inv.stack(I:Inv X pins σ H s):s.heap.FunFrames X.base X.stack:=by
 rcases I.ok.stk with e | ⟨e,hf⟩
 ·rw[e];exact I.funs
 ·rw[e]
  obtain⟨m,hn,_⟩:=I.loc
  refine .cons (by rw[I.ok.kind];decide) hf hn ?_ I.funs
  exact Heap.get?_none_of_le (Nat.le_trans I.ok.bsz I.ok.above)
theorem Inv.stkSub(I:Inv X pins σ H s):∀b∈frs X.stack,b∈X.env.locals::X.fs:=fun b hb=>by
 rcases I.ok.stk with e | ⟨e,hf⟩
 ·rw[e]at hb;exact List.mem_cons_of_mem _ hb
 ·rw[e]at hb
  unfold frs at hb
  rw[List.filterMap_cons,hf]at hb
  exact hb
theorem Inv.stkFree(I:Inv X pins σ H s):∀b∈frs X.stack,H b=none:=fun b hb=>by
 rcases List.mem_cons.mp (I.stkSub b hb)with e | hb
 ·rw[e];exact I.free
 ·obtain⟨_,o,ho,_⟩:=I.ok.funs.mem hb
  exact I.base.free b o ho (I.ok.frf b hb) fun z=>I.ok.exfs b z hb
theorem Inv.step{g':Array GenState}{t':Nat}{d':Drawn}{ch:List Addr}(I:Inv X pins σ H s)
  (hch:∀b∈ch,(b∈X.ex∨X.s_0.heap.objs.size≤b)∧b≠X.env.locals∧(∀x c,X.env.cells.lookup x=some c→c≠b)∧∀p∈X.pn++pins,p.1≠b)
  (keep:∀b o,b≠X.env.locals→b∉X.fs→b∉ch→s.heap.get? b=some o→H b=none→h'.get? b=some o)
  (slot:∀b o,b≠X.env.locals→b∈X.fs→b∉ch→s.heap.get? b=some o→H b=none→∃sl,h'.get? b=some { o with slots:=sl })(free:∀b o,b∉ch→s.heap.get? b=some o→H b=none→H' b=none)
  (there:∀b o,b∉ch→s.heap.get? b=some o→∃o',h'.get? b=some o')
  (tups:∀b xs,H b=some (.tup xs)→H' b=some (.tup xs))(frzs:∀b o u,H b=some (.frz o u)→H' b=some (.frz o u))(tbls:∀b ps,H b=some (.tbl ps)→∃more,H' b=some (.tbl (ps++more)))
  (ns:∀m,s.heap.Ns X.env.locals m→h'.Ns X.env.locals m)(hok:HOk X.prog X.w H' h')(hg:AllBare g'):
  Inv X pins σ H' { s with heap:=h',gens:=g',drawn:=d',toks:=t' }:=by
 have neL:∀b o,X.s_0.heap.get? b=some o→b≠X.env.locals:=fun b o e=>Nat.ne_of_lt (Nat.lt_of_lt_of_le (Heap.lt_size e) I.ok.above)
 have neC:∀b o,X.s_0.heap.get? b=some o→b∉X.ex→b∉ch:=fun b o e hx hb=>by
  rcases(hch b hb).1 with z | z
  ·exact hx z
  ·exact absurd (Nat.lt_of_lt_of_le (Heap.lt_size e) z) (Nat.lt_irrefl _)
 have cellK:∀x c,X.env.cells.lookup x=some c→∀v,s.heap.IsCell c v→h'.IsCell c v:=fun x c e v ⟨o,ho,hd⟩=>by
  have nch:c∉ch:=fun z=>(hch c z).2.2.1 x c e rfl
  by_cases hc:c∈X.fs
  ·obtain⟨sl,q⟩:=slot c o (I.cne x c e) hc nch ho (I.freeC x c e)
   exact⟨_,q,hd⟩
  ·exact⟨o,keep c o (I.cne x c e) hc nch ho (I.freeC x c e),hd⟩
 refine⟨I.ok,I.os,hg,⟨fun b o e n hb hx=>?_,fun b o e n hb hx=>?_,fun b o e n hx=>?_,fun b o e hx=>?_,fun b xs e=>tups b xs (I.base.tups b xs e),fun b o xs e=>frzs b o xs (I.base.frzs b o xs e),fun b ps e=>?_⟩,?_,fun x c e=>?_,?_,fun x c e=>?_,fun p hp=>?_,hok,I.len⟩
 ·exact keep b o (neL b o e) hb (neC b o e hx) (I.base.keep b o e n hb hx) (I.base.free b o e n hx)
 ·obtain⟨sl,e1⟩:=I.base.slot b o e n hb hx
  obtain⟨sl',e2⟩:=slot b _ (neL b o e) hb (neC b o e hx) e1 (I.base.free b o e n hx)
  exact⟨sl',e2⟩
 ·obtain⟨o',e1⟩:=I.base.there b o e hx
  exact free b o' (neC b o e hx) e1 (I.base.free b o e n hx)
 ·obtain⟨o',e1⟩:=I.base.there b o e hx
  exact there b o' (neC b o e hx) e1
 ·obtain⟨m1,e1⟩:=I.base.tbls b ps e
  obtain⟨m2,e2⟩:=tbls b _ e1
  exact⟨m1++m2,by rw[e2,Array.append_assoc]⟩
 ·obtain⟨m,hn,hl⟩:=I.loc
  refine⟨m,ns m hn,fun i x v e1 e2 e3=>?_⟩
  obtain⟨u,r,l⟩:=hl i x v e1 e2 e3
  refine⟨u,r,?_⟩
  rcases l with l | ⟨k,c,e,z⟩
  ·exact .inl l
  ·exact .inr ⟨k,c,e,cellK x c e _ z⟩
 ·obtain⟨v,z⟩:=I.cell x c e
  exact⟨v,cellK x c e v z⟩
 ·obtain⟨m,⟨o,_,_,ho,_⟩,_⟩:=I.loc
  exact free _ o (fun z=>(hch _ z).2.1 rfl) ho I.free
 ·obtain⟨v,o,ho,hd⟩:=I.cell x c e
  exact free c o (fun z=>(hch c z).2.2.1 x c e rfl) ho (I.freeC x c e)
 ·obtain⟨e,n,ne,nf,d⟩:=I.pin p hp
  have nch:p.1∉ch:=fun z=>(hch p.1 z).2.2.2 p hp rfl
  exact⟨keep p.1 p.2 ne nf nch e n,free p.1 p.2 nch e n,ne,nf,d⟩
theorem Inv.un{t':Nat}(I:Inv X pins σ H s)(u:Un X.fs [] H H' s.heap h')(hok:HOk X.prog X.w H' h'):Inv X pins σ H' { s with heap:=h',toks:=t' }:=by
 obtain⟨m,⟨o,es,ep,ho,r⟩,_⟩:=id I.loc
 obtain⟨sl,hL⟩:=u.any ho I.free (by simp)
 exact I.step (g':=s.gens) (d':=s.drawn) (ch:=[]) (fun _ z=>nomatch z) (fun b o _ hb _ e n=>u.keep b o e n hb (by simp)) (fun b o _ hb _ e n=>u.slot b o e n hb (by simp)) (fun b o _ e n=>u.free b o e n (by simp)) (fun b o _ e=>u.there b o e (by simp)) u.tups u.frzs u.tbls (fun m' hm=>by
  obtain⟨o',es',ep',ho',r'⟩:=hm
  rw[ho]at ho';cases ho'
  exact⟨_,es',ep',hL,r'⟩) hok I.bare
theorem Inv.call{g':Array GenState}{t':Nat}{d':Drawn}{ch:List Addr}(I:Inv X pins σ H s)(u:Un (frs X.stack) ch H H' s.heap h')(hok:HOk X.prog X.w H' h')(hg:AllBare g')
  (hch:∀b∈ch,(b∈X.ex∨X.s_0.heap.objs.size≤b)∧b≠X.env.locals∧(∀x c,X.env.cells.lookup x=some c→c≠b)∧∀p∈X.pn++pins,p.1≠b):
  Inv X pins σ H' { s with heap:=h',gens:=g',drawn:=d',toks:=t' }:=by
 obtain⟨m,⟨o,es,ep,ho,r⟩,_⟩:=id I.loc
 obtain⟨sl,hL⟩:=u.any ho I.free fun z=>(hch _ z).2.1 rfl
 exact I.step (ch:=ch) hch (fun b o hL hb hc e n=>u.keep b o e n (fun z=>(List.mem_cons.mp (I.stkSub b z)).elim hL hb) hc) (fun b o _ _ hc e n=>u.any e n hc) (fun b o hc e n=>u.free b o e n hc) (fun b o hc e=>u.there b o e hc) u.tups u.frzs u.tbls (fun m' hm=>by
  obtain⟨o',es',ep',ho',r'⟩:=hm
  rw[ho]at ho';cases ho'
  exact⟨_,es',ep',hL,r'⟩) hok hg
theorem Inv.turned{t':Nat}{it:Addr}(I:Inv X pins σ H s)(k:∀b o,b≠it→s.heap.get? b=some o→h'.get? b=some o)(hn:H it=none)(hL:it≠X.env.locals)
  (h1:it∈X.ex∨X.s_0.heap.objs.size≤it)(h2:∀x c,X.env.cells.lookup x=some c→c≠it)(h3:∀p∈X.pn++pins,p.1≠it):Inv X pins σ H { s with heap:=h',toks:=t' }:=by
 have nit:∀b u,H b=some u→b≠it:=fun b u e z=>by rw[z,hn]at e;cases e
 refine I.step (g':=s.gens) (d':=s.drawn) (ch:=[it]) (fun b hb=>?_) (fun b o _ _ hc e _=>k b o (fun z=>hc (by simp[z])) e) (fun b o _ _ hc e _=>⟨o.slots,k b o (fun z=>hc (by simp[z])) e⟩) (fun _ _ _ _ n=>n)
  (fun b o hc e=>⟨o,k b o (fun z=>hc (by simp[z])) e⟩) (fun _ _ e=>e) (fun _ _ _ e=>e) (fun b ps e=>⟨#[],by rw[e];simp⟩) (fun m hm=>?_) (fun b u e=>?_) I.bare
 ·have e:b=it:=by simpa using hb
  subst e
  exact⟨h1,hL,h2,h3⟩
 ·obtain⟨o,es,ep,ho,r⟩:=hm
  exact⟨o,es,ep,k _ o (Ne.symm hL) ho,r⟩
 ·refine(I.hok b u e).stay (fun c v hc q=>k c v ?_ q) (fun _ q=>q) fun _ _ q=>q
  rcases hc with z | z
  ·rw[z];exact nit b u e
  ·exact nit c _ z
theorem Inv.tok(I:Inv X pins σ H s)(t:Nat):Inv X pins σ H { s with toks:=t }:=I.un (h':=s.heap) (t':=t) Un.refl I.hok
theorem Inv.kept{t':Nat}(I:Inv X pins σ H s)(k:∀b u,s.heap.get? b=some u→h'.get? b=some u):Inv X pins σ H { s with heap:=h',toks:=t' }:=I.un (Un.kept k) (I.hok.kept k)
theorem Inv.laid{a:Addr}{o:HO}{t':Nat}(I:Inv X pins σ H s)(k:∀b u,s.heap.get? b=some u→h'.get? b=some u)(hp:s.heap.objs.size≤a)(new:ObjOk X.prog X.w (upd H a o) h' a o):
  Inv X pins σ (upd H a o) { s with heap:=h',toks:=t' }:=I.un (Un.laid k hp (I.hok.fresh hp)) (I.hok.laid k hp new)
theorem Inv.write{x e:Addr}{o:HO}{t':Nat}(I:Inv X pins σ H s)(mu:Mut (H x))(he:e=x∨H e=some (.own x))(k:∀b u,b≠e→s.heap.get? b=some u→h'.get? b=some u)(heo:∃u,h'.get? e=some u)
  (new:ObjOk X.prog X.w (upd H x o) h' x o):Inv X pins σ (upd H x o) { s with heap:=h',toks:=t' }:=I.un (Un.write mu he k heo) (I.hok.write mu he k heo new)
theorem Inv.weak{σ':List (Option V)}(I:Inv X pins σ H s)(hl:σ'.length=σ.length)(w:∀(i:Nat) v,σ'[i]? =some (some v)→σ[i]? =some (some v)):Inv X pins σ' H s:=
 ⟨I.ok,I.os,I.bare,I.base,let ⟨m,hn,hl'⟩:=I.loc;⟨m,hn,fun i x v e1 e2 e3=>hl' i x v e1 (w i v e2) e3⟩,I.cell,I.free,I.freeC,I.pin,I.hok,hl.trans I.len⟩
theorem Inv.pins_of{pins':List (Addr×Obj)}(I:Inv X pins σ H s)(h:∀p∈pins',s.heap.get? p.1=some p.2∧H p.1=none∧p.1≠X.env.locals∧p.1∉X.fs∧∀v,p.2.data≠.cell v):Inv X pins' σ H s:=
 ⟨I.ok,I.os,I.bare,I.base,I.loc,I.cell,I.free,I.freeC,fun p hp=>(List.mem_append.mp hp).elim (fun z=>I.pin p (List.mem_append_left _ z)) (h p),I.hok,I.len⟩
theorem nodup_ix{N:List Str}(hN:N.Nodup){i j:Nat}{x:Str}(a:N[i]? =some x)(b:N[j]? =some x):i=j:=by
 obtain⟨h1,e1⟩:=List.getElem?_eq_some_iff.mp a
 obtain⟨h2,e2⟩:=List.getElem?_eq_some_iff.mp b
 exact(List.getElem_inj hN).mp (e1.trans e2.symm)
theorem store_ok2{M:Model}{A:Around}{E:Value→Shared→Prop}{i:Nat}{x:Str}{v:V}{u:Value}{Q:Unit→Shared→Prop}(I:Inv X pins σ H s)(hN:X.N.Nodup)(hi:X.N[i]? =some x)(hx:Loc X.env.scope x)(r:RelV v u)
  (h:∀s',Inv X pins (σ.set i (some v)) H s'→(∃a,Heap.SameBut a s.heap s'.heap∧(a=X.env.locals∨X.env.cells.lookup x=some a))→Q () s')(hf:X.fn x=true∨X.env.scope.names.lookup x=some .local:=by first | exact .inl rfl | exact .inr rfl | assumption):wpAny M A (storeName X.env x u) Q E s:=by
 obtain⟨m,hn,hl⟩:=id I.loc
 have hcls:(X.env.scope.kind==.class || (X.env.scope.kind==.module&&X.env.locals != X.env.globals))=false:=by rw[I.ok.kind];rfl
 have hiσ:i<σ.length:=by rw[I.len];exact(List.getElem?_eq_some_iff.mp hi).1
 have cne:=I.cne
 have tracked:∀{a:Addr} {h':Heap},(∃o,s.heap.get? a=some o∧H a=none)→Heap.SameBut a s.heap h'→HOk X.prog X.w H h':=fun {a h'} ha hs b ob e=>by
  obtain⟨_,_,hfree⟩:=ha
  refine(I.hok b ob e).stay (fun c w' hc q=>(hs.2 c ?_).trans q) (fun _ q=>q) fun _ _ q=>q
  rintro rfl
  rcases hc with rfl | hc
  ·rw[hfree]at e;cases e
  ·rw[hfree]at hc;cases hc
 rcases hx with hk | hk
 ·refine wpAny_storeName_local hk hn (fun h' hn' hs=>?_) hcls
  obtain⟨oL,_,_,hoL,_⟩:=id hn
  refine h _ ⟨I.ok,I.os,I.bare,⟨fun b o e n hb hx=>?_,fun b o e n hb hx=>?_,I.base.free,fun b o e hx=>?_,I.base.tups,I.base.frzs,I.base.tbls⟩,⟨_,hn',fun j y v' e1 e2 e3=>?_⟩,fun y c e=>?_,I.free,I.freeC,fun p hp=>?_,tracked ⟨oL,hoL,I.free⟩ hs,by simpa using I.len⟩ ⟨_,hs,.inl rfl⟩
  ·exact(hs.2 b (Nat.ne_of_lt (Nat.lt_of_lt_of_le (Heap.lt_size e) I.ok.above))).trans (I.base.keep b o e n hb hx)
  ·obtain⟨sl,e1⟩:=I.base.slot b o e n hb hx
   exact⟨sl,(hs.2 b (Nat.ne_of_lt (Nat.lt_of_lt_of_le (Heap.lt_size e) I.ok.above))).trans e1⟩
  ·obtain⟨o',e1⟩:=I.base.there b o e hx
   exact⟨o',(hs.2 b (Nat.ne_of_lt (Nat.lt_of_lt_of_le (Heap.lt_size e) I.ok.above))).trans e1⟩
  ·by_cases hj:j=i
   ·subst hj
    rw[hi]at e1;cases e1
    rw[List.getElem?_set_self hiσ]at e2
    cases e2
    exact⟨u,r,.inl ⟨hk,by simp⟩⟩
   ·rw[List.getElem?_set_ne (Ne.symm hj)]at e2
    obtain⟨u',r',q⟩:=hl j y v' e1 e2 e3
    refine⟨u',r',?_⟩
    rcases q with⟨k,e⟩ | ⟨k,c,e,z⟩
    ·refine .inl ⟨k,?_⟩
     have:y≠x:=fun e=>hj (nodup_ix hN e1 (e▸hi))
     simp[this,e]
    ·exact .inr ⟨k,c,e,z.sameBut hs (cne y c e)⟩
  ·obtain⟨w',z⟩:=I.cell y c e
   exact⟨w',z.sameBut hs (cne y c e)⟩
  ·obtain⟨e,n,ne,nf,d⟩:=I.pin p hp
   exact⟨(hs.2 p.1 ne).trans e,n,ne,nf,d⟩
 ·have hfn:X.fn x=true:=by
   rcases hf with z | z
   ·exact z
   ·rw[z]at hk;cases hk
  obtain⟨c,hc⟩:=I.ok.has x (.inl hk)
  obtain⟨w',z⟩:=I.cell x c hc
  refine wpAny_storeName_cell I.ok.kind hk hc z (fun h' hc' hs=>?_)
  obtain⟨oc,hoc,hocd⟩:=id z
  refine h { s with heap:=h' } ⟨I.ok,I.os,I.bare,⟨fun b o e n hb hx=>?_,fun b o e n hb hx=>?_,I.base.free,fun b o e hx=>?_,I.base.tups,I.base.frzs,I.base.tbls⟩,⟨m,hn.sameBut hs (Ne.symm (cne x c hc)),fun j y v' e1 e2 e3=>?_⟩,fun y c' e=>?_,I.free,I.freeC,fun p hp=>?_,tracked ⟨oc,hoc,I.freeC x c hc⟩ hs,by simpa using I.len⟩ ⟨c,hs,.inr hc⟩
  ·exact(hs.2 b (Nat.ne_of_lt (Nat.lt_of_lt_of_le (Heap.lt_size e) (I.ok.cab x c hfn hc)))).trans (I.base.keep b o e n hb hx)
  ·obtain⟨sl,e1⟩:=I.base.slot b o e n hb hx
   exact⟨sl,(hs.2 b (Nat.ne_of_lt (Nat.lt_of_lt_of_le (Heap.lt_size e) (I.ok.cab x c hfn hc)))).trans e1⟩
  ·obtain⟨o',e1⟩:=I.base.there b o e hx
   exact⟨o',(hs.2 b (Nat.ne_of_lt (Nat.lt_of_lt_of_le (Heap.lt_size e) (I.ok.cab x c hfn hc)))).trans e1⟩
  ·by_cases hj:j=i
   ·subst hj
    rw[hi]at e1;cases e1
    rw[List.getElem?_set_self hiσ]at e2
    cases e2
    exact⟨u,r,.inr ⟨.inl hk,c,hc,hc'⟩⟩
   ·rw[List.getElem?_set_ne (Ne.symm hj)]at e2
    obtain⟨u',r',q⟩:=hl j y v' e1 e2 e3
    refine⟨u',r',?_⟩
    rcases q with q | ⟨k,c',e,z'⟩
    ·exact .inl q
    ·refine .inr ⟨k,c',e,z'.sameBut hs ?_⟩
     rintro rfl
     exact hj (nodup_ix hN e1 (I.ok.inj _ _ _ e hc▸hi))
  ·by_cases hcc:c'=c
   ·subst hcc;exact⟨_,hc'⟩
   ·obtain⟨w2,z2⟩:=I.cell y c' e
    exact⟨w2,z2.sameBut hs hcc⟩
  ·obtain⟨e,n,ne,nf,d⟩:=I.pin p hp
   refine⟨(hs.2 p.1 ?_).trans e,n,ne,nf,d⟩
   intro q
   rw[q,hoc]at e
   have q':oc=p.2:=Option.some.inj e
   exact d w' (by rw[←q'];exact hocd)
theorem store_ok{M:Model}{A:Around}{E:Value→Shared→Prop}{i:Nat}{x:Str}{v:V}{u:Value}{Q:Unit→Shared→Prop}(I:Inv X pins σ H s)(hN:X.N.Nodup)(hi:X.N[i]? =some x)(hx:Loc X.env.scope x)(r:RelV v u)
  (h:∀s',Inv X pins (σ.set i (some v)) H s'→Q () s')(hf:X.fn x=true∨X.env.scope.names.lookup x=some .local:=by first | exact .inl rfl | exact .inr rfl | assumption):wpAny M A (storeName X.env x u) Q E s:=
 store_ok2 I hN hi hx r (fun s' I' _=>h s' I') hf
theorem Inv.call'{s':Shared}{ch:List Addr}(I:Inv X pins σ H s)(ho:s'.os=s.os)(u:Un (frs X.stack) ch H H' s.heap s'.heap)(hok:HOk X.prog X.w H' s'.heap)(hg:AllBare s'.gens)
  (hch:∀b∈ch,(b∈X.ex∨X.s_0.heap.objs.size≤b)∧b≠X.env.locals∧(∀x c,X.env.cells.lookup x=some c→c≠b)∧∀p∈X.pn++pins,p.1≠b):Inv X pins σ H' s':=by
 obtain⟨h',g',d',t',o'⟩:=s'
 have e:o'=s.os:=ho
 subst e
 exact I.call (g':=g') (t':=t') (d':=d') u hok hg hch
end
abbrev XK:=Value→Option Addr→Hp→Prop
abbrev St:=List (Option V)
abbrev VK:=V→Hp→Prop
abbrev TE:=St→Hp→VK→Prop
abbrev TT:=St→Hp→(Bool→Hp→Prop)→Prop
abbrev TA:=St→Hp→(List V→Hp→Prop)→Prop
structure Ends where
 nx:St→Hp→Prop
 rt:VK
 bk:St→Hp→Prop:=fun _ _=>False
 ct:St→Hp→Prop:=fun _ _=>False
abbrev TS:=Ends→St→Hp→Prop
def EP(X:Cx)(pins:List (Addr×Obj))(σ:St)(Q:VK)(u:Value)(s':Shared):Prop:=∃v H',Inv X pins σ H' s'∧RelV v u∧Q v H'
def TP(X:Cx)(pins:List (Addr×Obj))(σ:St)(Q:Bool→Hp→Prop)(b:Bool)(s':Shared):Prop:=∃H',Inv X pins σ H' s'∧Q b H'
def AP(X:Cx)(pins:List (Addr×Obj))(σ:St)(Q:List V→Hp→Prop)(us:List Value)(s':Shared):Prop:=∃vs H',Inv X pins σ H' s'∧Vals vs us∧Q vs H'
def SP(X:Cx)(pins:List (Addr×Obj))(D:Ends)(f:Flow)(s':Shared):Prop:=
 match f with
 |.next=>∃σ' H',Inv X pins σ' H' s'∧D.nx σ' H'
 |.brk=>∃σ' H',Inv X pins σ' H' s'∧D.bk σ' H'
 |.cont=>∃σ' H',Inv X pins σ' H' s'∧D.ct σ' H'
 |.ret u=>∃v σ' H',Inv X pins σ' H' s'∧RelV v u∧D.rt v H'
def PE(X:Cx)(e:Expr)(t:TE):Prop:=
 ∀(pins:List (Addr×Obj)) (s:Shared) (σ:St) (H:Hp) (Q:VK),Inv X pins σ H s→t σ H Q→wpAny (model X.prog X.w) X.A (eval e X.env) (EP X pins σ Q) X.xe s
def PT(X:Cx)(e:Expr)(t:TT):Prop:=
 ∀(pins:List (Addr×Obj)) (s:Shared) (σ:St) (H:Hp) (Q:Bool→Hp→Prop),Inv X pins σ H s→t σ H Q→wpAny (model X.prog X.w) X.A (isTrue e X.env (eval e X.env)) (TP X pins σ Q) X.xe s
def PW(X:Cx)(e:Expr)(t:TT):Prop:=
 ∀(whole:Sem Value) (pins:List (Addr×Obj)) (s:Shared) (σ:St) (H:Hp) (Q:Bool→Hp→Prop),Inv X pins σ H s→t σ H Q→wpAny (model X.prog X.w) X.A (isTrue e X.env whole) (TP X pins σ Q) X.xe s
theorem PW.pt{X:Cx}{e:Expr}{t:TT}(h:PW X e t):PT X e t:=h _
def PA(X:Cx)(es:List Expr)(t:TA):Prop:=
 ∀(pos:Pos) (pins:List (Addr×Obj)) (s:Shared) (σ:St) (H:Hp) (Q:List V→Hp→Prop),Inv X pins σ H s→t σ H Q→wpAny (model X.prog X.w) X.A (spliced (backTo pos (starEach es X.env))) (AP X pins σ Q) X.xe s
def PS(X:Cx)(st:Stmt)(t:TS):Prop:=
 ∀(pins:List (Addr×Obj)) (s:Shared) (σ:St) (H:Hp) (D:Ends),Inv X pins σ H s→t D σ H→wpAny (model X.prog X.w) X.A (exec st X.env) (SP X pins D) X.xe s
def PSs(X:Cx)(st:List Stmt)(t:TS):Prop:=
 ∀(pins:List (Addr×Obj)) (s:Shared) (σ:St) (H:Hp) (D:Ends),Inv X pins σ H s→t D σ H→wpAny (model X.prog X.w) X.A (execs st X.env) (SP X pins D) X.xe s
theorem thn{α:Type}{t:Sem α}{Q Q':α→Shared→Prop}{M:Model}{A:Around}{E:Value→Shared→Prop}{s:Shared}(h:wpAny M A t Q E s)(hQ:∀a s,Q a s→Q' a s):wpAny M A t Q' E s:=wpAny_mono h hQ fun _ _ x=>x
end L2
namespace L2
open PySem PySem.Spec PyProof.Rows
section
variable {X:Cx}
theorem bin{a b:Expr}{ta tb:TE}(ha:PE X a ta)(hb:PE X b tb){pins:List (Addr×Obj)}{s:Shared}{σ:St}{H:Hp}{R:V→V→Hp→Prop}(I:Inv X pins σ H s)(h:ta σ H fun x H1=>tb σ H1 fun y H2=>R x y H2)
  {α:Type}{Q:α→Shared→Prop}{f:Value→Value→Sem α}
  (hf:∀v u s2 x y H2,Inv X pins σ H2 s2→RelV x v→RelV y u→R x y H2→wpAny (model X.prog X.w) X.A (f v u) Q X.xe s2):
  wpAny (model X.prog X.w) X.A (eval a X.env) (fun v s₁=>wpAny (model X.prog X.w) X.A (eval b X.env) (fun u s₂=>wpAny (model X.prog X.w) X.A (f v u) Q X.xe s₂) X.xe s₁) X.xe s:=by
 refine thn (ha pins s σ H _ I h) fun v s1 ⟨x,H1,I1,r1,q1⟩=>?_
 refine thn (hb pins s1 σ H1 _ I1 q1) fun u s2 ⟨y,H2,I2,r2,q2⟩=>?_
 exact hf v u s2 x y H2 I2 r1 r2 q2
def tVar(i:Nat):TE:=fun σ H Q=>∃v,σ[i]? =some (some v)∧Q v H
def tC(v:V):TE:=fun _ H Q=>Q v H
theorem pe_var{i:Nat}{x:Str}{pos:Pos}(hN:X.N[i]? =some x)(hv:Vis X.env.scope x)(hd:(x==("__debug__":Str))=false:=by decide)(hcd:(x==("__classdict__":Str))=false:=by decide):PE X (.Name x pos) (tVar i):=by
 intro pins s σ H Q I h
 obtain⟨v,e,h⟩:=h
 obtain⟨m,hn,hl⟩:=I.loc
 obtain⟨u,r,l⟩:=hl i x v hN e hv
 have fin:EP X pins σ Q u s:=⟨v,H,I,r,h⟩
 rcases l with⟨hk,hm⟩ | ⟨hk,c,hc,hcell⟩
 ·exact wpAny_Name (wpAny_loadName_local I.ok.kind hk hn hm fin) hd
 ·rcases hk with hk | hk
  ·exact wpAny_Name (wpAny_loadName_cell I.ok.kind hk hc hcell fin) hd
  ·exact wpAny_Name (wpAny_loadName_free I.ok.kind hk hc hcell fin hcd) hd
theorem zI{i j pos}:PE X (.Constant (.int i) j pos) (tC (.int i)):=fun _ _ _ H _ I h=>wpAny_Constant_int ⟨.int i,H,I.tok _,⟨_,rfl⟩,h⟩
theorem pe_bl{b j pos}:PE X (.Constant (.bool b) j pos) (tC (.bl b)):=fun _ _ _ H _ I h=>Constant_bool ⟨.bl b,H,I,rfl,h⟩
theorem pe_non{j pos}:PE X (.Constant .none j pos) (tC .non):=fun _ _ _ H _ I h=>Constant_none ⟨.non,H,I,rfl,h⟩
theorem zT{x j pos}:PE X (.Constant (.str x) j pos) (tC (.str x)):=fun _ _ _ H _ I h=>Calls.Constant_str ⟨.str x,H,I.tok _,⟨_,rfl⟩,h⟩
def Gl(X:Cx)(x:Str):Prop:=X.env.kindOf x=some .globalImplicit
theorem ld_glob{E:Value→Shared→Prop}{pins:List (Addr×Obj)}{s:Shared}{σ:St}{H:Hp}{x:Str}{u:Value}{pos:Pos}{Q:Value→Shared→Prop}(I:Inv X pins σ H s)(hg:Gl X x)(hm:X.mg x=some u)(h:Q u s)
  (hd:(x==("__debug__":Str))=false:=by decide):wpAny (model X.prog X.w) X.A (eval (.Name x pos) X.env) Q E s:=
 Calls.Name_function_global I.ok.kind hg (Calls.loadGlobal_global (by rw[I.ok.glob];exact I.mod.glob.keeps I.bk) hm h) hd
theorem ld_blt{E:Value→Shared→Prop}{pins:List (Addr×Obj)}{s:Shared}{σ:St}{H:Hp}{x:Str}{u:Value}{pos:Pos}{Q:Value→Shared→Prop}(I:Inv X pins σ H s)(hg:Gl X x)(hm:X.mg x=none)(hv:bootBuiltins x=some u)(h:Q u s)
  (hn:x≠ "__name__":=by decide)(hd:(x==("__debug__":Str))=false:=by decide):wpAny (model X.prog X.w) X.A (eval (.Name x pos) X.env) Q E s:=by
 obtain⟨mb,h1,h2⟩:=I.mod.blt
 exact Calls.Name_function_global I.ok.kind hg (Calls.loadGlobal_builtin (by rw[I.ok.glob];exact I.mod.glob.keeps I.bk) hm (by rw[I.ok.blt];exact h1.keeps I.bk) ((h2 x hn).trans hv) h) hd
theorem zQ{x:Str}{v:V}{u:Value}{pos:Pos}(hg:Gl X x)(hm:X.mg x=some u)(r:RelV v u)(hd:(x==("__debug__":Str))=false:=by decide):PE X (.Name x pos) (tC v):=
 fun _ _ _ H _ I h=>ld_glob I hg hm ⟨v,H,I,r,h⟩ hd
variable {a b:Expr}{ta tb:TE}{pos:Pos}
def PC(X:Cx)(op:CmpOp)(a b:Expr)(t:TE):Prop:=
 ∀(pins:List (Addr×Obj)) (s:Shared) (σ:St) (H:Hp) (Q:VK),Inv X pins σ H s→t σ H Q→
  wpAny (model X.prog X.w) X.A (eval a X.env) (fun v s₁=>wpAny (model X.prog X.w) X.A (eval b X.env) (fun u s₂=>wpAny (model X.prog X.w) X.A (compareOp op v u) (EP X pins σ Q) X.xe s₂) X.xe s₁) X.xe s
def tB(t:TE):TT:=fun σ H Q=>t σ H fun x H1=>∃c,x=.bl c∧Q c H1
theorem pe_cmp{op:CmpOp}{t:TE}(h:PC X op a b t)(h1:behindInMarks op b=false:=by first | exact nobehind _ (by decide) (by decide) | rfl):PE X (.Compare a [op] [b] pos) t:=fun pins s σ H Q I hw=>wpAny_Compare1 (h pins s σ H Q I hw) h1
theorem pt_cmp{op:CmpOp}{t:TE}(h:PC X op a b t)(h1:behindInMarks op b=false:=by first | exact nobehind _ (by decide) (by decide) | rfl):PT X (.Compare a [op] [b] pos) (tB t):=by
 intro pins s σ H Q I hw
 refine wpAny_isTrue_Compare1 (thn (h pins s σ H _ I hw) fun v s1 h1=>thn h1 fun u s2 h2=>thn h2 fun c s3 ⟨x,H1,I1,r1,q1⟩=>?_) h1
 obtain⟨d,rfl,q⟩:=q1
 cases r1
 exact wpAny_truthy_bool ⟨H1,I1,q⟩
theorem pt_val{e:Expr}{t:TE}(h:PE X e t)(he:∀whole,isTrue e X.env whole=(do let v ←whole;standAt e.pos;holding [v] (truthy v)):=by intro _;rfl):PT X e (tB t):=by
 intro pins s σ H Q I hw
 refine isTrue_plain (thn (h pins s σ H _ I hw) fun v s1 ⟨x,H1,I1,r1,q1⟩=>?_) (he _)
 obtain⟨d,rfl,q⟩:=q1
 cases r1
 exact wpAny_truthy_bool ⟨H1,I1,q⟩
variable {tA tB':TT}{rest:List Expr}
def tAnd(t u:TT):TT:=fun σ H Q=>t σ H fun c H1=>if c=true then u σ H1 Q else Q false H1
def tOr(t u:TT):TT:=fun σ H Q=>t σ H fun c H1=>if c=true then Q true H1 else u σ H1 Q
def tNot(t:TT):TT:=fun σ H Q=>t σ H fun c H1=>Q (!c) H1
theorem pw_and1(ha:PT X a tA):PW X (.BoolOp .And [a] pos) tA:=by
 intro wh pins s σ H Q I h
 refine isTrue_and (thn (ha pins s σ H Q I h) fun c s1 e=>?_)
 cases c with
 |true=>exact isTrue_and_nil e
 |false=>exact e
theorem pw_or1(ha:PT X a tA):PW X (.BoolOp .Or [a] pos) tA:=by
 intro wh pins s σ H Q I h
 refine isTrue_or (thn (ha pins s σ H Q I h) fun c s1 e=>?_)
 cases c with
 |false=>exact isTrue_or_nil e
 |true=>exact e
theorem pw_and(ha:PT X a tA)(hb:PW X (.BoolOp .And (b::rest) pos) tB'):PW X (.BoolOp .And (a::b::rest) pos) (tAnd tA tB'):=by
 intro wh pins s σ H Q I h
 refine isTrue_and (thn (ha pins s σ H _ I h) fun c s1 ⟨H1,I1,q1⟩=>?_)
 cases c with
 |true=>exact hb wh pins s1 σ H1 Q I1 q1
 |false=>exact⟨H1,I1,q1⟩
theorem pw_or(ha:PT X a tA)(hb:PW X (.BoolOp .Or (b::rest) pos) tB'):PW X (.BoolOp .Or (a::b::rest) pos) (tOr tA tB'):=by
 intro wh pins s σ H Q I h
 refine isTrue_or (thn (ha pins s σ H _ I h) fun c s1 ⟨H1,I1,q1⟩=>?_)
 cases c with
 |true=>exact⟨H1,I1,q1⟩
 |false=>exact hb wh pins s1 σ H1 Q I1 q1
theorem pt_not(ha:PT X a tA):PT X (.UnaryOp .Not a pos) (tNot tA):=by
 intro pins s σ H Q I h
 exact isTrue_not (ha pins s σ H (fun c H1=>Q (!c) H1) I h)
def tAndV(ta tb:TE):TE:=fun σ H Q=>ta σ H fun x H1=>∃c,x=.bl c∧if c=true then tb σ H1 Q else Q (.bl false) H1
theorem pe_one{op}{t:TE}(h:PE X a t):PE X (.BoolOp op [a] pos) t:=fun pins s σ H Q I hw=>BoolOp_one (h pins s σ H Q I hw)
theorem pe_and(ha:PE X a ta)(hb:PE X (.BoolOp .And (b::rest) pos) tb):PE X (.BoolOp .And (a::b::rest) pos) (tAndV ta tb):=by
 intro pins s σ H Q I h
 refine BoolOp_and (thn (ha pins s σ H _ I h) fun v s1 ⟨x,H1,I1,r1,q1⟩=>?_)
 obtain⟨c,rfl,q1⟩:=q1
 cases r1
 refine wpAny_truthy_bool ?_
 cases c with
 |true=>exact hb pins s1 σ H1 Q I1 q1
 |false=>exact⟨.bl false,H1,I1,rfl,q1⟩
def tIf(t:TT)(ta tb:TE):TE:=fun σ H Q=>t σ H fun c H1=>if c=true then ta σ H1 Q else tb σ H1 Q
theorem pe_ifExp{c:Expr}(hc:PT X c tA)(ha:PE X a ta)(hb:PE X b tb):PE X (.IfExp c a b pos) (tIf tA ta tb):=by
 intro pins s σ H Q I h
 refine wpAny_IfExp (thn (hc pins s σ H _ I h) fun d s1 ⟨H1,I1,q1⟩=>?_)
 cases d with
 |true=>exact ha pins s1 σ H1 Q I1 q1
 |false=>exact hb pins s1 σ H1 Q I1 q1
end
end L2
namespace L2
open PySem PySem.Spec PyProof.Rows
def SqL(K:PySem.W.Frag)(H:Hp)(a:Addr)(xs:List V):Prop:=
 Rd H a (.lst xs)∨
  ∃(o:Obj) (its:Array Value) (n:Nat),K.lookup a=some o∧o.cls=.type "list"∧o.dict=none∧o.data=.seq its n∧its.size≤sizeLine∧Vals xs its.toList
def SqT(K:PySem.W.Frag)(H:Hp)(a:Addr)(xs:List V):Prop:=
 Rd H a (.tup xs)∨
  ∃(o:Obj) (its:Array Value) (n:Nat),K.lookup a=some o∧o.cls=.type "tuple"∧o.data=.seq its n∧its.size≤sizeLine∧Vals xs its.toList
def absV:Value→Option V
 |.none=>some .non
 |.bool b=>some (.bl b)
 |.int i _=>some (.int i)
 |.str x _=>some (.str x)
 |.bytes b _=>some (.byt b)
 |.float b _=>some (.flt b)
 |.ref a=>some (.ref a)
 |.type n=>some (.ty n)
 |_=>none
theorem RelV.abs{x:V}{u:Value}(r:RelV x u):absV u=some x:=by
 cases x with
 |non=>cases r;rfl
 |bl _=>cases r;rfl
 |int _=>obtain⟨t,rfl⟩:=r;rfl
 |str _=>obtain⟨t,rfl⟩:=r;rfl
 |byt _=>obtain⟨t,rfl⟩:=r;rfl
 |flt _=>obtain⟨t,rfl⟩:=r;rfl
 |ref _=>cases r;rfl
 |ty _=>cases r;rfl
theorem RelV.inj{x y:V}{u:Value}(r:RelV x u)(q:RelV y u):x=y:=Option.some.inj (r.abs.symm.trans q.abs)
theorem Vals.inj:∀{xs ys:List V} {us:List Value},Vals xs us→Vals ys us→xs=ys
 |_,_,_,.nil,.nil=>rfl
 |_,_,_,.cons r t,.cons r' t'=>by rw[r.inj r',Vals.inj t t']
section
variable {X:Cx}{pins:List (Addr×Obj)}{σ:St}{H:Hp}{s:Shared}{a:Addr}{xs ys:List V}
theorem SqL.of{K:PySem.W.Frag}(h:H a=some (.lst xs)):SqL K H a xs:=.inl (.inl h)
theorem SqT.of{K:PySem.W.Frag}(h:H a=some (.tup xs)):SqT K H a xs:=.inl (.inl h)
theorem Inv.list(I:Inv X pins σ H s)(h:SqL X.K H a xs):∃its:List Value,Vals xs its∧PlainL s.heap a its.toArray∧xs.length≤sizeLine:=by
 rcases h with h | ⟨o,its,n,hk,hc,hd,hs,hz,r⟩
 ·obtain⟨z,its,n,r,e⟩:=h.ok I.hok
  exact⟨its,r,⟨_,n,e,rfl,rfl,rfl⟩,z⟩
 ·refine⟨its.toList,r,⟨o,n,I.kIn a o hk,hc,hd,by simpa using hs⟩,?_⟩
  have e:=r.length
  simp only[Array.length_toList]at e
  omega
theorem Inv.tuple(I:Inv X pins σ H s)(h:SqT X.K H a xs):∃its:List Value,Vals xs its∧IsTup s.heap a its.toArray∧xs.length≤sizeLine:=by
 rcases h with h | ⟨o,its,n,hk,hc,hs,hz,r⟩
 ·obtain⟨z,its,r,p⟩:=h.ok I.hok
  exact⟨its,r,p,z⟩
 ·refine⟨its.toList,r,⟨o,I.kIn a o hk,hc,n,by simpa using hs⟩,?_⟩
  have e:=r.length
  simp only[Array.length_toList]at e
  omega
theorem Inv.list_inj(I:Inv X pins σ H s)(h:SqL X.K H a xs)(h':SqL X.K H a ys):xs=ys:=by
 obtain⟨its,r,⟨o,n,e,_,_,d⟩,_⟩:=I.list h
 obtain⟨its',r',⟨o',n',e',_,_,d'⟩,_⟩:=I.list h'
 rw[e]at e';cases e'
 rw[d]at d'
 injection d' with d1 _
 have:its=its':=by simpa using congrArg Array.toList d1
 subst this
 exact r.inj r'
theorem Inv.tuple_inj(I:Inv X pins σ H s)(h:SqT X.K H a xs)(h':SqT X.K H a ys):xs=ys:=by
 obtain⟨its,r,⟨o,e,_,n,d⟩,_⟩:=I.tuple h
 obtain⟨its',r',⟨o',e',_,n',d'⟩,_⟩:=I.tuple h'
 rw[e]at e';cases e'
 rw[d]at d'
 injection d' with d1 _
 have:its=its':=by simpa using congrArg Array.toList d1
 subst this
 exact r.inj r'
end
abbrev Cx.wish(X:Cx)(E:Value→Shared→Prop):Cx:={ X with xe:=E }
abbrev Cx.nox(X:Cx):Cx:=X.wish fun _ _=>False
theorem Cx.Ok.wish{X:Cx}(ok:X.Ok)(E:Value→Shared→Prop):(X.wish E).Ok:=
 ⟨ok.mod,ok.kind,ok.glob,ok.blt,ok.above,ok.inj,ok.has,ok.cab,ok.hd,ok.frames,ok.stk,ok.exf,ok.bs,ok.bsz,ok.noex,ok.exfs,ok.funs,ok.frf⟩
theorem Cx.Ok.unwish{X:Cx}{E:Value→Shared→Prop}(ok:(X.wish E).Ok):X.Ok:=
 ⟨ok.mod,ok.kind,ok.glob,ok.blt,ok.above,ok.inj,ok.has,ok.cab,ok.hd,ok.frames,ok.stk,ok.exf,ok.bs,ok.bsz,ok.noex,ok.exfs,ok.funs,ok.frf⟩
section
variable {X:Cx}{pins:List (Addr×Obj)}{σ:St}{H:Hp}{s:Shared}{E:Value→Shared→Prop}
theorem Inv.wish(I:Inv X pins σ H s)(E:Value→Shared→Prop):Inv (X.wish E) pins σ H s:=⟨I.ok.wish E,I.os,I.bare,I.base,I.loc,I.cell,I.free,I.freeC,I.pin,I.hok,I.len⟩
theorem Inv.unwish(I:Inv (X.wish E) pins σ H s):Inv X pins σ H s:=⟨I.ok.unwish,I.os,I.bare,I.base,I.loc,I.cell,I.free,I.freeC,I.pin,I.hok,I.len⟩
theorem SP.unwish{D:Ends}{f:Flow}{s':Shared}(h:SP (X.wish E) pins D f s'):SP X pins D f s':=by
 cases f with
 |next=>obtain⟨σ',H',I,q⟩:=h;exact⟨σ',H',I.unwish,q⟩
 |brk=>obtain⟨σ',H',I,q⟩:=h;exact⟨σ',H',I.unwish,q⟩
 |cont=>obtain⟨σ',H',I,q⟩:=h;exact⟨σ',H',I.unwish,q⟩
 |ret u=>obtain⟨v,σ',H',I,r,q⟩:=h;exact⟨v,σ',H',I.unwish,r,q⟩
theorem PSs.nox{st:List Stmt}{t:TS}(h:PSs X.nox st t):PSs X st t:=fun pins s σ H D I hw=>
 wpAny_mono (h pins s σ H D (I.wish _) hw) (fun _ _ q=>q.unwish) fun _ _ z=>False.elim z
end
section
variable {X:Cx}{st:Stmt}{rest:List Stmt}{t u:TS}{e:Expr}{te:TE}{pos:Pos}
def tNext:TS:=fun D σ H=>D.nx σ H
def tSeq(t u:TS):TS:=fun D σ H=>t { D with nx:=u D } σ H
theorem zL:PSs X [] tNext:=fun _ _ σ H _ I h=>wpAny_execs_nil ⟨σ,H,I,h⟩
theorem zD(h1:PS X st t)(h2:PSs X rest u):PSs X (st::rest) (tSeq t u):=by
 intro pins s σ H D I h
 refine wpAny_execs_cons (thn (h1 pins s σ H { D with nx:=u D } I h) fun f s1 q=>?_)
 cases f with
 |next=>
  obtain⟨σ',H',I',q⟩:=q
  exact h2 pins s1 σ' H' D I' q
 |ret v=>exact q
 |brk=>exact q
 |cont=>exact q
theorem zE(h1:PS X st t):PSs X [st] t:=by
 intro pins s σ H D I h
 refine wpAny_execs_cons (thn (h1 pins s σ H D I h) fun f s1 q=>?_)
 cases f with
 |next=>exact wpAny_execs_nil q
 |ret v=>exact q
 |brk=>exact q
 |cont=>exact q
theorem Inv.quiet{pins:List (Addr×Obj)}{σ:St}{H:Hp}{s:Shared}(I:Inv X pins σ H s):interactive X.env=false:=by simp[interactive,I.ok.kind]
def tDrop(te:TE):TS:=fun D σ H=>te σ H fun _ H1=>D.nx σ H1
theorem yA(he:PE X e te)(hs:swapsWith e none pos.line X.env=pure false:=by rfl):PS X (.Expr e pos) (tDrop te):=by
 intro pins s σ H D I h
 exact wpAny_Expr_any (thn (he pins s σ H _ I h) fun v s1 ⟨x,H1,I1,r1,q1⟩=>⟨σ,H1,I1,q1⟩) I.quiet hs
def tRet(te:TE):TS:=fun D σ H=>te σ H D.rt
theorem zN(he:PE X e te):PS X (.Return (some e) pos) (tRet te):=by
 intro pins s σ H D I h
 exact wpAny_Return_some (thn (he pins s σ H _ I h) fun v s1 ⟨x,H1,I1,r1,q1⟩=>⟨x,σ,H1,I1,r1,q1⟩)
def tRetN:TS:=fun D _ H=>D.rt .non H
theorem ps_retN:PS X (.Return none pos) tRetN:=fun _ _ σ H _ I h=>wpAny_Return_none ⟨.non,σ,H,I,rfl,h⟩
def tIfS(c:TT)(t u:TS):TS:=fun D σ H=>c σ H fun b H1=>if b=true then t D σ H1 else u D σ H1
theorem zV{c:Expr}{a b:List Stmt}{tc:TT}(hc:PT X c tc)(ha:PSs X a t)(hb:PSs X b u):PS X (.If c a b pos) (tIfS tc t u):=by
 intro pins s σ H D I h
 refine wpAny_If (thn (hc pins s σ H _ I h) fun d s1 ⟨H1,I1,q1⟩=>?_)
 cases d with
 |true=>exact ha pins s1 σ H1 D I1 q1
 |false=>exact hb pins s1 σ H1 D I1 q1
end
abbrev TG:=V→St→Hp→(St→Hp→Prop)→Prop
abbrev TGs:=List V→St→Hp→(St→Hp→Prop)→Prop
def PG(X:Cx)(target:Expr)(t:TG):Prop:=
 ∀(pins:List (Addr×Obj)) (s:Shared) (σ:St) (H:Hp) (v:V) (u:Value) (Q:St→Hp→Prop),Inv X pins σ H s→RelV v u→t v σ H Q→
  wpAny (model X.prog X.w) X.A (assign target X.env u) (fun _ s'=>∃σ' H',Inv X pins σ' H' s'∧Q σ' H') X.xe s
def PGs(X:Cx)(ts:List Expr)(t:TGs):Prop:=
 ∀(pins:List (Addr×Obj)) (s:Shared) (σ:St) (H:Hp) (vs:List V) (us:List Value) (Q:St→Hp→Prop),Inv X pins σ H s→Vals vs us→t vs σ H Q→
  wpAny (model X.prog X.w) X.A (assignInOrder ((assignEach ts X.env).map (·.2)) us) (fun _ s'=>∃σ' H',Inv X pins σ' H' s'∧Q σ' H') X.xe s
abbrev TSet:=V→V→V→Hp→(Hp→Prop)→Prop
def PSet(X:Cx)(t:TSet):Prop:=
 ∀(pins:List (Addr×Obj)) (s:Shared) (σ:St) (H:Hp) (o i v:V) (ov iv u:Value) (Q:Hp→Prop),Inv X pins σ H s→RelV o ov→RelV i iv→RelV v u→t o i v H Q→
  wpAny (model X.prog X.w) X.A (setItem ov iv u) (fun _ s'=>∃H',Inv X pins σ H' s'∧Q H') X.xe s
section
variable {X:Cx}{pos:Pos}
def gName(i:Nat):TG:=fun v σ H Q=>Q (σ.set i (some v)) H
theorem yJ{i:Nat}{x:Str}(hN:X.N.Nodup)(hi:X.N[i]? =some x)(hx:Loc X.env.scope x)(hf:X.fn x=true∨X.env.scope.names.lookup x=some .local:=by first | exact .inl rfl | exact .inr rfl | assumption):PG X (.Name x pos) (gName i):=by
 intro pins s σ H v u Q I r h
 exact wpAny_assign_Name (store_ok I hN hi hx r (fun s' I'=>⟨_,H,I',h⟩) hf)
def gNil:TGs:=fun vs σ H Q=>vs=[]∧Q σ H
def gCons(t:TG)(u:TGs):TGs:=fun vs σ H Q=>∃v r,vs=v::r∧t v σ H fun σ' H'=>u r σ' H' Q
theorem pgs_nil:PGs X [] gNil:=by
 intro pins s σ H vs us Q I r h
 obtain⟨e,h⟩:=h
 subst e
 cases r
 exact assignInOrder_nil ⟨σ,H,I,h⟩
theorem pgs_cons{e:Expr}{es:List Expr}{t:TG}{u:TGs}(h1:PG X e t)(h2:PGs X es u)
  (hs:(assignEach (e::es) X.env).map (·.2)=assign e X.env::(assignEach es X.env).map (·.2):=by rfl):PGs X (e::es) (gCons t u):=by
 intro pins s σ H vs us Q I r h
 obtain⟨v,vr,e1,h⟩:=h
 subst e1
 cases r with
 |cons r rr=>
  rw[hs]
  refine assignInOrder_cons (thn (h1 pins s σ H _ _ _ I r h) fun _ s1 ⟨σ1,H1,I1,q1⟩=>?_)
  exact h2 pins s1 σ1 H1 _ _ Q I1 rr q1
def gTup(K:PySem.W.Frag)(n:Nat)(t:TGs):TG:=fun v σ H Q=>∃a xs,v=.ref a∧SqT K H a xs∧xs.length=n∧t xs σ H Q
theorem pg_tup{es:List Expr}{k:Nat}{t:TGs}{n:Nat}(hc:X.calm=true)(h:PGs X es t)
  (hn:(assignEach es X.env).length=n:=by rfl)(hst:(assignEach es X.env).findIdx? (·.1)=none:=by rfl):PG X (.Tuple es k pos) (gTup X.K n t):=by
 intro pins s σ H v u Q I r hw
 obtain⟨a,xs,e1,hq,hl,hw⟩:=hw
 subst e1
 cases r
 obtain⟨its,rv,ht,hz⟩:=I.tuple hq
 refine assign_Tuple_tuple (I.ok.hd hc) ht (by simp[hn,←hl,rv.length]) hst fun h' hx=>?_
 have I1:Inv X pins σ H { s with heap:=h' }:=I.kept (t':=s.toks) fun b o e=>hx b o (Nat.ne_of_lt (Heap.lt_size e)) e
 exact h pins _ σ H xs _ Q I1 (by simpa using rv) hw
def gSub(to ti:TE)(t:TSet):TG:=fun v σ H Q=>to σ H fun o H1=>ti σ H1 fun i H2=>t o i v H2 fun H3=>Q σ H3
theorem pg_sub{o i:Expr}{to ti:TE}{t:TSet}(ho:PE X o to)(hi:PE X i ti)(hs:PSet X t)
  (ha:∀v,assign (.Subscript o i pos) X.env v=(do
   let ov ←holding [v] (eval o X.env)
   let iv ←holding [v,ov] (eval i X.env)
   standAt pos
   holding [v,ov,iv] (setItem ov iv v)
   release [v,ov,iv] []):=by intro _;rfl):PG X (.Subscript o i pos) (gSub to ti t):=by
 intro pins s σ H v u Q I r h
 rw[ha]
 refine wpAny_bind (wpAny_holding (thn (ho pins s σ H _ I h) fun ov s1 ⟨x,H1,I1,r1,q1⟩=>?_))
 refine wpAny_bind (wpAny_holding (thn (hi pins s1 σ H1 _ I1 q1) fun iv s2 ⟨y,H2,I2,r2,q2⟩=>?_))
 refine wpAny_bind (wpAny_standAt (wpAny_bind (wpAny_holding (thn (hs pins s2 σ H2 x y v ov iv u _ I2 r1 r2 r q2) fun _ s3 ⟨H3,I3,q3⟩=>?_))))
 exact wpAny_release ⟨σ,H3,I3,q3⟩
def tAsg(te:TE)(g:TG):TS:=fun D σ H=>te σ H fun x H1=>g x σ H1 D.nx
theorem ps_asg{tg e:Expr}{te:TE}{g:TG}(he:PE X e te)(hg:PG X tg g)(hs:swapsWithSole [tg] e pos.line X.env=pure false:=by rfl)(hw:swappedStores [tg] e X.env=pure none:=by rfl)
  (h1:(assignEach [tg] X.env).map (·.2)=[assign tg X.env]:=by rfl):PS X (.Assign [tg] e pos) (tAsg te g):=by
 intro pins s σ H D I h
 refine wpAny_Assign_stores (thn (he pins s σ H _ I h) fun v s1 ⟨x,H1,I1,r1,q1⟩=>?_) hs hw
 rw[h1]
 exact thn (hg pins s1 σ H1 x v _ I1 r1 q1) fun _ s2 q=>q
theorem zZ{i:Nat}{x:Str}{e:Expr}{te:TE}{pos':Pos}(hN:X.N.Nodup)(hi:X.N[i]? =some x)(hx:Loc X.env.scope x)(he:PE X e te)(hs:swapsWith e (some (.Name x pos')) pos.line X.env=pure false:=by rfl)(hf:X.fn x=true∨X.env.scope.names.lookup x=some .local:=by first | exact .inl rfl | exact .inr rfl | assumption):
  PS X (.Assign [.Name x pos'] e pos) (tAsg te (gName i)):=by
 intro pins s σ H D I h
 refine wpAny_Assign_Name (thn (he pins s σ H _ I h) fun v s1 ⟨y,H1,I1,r1,q1⟩=>?_) hs
 exact store_ok I1 hN hi hx r1 (fun s2 I2=>⟨_,H1,I2,q1⟩) hf
end
section
variable {X:Cx}{pos:Pos}
end
structure It where
 go:Nat→Hp→Prop
 yld:Nat→Hp→V→Hp→Prop
 stop:Nat→Hp→Prop
def FpOk(X:Cx)(pins:List (Addr×Obj))(H:Hp)(b:Addr):Prop:=
 H b=none∧b≠X.env.locals∧b∉X.fs∧(b∈X.ex∨X.s_0.heap.objs.size≤b)∧(∀x c,X.env.cells.lookup x=some c→c≠b)∧∀p∈X.pn++pins,p.1≠b
theorem Inv.fpOk{X:Cx}{pins:List (Addr×Obj)}{σ:St}{H H':Hp}{s:Shared}{b:Addr}(I:Inv X pins σ H s)(hb:s.heap.objs.size≤b)(hn:H' b=none):FpOk X pins H' b:=by
 refine⟨hn,Nat.ne_of_gt (Nat.lt_of_lt_of_le I.lt hb),I.nofs hb,.inr (Nat.le_trans I.sz hb),fun x c e z=>?_,fun p hp z=>?_⟩
 ·obtain⟨v,q⟩:=I.cell x c e
  exact absurd (Nat.lt_of_lt_of_le q.lt (by rw[z];exact hb)) (Nat.lt_irrefl _)
 ·exact absurd (Nat.lt_of_lt_of_le (Heap.lt_size (I.pin p hp).1) (by rw[z];exact hb)) (Nat.lt_irrefl _)
structure Turn (P:Program) (w:World) (K:PySem.W.Frag) (tg:Expr) (J:It) (fp:List Addr) (it:Addr) (tn:Nat→Heap→Prop):Prop where
 mem:it∈fp
 obj:∀i h,tn i h→∀b∈fp,∃o,h.get? b=some o∧∀v,o.data≠.cell v
 keep:∀i h h',tn i h→(∀b∈fp,∀o,h.get? b=some o→h'.get? b=some o)→tn i h'
 item:∀(X:Cx),X.prog=P→X.w=w→X.K=K→X.calm=true→∀(i:Nat) (pins:List (Addr×Obj)) (s:Shared) (σ:St) (H:Hp) (E:Value→Shared→Prop),Inv X pins σ H s→(∀b∈fp,FpOk X pins H b)→tn i s.heap→J.go i H→
  wpAny (model P w) X.A (pyNext (.ref it)) (fun r s1=>∃u,r=some u∧
   wpAny (model P w) X.A (letOwnedTupleGo tg (.ref it) u) (fun _ s2=>∃x H',Inv X pins σ H' s2∧RelV x u∧J.yld i H x H'∧tn (i+1) s2.heap∧∀b∈fp,H' b=none) E s1) E s
 done:∀(X:Cx),X.prog=P→X.w=w→X.K=K→X.calm=true→∀(i:Nat) (pins:List (Addr×Obj)) (s:Shared) (σ:St) (H:Hp) (E:Value→Shared→Prop),Inv X pins σ H s→(∀b∈fp,FpOk X pins H b)→tn i s.heap→J.stop i H→
  wpAny (model P w) X.A (pyNext (.ref it)) (fun r s1=>r=none∧Inv X pins σ H s1) E s
 self:∀(A:Around) (i:Nat) (s:Shared) (Q:Value→Shared→Prop) (E:Value→Shared→Prop),tn i s.heap→Q (.ref it) s→wpAny (model P w) A (pyIter (.ref it)) Q E s
abbrev TI:=St→Hp→(It→Hp→Prop)→Prop
def PIE(X:Cx)(pins:List (Addr×Obj))(σ:St)(tg:Expr)(R:It→Hp→Prop)(itv:Value)(s2:Shared):Prop:=
 ∃(it:Addr) (fp:List Addr) (tn:Nat→Heap→Prop) (J:It) (H':Hp),itv=.ref it∧Inv X pins σ H' s2∧Turn X.prog X.w X.K tg J fp it tn∧tn 0 s2.heap∧(∀b∈fp,FpOk X pins H' b)∧R J H'
def PI(X:Cx)(tg iter:Expr)(wi:TI):Prop:=
 ∀(pins:List (Addr×Obj)) (s:Shared) (σ:St) (H:Hp) (R:It→Hp→Prop),Inv X pins σ H s→wi σ H R→
  wpAny (model X.prog X.w) X.A (eval iter X.env) (fun v s1=>wpAny (model X.prog X.w) X.A (pyIter v) (PIE X pins σ tg R) X.xe s1) X.xe s
theorem go_of{M:Model}{A:Around}{E:Value→Shared→Prop}{s:Shared}{tg:Expr}{it:Addr}{u:Value}{o:Obj}{n:String}{vs:Array Value}{Q:Unit→Shared→Prop}(ho:s.heap.get? it=some o)(hc:o.cls=.type n)(hd:o.data=.fields vs)
  (hn:["enumerate","zip","dict_itemiterator","dict_reverseitemiterator","odict_iterator","itertools.zip_longest","itertools.pairwise"].contains n=false)(hQ:Q () s):wpAny M A (letOwnedTupleGo tg (.ref it) u) Q E s:=by
 unfold letOwnedTupleGo
 cases tg<;>first
  |exact wpAny_pure hQ
  | (cases u<;>first
    |exact wpAny_pure hQ
    | (refine wpAny_bind (wpAny_load ho ?_)
       rw[hc,hd]
       show wpAny M A (if(["enumerate","zip","dict_itemiterator","dict_reverseitemiterator","odict_iterator","itertools.zip_longest","itertools.pairwise"].contains n&&vs[0]? ==some (rawInt _))=true then _ else _) Q E s
       rw[if_neg (by intro h;rw[hn,Bool.false_and]at h;cases h)]
       exact wpAny_pure hQ))
def Itl(K:PySem.W.Frag)(a:Addr):It:=
 ⟨fun i H=>∃xs x,SqL K H a xs∧xs[i]? =some x,fun i H x H'=>H'=H∧∀xs,SqL K H a xs→xs[i]? =some x,fun i H=>∃xs,SqL K H a xs∧xs.length≤i⟩
def Itt(K:PySem.W.Frag)(a:Addr):It:=
 ⟨fun i H=>∃xs x,SqT K H a xs∧xs[i]? =some x,fun i H x H'=>H'=H∧∀xs,SqT K H a xs→xs[i]? =some x,fun i H=>∃xs,SqT K H a xs∧xs.length≤i⟩
def Itr(lo:Int)(n:Nat):It:=⟨fun i _=>i<n,fun i H x H'=>H'=H∧x=.int (lo+i),fun i _=>n≤i⟩
theorem turn_list{P:Program}{w:World}{K:PySem.W.Frag}{tg:Expr}(a it:Addr):Turn P w K tg (Itl K a) [it] it (fun i h=>h.IsListIter it a i) where
 mem:=by simp
 obj:=fun i h st b hb=>by
  have e:b=it:=by simpa using hb
  subst e
  obtain⟨o,e,c,d⟩:=st
  exact⟨o,e,fun v z=>by rw[d]at z;cases z⟩
 keep:=fun i h h' st k=>st.at fun o e=>k it (by simp) o e
 item:=by
  intro X hP hw hK hc i pins s σ H E I hf st hg
  subst hP hw hK
  obtain⟨xs,x,hq,hx⟩:=hg
  obtain⟨its,rv,p,hz⟩:=I.list hq
  obtain⟨u,hu,ru⟩:=rv.get hx
  obtain⟨f0,f1,f2,f3,f4,f5⟩:=hf it (by simp)
  refine wpAny_pyNext_list_item st p.isList (x:=u) (by simpa using hu) fun h' st' sb=>?_
  have I1:Inv X pins σ H { s with heap:=h' }:=I.turned (t':=s.toks) (fun b o hb e=>(sb.2 b hb).trans e) f0 f1 f3 f4 f5
  obtain⟨o,e,c,d⟩:=id st'
  exact⟨u,rfl,go_of (s:={ s with heap:=h' }) e c d (by decide) ⟨x,H,I1,ru,⟨rfl,fun ys hy=>by rw[I.list_inj hy hq];exact hx⟩,st',fun b hb=>(hf b hb).1⟩⟩
 done:=by
  intro X hP hw hK hc i pins s σ H E I hf st hg
  subst hP hw hK
  obtain⟨xs,hq,hx⟩:=hg
  obtain⟨its,rv,p,hz⟩:=I.list hq
  obtain⟨f0,f1,f2,f3,f4,f5⟩:=hf it (by simp)
  have hl:=rv.length
  exact wpAny_pyNext_list_end (I.ok.hd hc) st p.isList (by simp;omega) fun h' eb=>⟨rfl,I.turned (t':=s.toks) (fun b o hb e=>eb b o hb e) f0 f1 f3 f4 f5⟩
 self:=fun _ _ _ _ _ st h=>wpAny_pyIter_listiter st h
theorem turn_tuple{P:Program}{w:World}{K:PySem.W.Frag}{tg:Expr}(a it:Addr):Turn P w K tg (Itt K a) [it] it (fun i h=>h.IsTupleIter it a i) where
 mem:=by simp
 obj:=fun i h st b hb=>by
  have e:b=it:=by simpa using hb
  subst e
  obtain⟨o,e,c,d⟩:=st
  exact⟨o,e,fun v z=>by rw[d]at z;cases z⟩
 keep:=fun i h h' st k=>st.at fun o e=>k it (by simp) o e
 item:=by
  intro X hP hw hK hc i pins s σ H E I hf st hg
  subst hP hw hK
  obtain⟨xs,x,hq,hx⟩:=hg
  obtain⟨its,rv,p,hz⟩:=I.tuple hq
  obtain⟨u,hu,ru⟩:=rv.get hx
  obtain⟨f0,f1,f2,f3,f4,f5⟩:=hf it (by simp)
  refine wpAny_pyNext_tuple_item st (show s.heap.IsTuple a its.toArray from p) (x:=u) (by simpa using hu) fun h' st' sb=>?_
  have I1:Inv X pins σ H { s with heap:=h' }:=I.turned (t':=s.toks) (fun b o hb e=>(sb.2 b hb).trans e) f0 f1 f3 f4 f5
  obtain⟨o,e,c,d⟩:=id st'
  exact⟨u,rfl,go_of (s:={ s with heap:=h' }) e c d (by decide) ⟨x,H,I1,ru,⟨rfl,fun ys hy=>by rw[I.tuple_inj hy hq];exact hx⟩,st',fun b hb=>(hf b hb).1⟩⟩
 done:=by
  intro X hP hw hK hc i pins s σ H E I hf st hg
  subst hP hw hK
  obtain⟨xs,hq,hx⟩:=hg
  obtain⟨its,rv,p,hz⟩:=I.tuple hq
  obtain⟨f0,f1,f2,f3,f4,f5⟩:=hf it (by simp)
  have hl:=rv.length
  exact wpAny_pyNext_tuple_end (I.ok.hd hc) st (show s.heap.IsTuple a its.toArray from p) (by simp;omega) fun h' eb=>⟨rfl,I.turned (t':=s.toks) (fun b o hb e=>eb b o hb e) f0 f1 f3 f4 f5⟩
 self:=fun _ _ _ _ _ st h=>wpAny_pyIter_tupleiter st h
theorem turn_range{P:Program}{w:World}{K:PySem.W.Frag}{tg:Expr}(it:Addr)(lo:Int)(n:Nat):Turn P w K tg (Itr lo n) [it] it (fun i h=>IsRangeIter h it (lo+ (i:Nat) *1) ((n:Int) - (i:Nat)) 1) where
 mem:=by simp
 obj:=fun i h st b hb=>by
  have e:b=it:=by simpa using hb
  subst e
  exact⟨_,st,fun v z=>by
   have z':Data.fields _=Data.cell v:=z
   cases z'⟩
 keep:=fun i h h' st k=>k it (by simp) _ st
 item:=by
  intro X hP hw hK hc i pins s σ H E I hf st hg
  subst hP hw hK
  obtain⟨f0,f1,f2,f3,f4,f5⟩:=hf it (by simp)
  have W:=Walks.range (prog:=X.prog) (w:=X.w) (I.ok.hd hc) it lo 1 n
  refine W.item i s _ _ hg st fun v h' tk hv st' kk=>?_
  obtain⟨t,rfl⟩:=hv
  have I1:Inv X pins σ H { s with heap:=h',toks:=tk }:=I.turned (fun b o hb e=>kk b o (by simpa using hb) e) f0 f1 f3 f4 f5
  refine⟨_,rfl,go_of (s:={ s with heap:=h',toks:=tk }) (n:= "range_iterator") st' rfl rfl (by decide) ⟨.int (lo+i),H,I1,⟨t,?_⟩,⟨rfl,rfl⟩,st',fun b hb=>(hf b hb).1⟩⟩
  rw[Int.mul_one]
 done:=by
  intro X hP hw hK hc i pins s σ H E I hf st hg
  subst hP hw hK
  obtain⟨f0,f1,f2,f3,f4,f5⟩:=hf it (by simp)
  exact wpAny_pyNext_range_end (I.ok.hd hc) st (by have:n≤i:=hg;omega) fun h' eb=>⟨rfl,I.turned (t':=s.toks) (fun b o hb e=>eb b o hb e) f0 f1 f3 f4 f5⟩
 self:=fun _ _ _ _ _ st h=>wpAny_pyIter_rangeiter st h
end L2
namespace L2
open PySem PySem.Spec PyProof.Rows
section
variable {X:Cx}{tg:Expr}
def iList(K:PySem.W.Frag)(tl:TE):TI:=fun σ H R=>tl σ H fun x H1=>∃a,x=.ref a∧(∃xs,SqL K H1 a xs)∧R (Itl K a) H1
def iTup(K:PySem.W.Frag)(tl:TE):TI:=fun σ H R=>tl σ H fun x H1=>∃a,x=.ref a∧(∃xs,SqT K H1 a xs)∧R (Itt K a) H1
theorem pi_list{l:Expr}{tl:TE}(hl:PE X l tl):PI X tg l (iList X.K tl):=by
 intro pins s σ H R I h
 refine thn (hl pins s σ H _ I h) fun v s1 ⟨x,H1,I1,r1,q1⟩=>?_
 obtain⟨a,e,⟨xs,hq⟩,q⟩:=q1
 subst e
 cases r1
 obtain⟨its,rv,p,hz⟩:=I1.list hq
 refine wpAny_pyIter_list p.isList ?_
 refine⟨s1.heap.objs.size,[s1.heap.objs.size],_,_,H1,rfl,I1.kept (t':=s1.toks) fun b o e=>Heap.get?_push_of_some _ e,turn_list a _,⟨_,Heap.get?_push_size _ rfl,rfl,rfl⟩,fun b hb=>?_,q⟩
 have e:b=s1.heap.objs.size:=by simpa using hb
 subst e
 exact I1.fpOk (Nat.le_refl _) (I1.hok.fresh (Nat.le_refl _))
theorem pi_tup{l:Expr}{tl:TE}(hl:PE X l tl):PI X tg l (iTup X.K tl):=by
 intro pins s σ H R I h
 refine thn (hl pins s σ H _ I h) fun v s1 ⟨x,H1,I1,r1,q1⟩=>?_
 obtain⟨a,e,⟨xs,hq⟩,q⟩:=q1
 subst e
 cases r1
 obtain⟨its,rv,p,hz⟩:=I1.tuple hq
 refine wpAny_pyIter_tuple (show s1.heap.IsTuple a its.toArray from p) ?_
 refine⟨s1.heap.objs.size,[s1.heap.objs.size],_,_,H1,rfl,I1.kept (t':=s1.toks) fun b o e=>Heap.get?_push_of_some _ e,turn_tuple a _,⟨_,Heap.get?_push_size _ rfl,rfl,rfl⟩,fun b hb=>?_,q⟩
 have e:b=s1.heap.objs.size:=by simpa using hb
 subst e
 exact I1.fpOk (Nat.le_refl _) (I1.hok.fresh (Nat.le_refl _))
theorem range_it{pins:List (Addr×Obj)}{σ:St}{H:Hp}{s:Shared}{R:It→Hp→Prop}{E:Value→Shared→Prop}{lo hi:Int}{t u v:Tok}{tk:Nat}(I:Inv X pins σ H s)(h1: -(2 ^ 62)≤lo)(h2:lo<2 ^ 62)(h3: -(2 ^ 62)≤hi)(h4:hi<2 ^ 62)
  (q:R (Itr lo (hi-lo).toNat) H):wpAny (model X.prog X.w) X.A (pyIter (.ref s.heap.objs.size)) (PIE X pins σ tg R) E { s with heap:=s.heap.push { cls:=.type "range",data:=.fields #[.int lo t,.int hi u,.int 1 v] },toks:=tk }:=by
 refine wpAny_pyIter_range (IsRange.new ..) (small_one h1 h2 h3 h4) ?_
 have I1:Inv X pins σ H { s with heap:=s.heap.push { cls:=.type "range",data:=.fields #[.int lo t,.int hi u,.int 1 v] },toks:=tk }:=I.kept fun b o e=>Heap.get?_push_of_some _ e
 refine⟨(s.heap.push { cls:=.type "range",data:=.fields #[.int lo t,.int hi u,.int 1 v] }).objs.size,[(s.heap.push { cls:=.type "range",data:=.fields #[.int lo t,.int hi u,.int 1 v] }).objs.size],_,_,H,rfl,
  I1.kept (t':=tk) fun b o e=>Heap.get?_push_of_some _ e,turn_range _ lo (hi-lo).toNat,?_,fun b hb=>?_,q⟩
 ·have e1:lo+ ((0:Nat):Int) *1=lo:=by simp
  have e2:(((hi-lo).toNat:Nat):Int) - ((0:Nat):Int)=Builtin.Range.rangeSize lo hi 1:=by rw[rangeSize_one];split<;>omega
  show IsRangeIter _ _ (lo+ ((0:Nat):Int) *1) ((((hi-lo).toNat:Nat):Int) - ((0:Nat):Int)) 1
  rw[e1,e2]
  exact Heap.get?_push_size _ rfl
 ·have e:b=(s.heap.push { cls:=.type "range",data:=.fields #[.int lo t,.int hi u,.int 1 v] }).objs.size:=by simpa using hb
  subst e
  exact I1.fpOk (Nat.le_refl _) (I1.hok.fresh (Nat.le_refl _))
def iRng1(ta:TA):TI:=fun σ H R=>ta σ H fun vs H1=>∃j:Int,vs=[.int j]∧-(2 ^ 62)≤j∧j<2 ^ 62∧R (Itr 0 j.toNat) H1
theorem pi_range1{a:Expr}{ta:TA}{p pos:Pos}(hg:Gl X "range")(hm:X.mg "range"=none)(ha:PA X [a] ta)(hs:starEach [a] X.env=[(false,eval a X.env)]:=by rfl):PI X tg (.Call (.Name "range" p) [a] [] pos) (iRng1 ta):=by
 intro pins s σ H R I h
 refine Call_ (ld_blt I hg hm boot_range (PyProof.Rows.callWith_type1 (thn (ha pos pins s σ H _ I h) fun us s1 ⟨vs,H1,I1,r1,q1⟩=>?_) hs rfl))
 obtain⟨j,e,q1,q2,q⟩:=q1
 subst e
 cases r1 with
 |cons r rr=>
  cases rr
  obtain⟨t,rfl⟩:=r
  exact call_range_1 (range_it I1 (by omega) (by omega) q1 q2 (by simpa using q))
def tFor(wi:TI)(g:TG)(tb:TS):TS:=fun D σ H=>wi σ H fun J H1=>∃W:Nat→Nat→St→Hp→Prop,(∃m,W 0 m σ H1)∧∀i m σ H,W i m σ H→
 (J.stop i H∧D.nx σ H)∨(J.go i H∧∃N:St→Hp→Prop,(∀σ' H',N σ' H'→∃m',m'<m∧W (i+1) m' σ' H')∧∀x H',J.yld i H x H'→g x σ H' fun σ2 H2=>tb { D with nx:=N,ct:=N,bk:=D.nx } σ2 H2)
def pinsAt(fp:List Addr)(h:Heap):List (Addr×Obj):=fp.filterMap fun b=>(h.get? b).map fun o=>(b,o)
theorem mem_pinsAt{fp:List Addr}{h:Heap}{b:Addr}{o:Obj}(hb:b∈fp)(e:h.get? b=some o):(b,o)∈pinsAt fp h:=List.mem_filterMap.mpr ⟨b,hb,by rw[e];rfl⟩
theorem of_pinsAt{fp:List Addr}{h:Heap}{p:Addr×Obj}(hp:p∈pinsAt fp h):p.1∈fp∧h.get? p.1=some p.2:=by
 obtain⟨b,hb,e⟩:=List.mem_filterMap.mp hp
 cases q:h.get? b with
 |none=>rw[q]at e;cases e
 |some o=>
  rw[q]at e
  have e':(b,o)=p:=Option.some.inj e
  subst e'
  exact⟨hb,q⟩
theorem Inv.pinned{pins:List (Addr×Obj)}{σ:St}{H:Hp}{s:Shared}{fp:List Addr}(I:Inv X pins σ H s)(hf:∀b∈fp,FpOk X pins H b)(ho:∀b∈fp,∃o,s.heap.get? b=some o∧∀v,o.data≠.cell v):Inv X (pins++pinsAt fp s.heap) σ H s:=
 I.pins_of fun p hp=>(List.mem_append.mp hp).elim (fun z=>I.pin p (List.mem_append_right _ z)) fun z=>by
  obtain⟨hb,e⟩:=of_pinsAt z
  obtain⟨f0,f1,f2,_⟩:=hf p.1 hb
  obtain⟨o,e',d⟩:=ho p.1 hb
  rw[e]at e';cases e'
  exact⟨e,f0,f1,f2,d⟩
theorem Inv.unpinned{pins pl:List (Addr×Obj)}{σ:St}{H:Hp}{s:Shared}(I:Inv X (pins++pl) σ H s):Inv X pins σ H s:=I.pins_of fun p hp=>I.pin p (List.mem_append_right _ (List.mem_append_left _ hp))
theorem ps_for{iter:Expr}{body:List Stmt}{wi:TI}{g:TG}{tb:TS}{pos:Pos}(hp:PassesOwn (model X.prog X.w) X.A X.env X.xe)(hc:X.calm=true)(hi:PI X tg iter wi)(hg:PG X tg g)(hb:PSs X body tb)
  (hs:∀x,foldedSetIterable iter X.env x=pure x:=by intro _;rfl):PS X (.For tg iter body [] pos) (tFor wi g tb):=by
 intro pins s σ H D I h
 refine wpAny_For (thn (hi pins s σ H _ I h) fun v s1 h1=>thn h1 fun itv s2 h2=>?_) hs
 obtain⟨it,fp,tn,J,H2,e,I2,T,st2,f2,W,⟨m0,w0⟩,turn⟩:=h2
 subst e
 have stat:∀{H':Hp},(∀b∈fp,H' b=none)→∀b∈fp,FpOk X pins H' b:=fun hn b hb=>⟨hn b hb,(f2 b hb).2⟩
 refine codeAny_forLoop_any (fun n s'=>∃i σ' H',Inv X pins σ' H' s'∧tn i s'.heap∧(∀b∈fp,H' b=none)∧W i n σ' H') ?_ m0 ⟨0,σ,H2,I2,st2,fun b hb=>(f2 b hb).1,w0⟩
 rintro n s3 ⟨i,σ3,H3,I3,st3,fr3,w3⟩
 rcases turn i n σ3 H3 w3 with⟨stop,qn⟩ | ⟨go,N,hN,step⟩
 ·refine wpAny_passesOwn hp (thn (T.done X rfl rfl rfl hc i pins s3 σ3 H3 X.xe I3 (stat fr3) st3 stop) fun r s4 ⟨hr,I4⟩=>?_)
  subst hr
  exact wpAny_execs_nil ⟨σ3,H3,I4,qn⟩
 ·refine wpAny_passesOwn hp (thn (T.item X rfl rfl rfl hc i pins s3 σ3 H3 X.xe I3 (stat fr3) st3 go) fun r s4 ⟨u,hr,h4⟩=>?_)
  subst hr
  refine wpAny_passesOwn hp (thn h4 fun _ s5 ⟨x,H5,I5,r5,y5,st5,fr5⟩=>?_)
  have I5':=I5.pinned (stat fr5) (T.obj _ _ st5)
  refine wpAny_passesOwn hp (thn (hg _ s5 σ3 H5 x u _ I5' r5 (step x H5 y5)) fun _ s6 ⟨σ6,H6,I6,q6⟩=>?_)
  refine wpAny_passesOwn hp (thn (hb _ s6 σ6 H6 _ I6 q6) fun f s7 q7=>?_)
  have again:∀{σ7:St} {H7:Hp},Inv X (pins++pinsAt fp s5.heap) σ7 H7 s7→N σ7 H7→∃m,m<n∧∃i σ' H',Inv X pins σ' H' s7∧tn i s7.heap∧(∀b∈fp,H' b=none)∧W i m σ' H':=fun {σ7 H7} I7 n7=>by
   obtain⟨m',hm,w7⟩:=hN σ7 H7 n7
   refine⟨m',hm,i+1,σ7,H7,I7.unpinned,T.keep _ _ _ st5 fun b hb o e=>(I7.pin (b,o) (List.mem_append_right _ (List.mem_append_right _ (mem_pinsAt hb e)))).1,fun b hb=>?_,w7⟩
   obtain⟨o,e,d⟩:=T.obj _ _ st5 b hb
   exact(I7.pin (b,o) (List.mem_append_right _ (List.mem_append_right _ (mem_pinsAt hb e)))).2.1
  cases f with
  |next=>obtain⟨σ7,H7,I7,n7⟩:=q7;exact again I7 n7
  |cont=>obtain⟨σ7,H7,I7,n7⟩:=q7;exact again I7 n7
  |brk=>obtain⟨σ7,H7,I7,q7⟩:=q7;exact⟨σ7,H7,I7.unpinned,q7⟩
  |ret v=>obtain⟨x7,σ7,H7,I7,r7,q7⟩:=q7;exact⟨x7,σ7,H7,I7.unpinned,r7,q7⟩
end
theorem for_list{K:PySem.W.Frag}{a:Addr}{xs:List V}{g:TG}{tb:TS}{D:Ends}{σ:St}{H:Hp}(Pv:Nat→St→Hp→Prop)(h0:Pv 0 σ H)(hl:∀i σ H,i≤xs.length→Pv i σ H→SqL K H a xs)
  (hs:∀i x σ H,xs[i]? =some x→Pv i σ H→g x σ H fun σ2 H2=>tb { D with nx:=Pv (i+1),ct:=Pv (i+1),bk:=D.nx } σ2 H2)(hd:∀σ H,Pv xs.length σ H→D.nx σ H):
  ∃W:Nat→Nat→St→Hp→Prop,(∃m,W 0 m σ H)∧∀i m σ H,W i m σ H→
   ((Itl K a).stop i H∧D.nx σ H)∨((Itl K a).go i H∧∃N:St→Hp→Prop,(∀σ' H',N σ' H'→∃m',m'<m∧W (i+1) m' σ' H')∧∀x H',(Itl K a).yld i H x H'→g x σ H' fun σ2 H2=>tb { D with nx:=N,ct:=N,bk:=D.nx } σ2 H2):=by
 refine⟨fun i m σ H=>m=xs.length-i∧i≤xs.length∧Pv i σ H,⟨xs.length,by simp,Nat.zero_le _,h0⟩,?_⟩
 rintro i m σ H ⟨rfl,hi,p⟩
 have q:=hl i σ H hi p
 by_cases hlt:i<xs.length
 ·refine .inr ⟨⟨xs,xs[i],q,by simp[hlt]⟩,Pv (i+1),fun σ' H' p'=>⟨xs.length- (i+1),by omega,rfl,hlt,p'⟩,fun x H' y=>?_⟩
  obtain⟨e,y⟩:=y
  subst e
  exact hs i x σ _ (y xs q) p
 ·have e:i=xs.length:=by omega
  subst e
  exact .inl ⟨⟨xs,q,Nat.le_refl _⟩,hd σ H p⟩
theorem for_tup{K:PySem.W.Frag}{a:Addr}{xs:List V}{g:TG}{tb:TS}{D:Ends}{σ:St}{H:Hp}(Pv:Nat→St→Hp→Prop)(h0:Pv 0 σ H)(hl:∀i σ H,i≤xs.length→Pv i σ H→SqT K H a xs)
  (hs:∀i x σ H,xs[i]? =some x→Pv i σ H→g x σ H fun σ2 H2=>tb { D with nx:=Pv (i+1),ct:=Pv (i+1),bk:=D.nx } σ2 H2)(hd:∀σ H,Pv xs.length σ H→D.nx σ H):
  ∃W:Nat→Nat→St→Hp→Prop,(∃m,W 0 m σ H)∧∀i m σ H,W i m σ H→
   ((Itt K a).stop i H∧D.nx σ H)∨((Itt K a).go i H∧∃N:St→Hp→Prop,(∀σ' H',N σ' H'→∃m',m'<m∧W (i+1) m' σ' H')∧∀x H',(Itt K a).yld i H x H'→g x σ H' fun σ2 H2=>tb { D with nx:=N,ct:=N,bk:=D.nx } σ2 H2):=by
 refine⟨fun i m σ H=>m=xs.length-i∧i≤xs.length∧Pv i σ H,⟨xs.length,by simp,Nat.zero_le _,h0⟩,?_⟩
 rintro i m σ H ⟨rfl,hi,p⟩
 have q:=hl i σ H hi p
 by_cases hlt:i<xs.length
 ·refine .inr ⟨⟨xs,xs[i],q,by simp[hlt]⟩,Pv (i+1),fun σ' H' p'=>⟨xs.length- (i+1),by omega,rfl,hlt,p'⟩,fun x H' y=>?_⟩
  obtain⟨e,y⟩:=y
  subst e
  exact hs i x σ _ (y xs q) p
 ·have e:i=xs.length:=by omega
  subst e
  exact .inl ⟨⟨xs,q,Nat.le_refl _⟩,hd σ H p⟩
theorem for_range{lo:Int}{n:Nat}{g:TG}{tb:TS}{D:Ends}{σ:St}{H:Hp}(Pv:Nat→St→Hp→Prop)(h0:Pv 0 σ H)
  (hs:∀i σ H,i<n→Pv i σ H→g (.int (lo+i)) σ H fun σ2 H2=>tb { D with nx:=Pv (i+1),ct:=Pv (i+1),bk:=D.nx } σ2 H2)(hd:∀σ H,Pv n σ H→D.nx σ H):
  ∃W:Nat→Nat→St→Hp→Prop,(∃m,W 0 m σ H)∧∀i m σ H,W i m σ H→
   ((Itr lo n).stop i H∧D.nx σ H)∨((Itr lo n).go i H∧∃N:St→Hp→Prop,(∀σ' H',N σ' H'→∃m',m'<m∧W (i+1) m' σ' H')∧∀x H',(Itr lo n).yld i H x H'→g x σ H' fun σ2 H2=>tb { D with nx:=N,ct:=N,bk:=D.nx } σ2 H2):=by
 refine⟨fun i m σ H=>m=n-i∧i≤n∧Pv i σ H,⟨n,by simp,Nat.zero_le _,h0⟩,?_⟩
 rintro i m σ H ⟨rfl,hi,p⟩
 by_cases hlt:i<n
 ·refine .inr ⟨hlt,Pv (i+1),fun σ' H' p'=>⟨n- (i+1),by omega,rfl,hlt,p'⟩,fun x H' y=>?_⟩
  obtain⟨e,y⟩:=y
  subst e y
  exact hs i σ _ hlt p
 ·have e:i=n:=by omega
  subst e
  exact .inl ⟨Nat.le_refl _,hd σ H p⟩
end L2
namespace L2
open PySem PySem.Spec PyProof.Rows
abbrev R2:=V→V→Hp→VK→Prop
def OpR(X:Cx)(f:Value→Value→Sem Value)(r:R2):Prop:=
 ∀(pins:List (Addr×Obj)) (s:Shared) (σ:St) (H:Hp) (x y:V) (v u:Value) (Q:VK),Inv X pins σ H s→RelV x v→RelV y u→r x y H Q→
  wpAny (model X.prog X.w) X.A (f v u) (EP X pins σ Q) X.xe s
def UnR(X:Cx)(f:Value→Sem Value)(r:V→Hp→VK→Prop):Prop:=
 ∀(pins:List (Addr×Obj)) (s:Shared) (σ:St) (H:Hp) (x:V) (v:Value) (Q:VK),Inv X pins σ H s→RelV x v→r x H Q→
  wpAny (model X.prog X.w) X.A (f v) (EP X pins σ Q) X.xe s
def CallR(X:Cx)(f:Value)(r:List V→Hp→VK→Prop):Prop:=
 ∀(pins:List (Addr×Obj)) (s:Shared) (σ:St) (H:Hp) (xs:List V) (us:List Value) (Q:VK),Inv X pins σ H s→Vals xs us→r xs H Q→
  wpAny (model X.prog X.w) X.A (call f us) (EP X pins σ Q) X.xe s
def TruR(X:Cx)(r:V→Hp→(Bool→Hp→Prop)→Prop):Prop:=
 ∀(pins:List (Addr×Obj)) (s:Shared) (σ:St) (H:Hp) (x:V) (v:Value) (Q:Bool→Hp→Prop),Inv X pins σ H s→RelV x v→r x H Q→
  wpAny (model X.prog X.w) X.A (truthy v) (TP X pins σ Q) X.xe s
def tOp(r:R2)(ta tb:TE):TE:=fun σ H Q=>ta σ H fun x H1=>tb σ H1 fun y H2=>r x y H2 Q
def tUn(r:V→Hp→VK→Prop)(ta:TE):TE:=fun σ H Q=>ta σ H fun x H1=>r x H1 Q
def rI(C:Int→Int→Prop)(g:Int→Int→V):R2:=fun x y H Q=>∃i j,x=.int i∧y=.int j∧C i j∧Q (g i j) H
def rI0(g:Int→Int→V):R2:=fun x y H Q=>∃i j,x=.int i∧y=.int j∧Q (g i j) H
def rU(g:Int→V):V→Hp→VK→Prop:=fun x H Q=>∃i,x=.int i∧Q (g i) H
section
variable {X:Cx}{a b c:Expr}{ta tb tc:TE}{pos:Pos}
theorem binT(ha:PE X a ta)(hb:PE X b tb){pins:List (Addr×Obj)}{s:Shared}{σ:St}{H:Hp}{R:V→V→Hp→Prop}(I:Inv X pins σ H s)
  (h:ta σ H fun x H1=>tb σ H1 fun y H2=>R x y H2){Q:Value→Shared→Prop}{f:Value→Value→Sem Value}
  (hf:∀v u s2 x y H2,Inv X pins σ H2 s2→RelV x v→RelV y u→R x y H2→wpAny (model X.prog X.w) X.A (f v u) Q X.xe s2):
  wpAny (model X.prog X.w) X.A (eval a X.env) (fun v s₁=>wpAny (model X.prog X.w) X.A (eval b X.env) (fun u s₂=>wpAny (model X.prog X.w) X.A (f v u) Q X.xe s₂) X.xe s₁) X.xe s:=by
 refine thn (ha pins s σ H _ I h) fun v s1 ⟨x,H1,I1,r1,q1⟩=>?_
 refine thn (hb pins s1 σ H1 _ I1 q1) fun u s2 ⟨y,H2,I2,r2,q2⟩=>?_
 exact hf v u s2 x y H2 I2 r1 r2 q2
theorem yQ{op:Operator}{r:R2}(ho:OpR X (binaryOp op) r)(ha:PE X a ta)(hb:PE X b tb):PE X (.BinOp a op b pos) (tOp r ta tb):=by
 intro pins s σ H Q I h
 exact wpAny_BinOp (binT ha hb I h fun v u s2 x y H2 I2 rx ry q=>ho pins s2 σ H2 x y v u Q I2 rx ry q)
theorem pe_un{op:UnaryOp}{r:V→Hp→VK→Prop}(ho:UnR X (unaryOp op) r)(ha:PE X a ta):PE X (.UnaryOp op a pos) (tUn r ta):=by
 intro pins s σ H Q I h
 exact UnaryOp_ (thn (ha pins s σ H _ I h) fun v s1 ⟨x,H1,I1,r1,q1⟩=>ho pins s1 σ H1 x v Q I1 r1 q1)
theorem opI{f:Value→Value→Sem Value}{C:Int→Int→Prop}{g:Int→Int→Int}
  (rule:∀(i j:Int) (t u:Tok) (s:Shared) (Q:Value→Shared→Prop) (E:Value→Shared→Prop),C i j→Q (.int (g i j) s.toks) { s with toks:=s.toks+1 }→wpAny (model X.prog X.w) X.A (f (.int i t) (.int j u)) Q E s):
  OpR X f (rI C fun i j=>.int (g i j)):=by
 intro pins s σ H x y v u Q I rx ry h
 obtain⟨i,j,rfl,rfl,hc,q⟩:=h
 obtain⟨t,rfl⟩:=rx
 obtain⟨t',rfl⟩:=ry
 exact rule i j t t' s _ _ hc ⟨.int (g i j),H,I.tok _,⟨_,rfl⟩,q⟩
theorem opI0{f:Value→Value→Sem Value}{g:Int→Int→Int}
  (rule:∀(i j:Int) (t u:Tok) (s:Shared) (Q:Value→Shared→Prop) (E:Value→Shared→Prop),Q (.int (g i j) s.toks) { s with toks:=s.toks+1 }→wpAny (model X.prog X.w) X.A (f (.int i t) (.int j u)) Q E s):
  OpR X f (rI0 fun i j=>.int (g i j)):=by
 intro pins s σ H x y v u Q I rx ry h
 obtain⟨i,j,rfl,rfl,q⟩:=h
 obtain⟨t,rfl⟩:=rx
 obtain⟨t',rfl⟩:=ry
 exact rule i j t t' s _ _ ⟨.int (g i j),H,I.tok _,⟨_,rfl⟩,q⟩
theorem opB0{f:Value→Value→Sem Value}{g:Int→Int→Bool}
  (rule:∀(i j:Int) (t u:Tok) (s:Shared) (Q:Value→Shared→Prop) (E:Value→Shared→Prop),Q (.bool (g i j)) s→wpAny (model X.prog X.w) X.A (f (.int i t) (.int j u)) Q E s):
  OpR X f (rI0 fun i j=>.bl (g i j)):=by
 intro pins s σ H x y v u Q I rx ry h
 obtain⟨i,j,rfl,rfl,q⟩:=h
 obtain⟨t,rfl⟩:=rx
 obtain⟨t',rfl⟩:=ry
 exact rule i j t t' s _ _ ⟨.bl (g i j),H,I,rfl,q⟩
def CMul(i j:Int):Prop:=(-(2 ^ 64) <i∧i<2 ^ 64)∨(-(2 ^ 64) <j∧j<2 ^ 64)
theorem CMul.ok{i j:Int}(h:CMul i j):IntMulOk i j:=by
 rcases h with⟨h1,h2⟩ | ⟨h1,h2⟩
 ·exact .of_left (intBits_le_64 h1 h2)
 ·exact .of_right (intBits_le_64 h1 h2)
theorem op_add:OpR X (binaryOp .Add) (rI0 fun i j=>.int (i+j)):=opI0 fun _ _ _ _ _ _ _ q=>add_int q
theorem op_sub:OpR X (binaryOp .Sub) (rI0 fun i j=>.int (i-j)):=opI0 fun _ _ _ _ _ _ _ q=>sub_int q
theorem op_mul:OpR X (binaryOp .Mult) (rI CMul fun i j=>.int (i*j)):=opI fun _ _ _ _ _ _ _ hc q=>mul_int q hc.ok
theorem op_mod:OpR X (binaryOp .Mod) (rI (fun _ j=>0<j) fun i j=>.int (i % j)):=opI fun i j _ _ _ _ _ hc q=>by
 have h1:(0:Int) <j:=hc
 exact mod_int' (by omega) (by rw[Int.fmod_eq_emod_of_nonneg i (by omega)];exact q)
theorem unI{f:Value→Sem Value}{g:Int→Int}
  (rule:∀(i:Int) (t:Tok) (s:Shared) (Q:Value→Shared→Prop) (E:Value→Shared→Prop),Q (.int (g i) s.toks) { s with toks:=s.toks+1 }→wpAny (model X.prog X.w) X.A (f (.int i t)) Q E s):
  UnR X f (rU fun i=>.int (g i)):=by
 intro pins s σ H x v Q I rx h
 obtain⟨i,rfl,q⟩:=h
 obtain⟨t,rfl⟩:=rx
 exact rule i t s _ _ ⟨.int (g i),H,I.tok _,⟨_,rfl⟩,q⟩
theorem un_neg:UnR X (unaryOp .USub) (rU fun i=>.int (-i)):=unI fun _ _ _ _ _ q=>neg_int q
end
def scal:V→V→Bool
 |.non,.non=>true | .non,.int _=>true | .int _,.non=>true | .non,.bl _=>true | .bl _,.non=>true | .non,.str _=>true | .str _,.non=>true
 |.int _,.int _=>true | .bl _,.bl _=>true | .str _,.str _=>true | .byt _,.byt _=>true
 |.int _,.str _=>true | .str _,.int _=>true | .bl _,.str _=>true | .str _,.bl _=>true
 |_,_=>false
def rEq:R2:=fun x y H Q=>scal x y=true∧Q (.bl (decide (x=y))) H
def rNe:R2:=fun x y H Q=>scal x y=true∧Q (.bl (!decide (x=y))) H
theorem dec_int{i j:Int}:decide (V.int i=V.int j)=(i==j):=by
 rw[Bool.eq_iff_iff]
 simp
theorem dec_bl{i j:Bool}:decide (V.bl i=V.bl j)=(i==j):=by
 rw[Bool.eq_iff_iff]
 simp
theorem dec_str{i j:Str}:decide (V.str i=V.str j)=(i==j):=by
 rw[Bool.eq_iff_iff]
 simp
theorem dec_byt{i j:Array UInt8}:decide (V.byt i=V.byt j)=(i.toList==j.toList):=by
 rw[Bool.eq_iff_iff]
 cases i
 cases j
 simp
section
variable {X:Cx}{a b c:Expr}{ta tb tc:TE}{pos:Pos}
theorem yF{pins:List (Addr×Obj)}{σ:St}{H:Hp}{s:Shared}{Q:VK}{k k':Bool}(I:Inv X pins σ H s)(q:Q (.bl k) H)(e:k=k'):EP X pins σ Q (.bool k') s:=by
 subst e
 exact⟨.bl k,H,I,rfl,q⟩
theorem yC:OpR X (compareOp .Eq) rEq:=by
 intro pins s σ H x y v u Q I rx ry h
 obtain⟨hs,q⟩:=h
 cases x with
 |non=>
  cases rx
  cases y with
  |non=>cases ry;exact PySem.EqNone.eq_none_none (yF I q (by simp))
  |bl j=>cases ry;exact PySem.EqNone.eq_none_bool (yF I q (by simp))
  |int j=>obtain⟨t',rfl⟩:=ry;exact PySem.EqNone.eq_none_int (yF I q (by simp))
  |str j=>obtain⟨t',rfl⟩:=ry;exact PySem.EqNone.eq_none_str (yF I q (by simp))
  |_=>exact absurd (show false=true from hs) Bool.false_ne_true
 |bl i=>
  cases rx
  cases y with
  |non=>cases ry;exact PySem.EqNone.eq_bool_none (yF I q (by simp))
  |bl j=>cases ry;exact eq_bool (yF I q dec_bl)
  |str j=>obtain⟨t',rfl⟩:=ry;exact PySem.EqMixed.eq_bool_str (yF I q (by simp))
  |_=>exact absurd (show false=true from hs) Bool.false_ne_true
 |int i=>
  obtain⟨t,rfl⟩:=rx
  cases y with
  |non=>cases ry;exact PySem.EqNone.eq_int_none (yF I q (by simp))
  |int j=>obtain⟨t',rfl⟩:=ry;exact eq_int (yF I q dec_int)
  |str j=>obtain⟨t',rfl⟩:=ry;exact PySem.EqMixed.eq_int_str (yF I q (by simp))
  |_=>exact absurd (show false=true from hs) Bool.false_ne_true
 |str i=>
  obtain⟨t,rfl⟩:=rx
  cases y with
  |non=>cases ry;exact PySem.EqNone.eq_str_none (yF I q (by simp))
  |bl j=>cases ry;exact PySem.EqMixed.eq_str_bool (yF I q (by simp))
  |int j=>obtain⟨t',rfl⟩:=ry;exact PySem.EqMixed.eq_str_int (yF I q (by simp))
  |str j=>obtain⟨t',rfl⟩:=ry;exact eq_str (yF I q dec_str)
  |_=>exact absurd (show false=true from hs) Bool.false_ne_true
 |byt i=>
  obtain⟨t,rfl⟩:=rx
  cases y with
  |byt j=>obtain⟨t',rfl⟩:=ry;exact PySem.W.eq_bytes (yF I q dec_byt)
  |_=>exact absurd (show false=true from hs) Bool.false_ne_true
 |_=>cases y<;>exact absurd (show false=true from hs) Bool.false_ne_true
theorem op_ne:OpR X (compareOp .NotEq) rNe:=by
 intro pins s σ H x y v u Q I rx ry h
 obtain⟨hs,q⟩:=h
 cases x with
 |non=>
  cases rx
  cases y with
  |non=>cases ry;exact PySem.EqNone.ne_none_none (yF I q (by simp))
  |bl j=>cases ry;exact PySem.EqNone.ne_none_bool (yF I q (by simp))
  |int j=>obtain⟨t',rfl⟩:=ry;exact PySem.EqNone.ne_none_int (yF I q (by simp))
  |str j=>obtain⟨t',rfl⟩:=ry;exact PySem.EqNone.ne_none_str (yF I q (by simp))
  |_=>exact absurd (show false=true from hs) Bool.false_ne_true
 |bl i=>
  cases rx
  cases y with
  |non=>cases ry;exact PySem.EqNone.ne_bool_none (yF I q (by simp))
  |bl j=>cases ry;exact ne_bool (yF I q (congrArg not dec_bl))
  |str j=>obtain⟨t',rfl⟩:=ry;exact PySem.EqMixed.ne_bool_str (yF I q (by simp))
  |_=>exact absurd (show false=true from hs) Bool.false_ne_true
 |int i=>
  obtain⟨t,rfl⟩:=rx
  cases y with
  |non=>cases ry;exact PySem.EqNone.ne_int_none (yF I q (by simp))
  |int j=>obtain⟨t',rfl⟩:=ry;exact ne_int (yF I q (congrArg not dec_int))
  |str j=>obtain⟨t',rfl⟩:=ry;exact PySem.EqMixed.ne_int_str (yF I q (by simp))
  |_=>exact absurd (show false=true from hs) Bool.false_ne_true
 |str i=>
  obtain⟨t,rfl⟩:=rx
  cases y with
  |non=>cases ry;exact PySem.EqNone.ne_str_none (yF I q (by simp))
  |bl j=>cases ry;exact PySem.EqMixed.ne_str_bool (yF I q (by simp))
  |int j=>obtain⟨t',rfl⟩:=ry;exact PySem.EqMixed.ne_str_int (yF I q (by simp))
  |str j=>obtain⟨t',rfl⟩:=ry;exact ne_str (yF I q (congrArg not dec_str))
  |_=>exact absurd (show false=true from hs) Bool.false_ne_true
 |byt i=>
  obtain⟨t,rfl⟩:=rx
  cases y with
  |byt j=>obtain⟨t',rfl⟩:=ry;exact PySem.W.ne_bytes (yF I q (congrArg not dec_byt))
  |_=>exact absurd (show false=true from hs) Bool.false_ne_true
 |_=>cases y<;>exact absurd (show false=true from hs) Bool.false_ne_true
theorem op_lt:OpR X (compareOp .Lt) (rI0 fun i j=>.bl (decide (i<j))):=opB0 fun _ _ _ _ _ _ _ q=>lt_int q
theorem op_le:OpR X (compareOp .LtE) (rI0 fun i j=>.bl (decide (i≤j))):=opB0 fun _ _ _ _ _ _ _ q=>le_int q
theorem op_gt:OpR X (compareOp .Gt) (rI0 fun i j=>.bl (decide (j<i))):=opB0 fun _ _ _ _ _ _ _ q=>gt_int q
theorem op_isN:OpR X (compareOp .Is) (fun x y H Q=>y=.non∧Q (.bl (decide (x=.non))) H):=by
 intro pins s σ H x y v u Q I rx ry h
 obtain⟨rfl,q⟩:=h
 cases ry
 refine is_none_gen (yF I q ?_)
 cases x<;>first
  | (cases rx;rfl)
  | (obtain⟨t,rfl⟩:=rx;rfl)
theorem zM(b:Expr){op:CmpOp}(h:op≠.In:=by decide)(h2:op≠.NotIn:=by decide):behindInMarks op b=false:=by
 have e1:(op==CmpOp.In)=false:=by cases op<;>first | rfl | exact absurd rfl h
 have e2:(op==CmpOp.NotIn)=false:=by cases op<;>first | rfl | exact absurd rfl h2
 cases b<;>simp[behindInMarks,e1,e2]
theorem yK{op:CmpOp}{r:R2}(ho:OpR X (compareOp op) r)(ha:PE X a ta)(hb:PE X b tb)(hm:behindInMarks op b=false):PE X (.Compare a [op] [b] pos) (tOp r ta tb):=by
 intro pins s σ H Q I h
 exact wpAny_Compare1 (binT ha hb I h fun v u s2 x y H2 I2 rx ry q=>ho pins s2 σ H2 x y v u Q I2 rx ry q) hm
def tTest(t:TE):TT:=fun σ H Q=>t σ H fun x H'=>∃k,x=.bl k∧Q k H'
theorem zK{op:CmpOp}{r:R2}(ho:OpR X (compareOp op) r)(ha:PE X a ta)(hb:PE X b tb)(hm:behindInMarks op b=false):PT X (.Compare a [op] [b] pos) (tTest (tOp r ta tb)):=by
 intro pins s σ H Q I h
 refine wpAny_isTrue_Compare1 (thn (ha pins s σ H _ I h) fun v s1 ⟨x,H1,I1,r1,q1⟩=>thn (hb pins s1 σ H1 _ I1 q1) fun u s2 ⟨y,H2,I2,r2,q2⟩=>
  thn (ho pins s2 σ H2 x y v u _ I2 r1 r2 q2) fun c s3 ⟨z,H3,I3,r3,k,e,q3⟩=>?_) hm
 subst e
 cases r3
 exact wpAny_truthy_bool ⟨H3,I3,q3⟩
def tChain(r r':R2)(ta tb tc:TE):TE:=fun σ H Q=>ta σ H fun x H1=>tb σ H1 fun y H2=>r x y H2 fun z H3=>∃k,z=.bl k∧
 (if k=true then tc σ H3 fun w' H4=>r' y w' H4 Q else Q (.bl false) H3)
theorem pe_chain{op op':CmpOp}{r r':R2}(ho:OpR X (compareOp op) r)(ho':OpR X (compareOp op') r')(ha:PE X a ta)(hb:PE X b tb)(hc:PE X c tc)
  (hm:lastMarks [op,op'] [b,c]=false:=by with_unfolding_all rfl):PE X (.Compare a [op,op'] [b,c] pos) (tChain r r' ta tb tc):=by
 intro pins s σ H Q I h
 refine Compare_chain (thn (ha pins s σ H _ I h) fun v s1 ⟨x,H1,I1,r1,q1⟩=>chain_link (thn (hb pins s1 σ H1 _ I1 q1) fun u s2 ⟨y,H2,I2,r2,q2⟩=>
  thn (ho pins s2 σ H2 x y v u _ I2 r1 r2 q2) fun d s3 ⟨z,H3,I3,r3,k,e,q3⟩=>?_)) hm
 subst e
 cases r3
 refine wpAny_truthy_bool ?_
 cases k with
 |false=>exact ite_ff ⟨.bl false,H3,I3,rfl,q3⟩
 |true=>exact ite_tt (chain_last (thn (hc pins s3 σ H3 _ I3 q3) fun w' s4 ⟨z',H4,I4,r4,q4⟩=>ho' pins s4 σ H4 y z' u w' Q I4 r2 r4 q4))
theorem pt_chain{op op':CmpOp}{r r':R2}(ho:OpR X (compareOp op) r)(ho':OpR X (compareOp op') r')(ha:PE X a ta)(hb:PE X b tb)(hc:PE X c tc)
  (hm:lastMarks [op,op'] [b,c]=false:=by with_unfolding_all rfl):PT X (.Compare a [op,op'] [b,c] pos) (tTest (tChain r r' ta tb tc)):=by
 intro pins s σ H Q I h
 refine isTrue_chain (thn (ha pins s σ H _ I h) fun v s1 ⟨x,H1,I1,r1,q1⟩=>test_link (thn (hb pins s1 σ H1 _ I1 q1) fun u s2 ⟨y,H2,I2,r2,q2⟩=>
  thn (ho pins s2 σ H2 x y v u _ I2 r1 r2 q2) fun d s3 ⟨z,H3,I3,r3,k,e,q3⟩=>?_)) hm
 subst e
 cases r3
 refine wpAny_truthy_bool ?_
 cases k with
 |false=>
  obtain⟨k',e',q'⟩:=q3
  cases e'
  exact ite_ff ⟨H3,I3,q'⟩
 |true=>
  refine ite_tt (test_last (thn (hc pins s3 σ H3 _ I3 q3) fun w' s4 ⟨z',H4,I4,r4,q4⟩=>thn (ho' pins s4 σ H4 y z' u w' _ I4 r2 r4 q4) fun d' s5 ⟨z2,H5,I5,r5,k2,e2,q5⟩=>?_))
  subst e2
  cases r5
  exact wpAny_truthy_bool ⟨H5,I5,q5⟩
def TruV(K:PySem.W.Frag)(x:V)(H:Hp)(k:Bool):Prop:=
 match x with
 |.non=>k=false
 |.bl b=>k=b
 |.int i=>k=(i != 0)
 |.str y=>y.length≤sizeLine∧k=((y.length:Int) != 0)
 |.byt y=>y.size≤sizeLine∧k=((y.size:Int) != 0)
 |.ref p=>(∃xs,SqL K H p xs∧k= !xs.isEmpty)∨(∃xs,SqT K H p xs∧k= !xs.isEmpty)∨∃kvs,H p=some (.dK kvs)∧k= !kvs.isEmpty
 |_=>False
theorem isEmpty_kv{κ:Type}{kvs:List (κ×V)}{vs:List (κ×Value)}(r:KV kvs vs):(!vs.isEmpty)= !kvs.isEmpty:=by
 cases r<;>rfl
theorem isEmpty_of{xs:List V}{its:List Value}(r:Vals xs its):(!its.toArray.isEmpty)= !xs.isEmpty:=by
 cases r<;>simp
theorem line63:(sizeLine:Nat) <2 ^ 63:=by rw[sizeLine_eq];decide
theorem tru_ok:TruR X (fun x H Q=>∃k,TruV X.K x H k∧Q k H):=by
 intro pins s σ H x v Q I rx h
 obtain⟨k,e,q⟩:=h
 have hl:=line63
 have hs:sizeLine=16777216:=sizeLine_eq
 cases x with
 |non=>
  cases rx
  have e':k=false:=e
  subst e'
  exact truthy_none ⟨H,I,q⟩
 |bl b=>
  cases rx
  have e':k=b:=e
  subst e'
  exact wpAny_truthy_bool ⟨H,I,q⟩
 |int i=>
  obtain⟨t,rfl⟩:=rx
  have e':k=(i != 0):=e
  subst e'
  exact PySem.P.truthy_int ⟨H,I,q⟩
 |str y=>
  obtain⟨t,rfl⟩:=rx
  obtain⟨hy,e'⟩:y.length≤sizeLine∧k=((y.length:Int) != 0):=e
  subst e'
  exact PySem.P.truthy_str (by omega) ⟨H,I.tok _,q⟩
 |byt y=>
  obtain⟨t,rfl⟩:=rx
  obtain⟨hy,e'⟩:y.size≤sizeLine∧k=((y.size:Int) != 0):=e
  subst e'
  exact PySem.W.truthy_bytes (by omega) ⟨H,I.tok _,q⟩
 |ref p=>
  cases rx
  have e':(∃xs,SqL X.K H p xs∧k= !xs.isEmpty)∨(∃xs,SqT X.K H p xs∧k= !xs.isEmpty)∨∃kvs,H p=some (.dK kvs)∧k= !kvs.isEmpty:=e
  rcases e' with⟨xs,hx,e'⟩ | ⟨xs,hx,e'⟩ | ⟨kvs,hx,e'⟩
  ·subst e'
   obtain⟨its,r,pl,hz⟩:=I.list hx
   have hlen:=r.length
   exact wpAny_truthy_list pl.isList (by simp only[List.size_toArray];omega) ⟨H,I.tok _,by rw[isEmpty_of r];exact q⟩
  ·subst e'
   obtain⟨its,r,pl,hz⟩:=I.tuple hx
   have hlen:=r.length
   exact truthy_tuple pl (by simp only[List.size_toArray];omega) ⟨H,I.tok _,by rw[isEmpty_of r];exact q⟩
  ·subst e'
   obtain⟨hz,hS,vs,r,m⟩:kvs.length≤sizeLine∧(p==sysModules)=false∧∃vs,KV kvs vs∧s.heap.DictOf (mixKind X.prog X.w) p vs:=I.hok p _ hx
   have hlen:kvs.length=vs.length:=Paired.length r
   exact wpAny_truthy_dict hS m (by omega) ⟨H,I.tok _,by rw[isEmpty_kv r];exact q⟩
 |_=>exact(show False from e).elim
theorem pt_truth(ha:PE X a ta)(he:∀whole,isTrue a X.env whole=(do let v ←whole;standAt a.pos;holding [v] (truthy v))):
  PT X a (fun σ H Q=>ta σ H fun x H'=>∃k,TruV X.K x H' k∧Q k H'):=by
 intro pins s σ H Q I h
 exact isTrue_plain (thn (ha pins s σ H _ I h) fun v s1 ⟨x,H1,I1,r1,q1⟩=>tru_ok pins s1 σ H1 x v Q I1 r1 q1) (he _)
theorem vals1{x:V}{us:List Value}(r:Vals [x] us):∃u,us=[u]∧RelV x u:=by
 cases r with
 |cons r1 r2=>cases r2;exact⟨_,rfl,r1⟩
theorem call_abs:CallR X (.builtin "abs") (fun xs H Q=>∃i,xs=[.int i]∧Q (.int (if i<0 then -i else i)) H):=by
 intro pins s σ H xs us Q I r h
 obtain⟨i,rfl,q⟩:=h
 obtain⟨u,rfl,t,rfl⟩:=vals1 r
 exact call_abs_int fun u tk=>⟨.int (if i<0 then -i else i),H,I.tok _,⟨_,rfl⟩,q⟩
end
end L2
namespace L2
open PySem PySem.Spec PyProof.Rows
structure ObjM (h:Heap) (x dx C:Addr) (mA:Str→Option Value):Prop where
 obj:h.get? x=some (PySem.W.instObj C dx)
 ns:h.Ns1 dx mA
 ne:dx≠x
theorem lookIn_ns{h:Heap}{dx:Addr}{mA:Str→Option Value}(n:h.Ns1 dx mA):∃od,h.get? dx=some od∧∀name,PySem.W.lookIn name od=some (mA name):=by
 obtain⟨o,es,ep,ho,hd,hk,_,hm⟩:=n
 refine⟨o,ho,fun name=>?_⟩
 have e:=hm name
 unfold nsFind findBy at e
 rw[←Array.find?_toList]at e
 unfold PySem.W.lookIn
 rw[hd]
 dsimp only
 split
 ·rename_i y q
  rw[q]at e
  exact congrArg some e
 ·rename_i q
  rw[q]at e
  have a:es.toList.any (·.refKey)=false:=by
   rw[List.any_eq_false]
   intro y hy
   obtain⟨z,t,hkey⟩:=hk y (Array.mem_toList_iff.mp hy)
   simp[DictEntry.refKey,hkey]
  have a':¬es.toList.any (·.refKey)=true:=by rw[a];exact Bool.false_ne_true
  rw[if_neg a']
  exact congrArg some e
theorem ObjM.look{h:Heap}{x dx C:Addr}{mA:Str→Option Value}(I:ObjM h x dx C mA):∃od,PySem.W.InstAt h x (PySem.W.instObj C dx) C (some od)∧∀name,PySem.W.lookIn name od=some (mA name):=
 let ⟨od,ho,hl⟩:=lookIn_ns I.ns
 ⟨od,⟨I.obj,rfl,rfl,ho⟩,hl⟩
section
variable {prog:Program}{w:World}{A:Around}{E:Value→Shared→Prop}{s:Shared}{K:PySem.W.Frag}{x dx C f:Addr}{mA:Str→Option Value}{name:Str}{v:Value}
theorem get_map{expr:Bool}{Q:Value→Shared→Prop}(X:K.In s.heap)(I:ObjM s.heap x dx C mA)(hg:PySem.W.plainGet K C name=true)(hh:PySem.W.hasDictIn K C=true)
  (ha:PySem.W.findIn K (.ref C) name=some none)(hv:mA name=some v)(hv':PySem.W.handedIn v=true)(h:Q v { s with toks:=s.toks+1 }):
  wpAny (model prog w) A (getAttr (.ref x) name expr) Q E s:=by
 obtain⟨od,J,hl⟩:=I.look
 exact PySem.W.get_value X J (PySem.W.plainGet_of hg).1 (PySem.W.findObj_own hh ha rfl (by rw[hl,hv])) hv' h
theorem get_meth{pl:Sem Bool}{Q:Value×List Value→Shared→Prop}(X:K.In s.heap)(I:ObjM s.heap x dx C mA)(hg:PySem.W.plainGet K C name=true)
  (hf:PySem.W.findIn K (.ref C) name=some (some (.ref f)))(ht:PySem.W.isFn K (.ref f)=true)(hv:mA name=none)(h:Q (.ref f,[.ref x]) s):
  wpAny (model prog w) A (getMethod (.ref x) name pl) Q E s:=by
 obtain⟨od,J,hl⟩:=I.look
 exact PySem.W.method_fn X J (PySem.W.plainGet_of hg).1 (PySem.W.plainGet_of hg).2 hf (beq_iff_eq.mp ht) (by show(PySem.W.lookIn name od).map (·.isSome)=some false;rw[hl,hv];rfl) h
theorem set_map{ns:List Str}{Q:Unit→Shared→Prop}(X:K.In s.heap)(I:ObjM s.heap x dx C mA)
  (hs:PySem.W.findIn K (.ref C) "__setattr__"=some (some (.builtin "object.__setattr__")))(hp:PySem.W.plainOver K C=true)(ht:PySem.W.takerIn K C name=some none)(hh:PySem.W.hasDictIn K C=true)
  (hw:PySem.Within mA ns)(hsz:ns.length≤sizeLine)
  (h:∀h',ObjM h' x dx C (fun y=>if y=name then some v else mA y)→Heap.SameBut dx s.heap h'→Q () { s with heap:=h',toks:=s.toks+2 }):
  wpAny (model prog w) A (setAttr (.ref x) name v) Q E s:=by
 obtain⟨od,J,hl⟩:=I.look
 refine PySem.W.set_plain X J hs (PySem.W.osa_open (s:={ s with toks:=s.toks+1 }) (r:=none) X J hp ht fun b=>?_)
 obtain⟨cd,hc,hd'⟩:=PySem.W.any_some hh
 have hx:s.heap.get? x=some ⟨.ref C,some dx,.plain,#[]⟩:=I.obj
 refine wpAny_bind (wpAny_pure (wpAny_bind (wpAny_bind (wpAny_loadPart hx (wpAny_bind (PySem.W.Looks.here (s:={ s with toks:=s.toks+1 }) (PySem.W.looks_clsIn X hc) ?_))))))
 rw[hd']
 refine wpAny_pure (a:=some dx) (wpAny_bind (wpAny_pure (wpAny_bind ?_)))
 refine wpAny_nsSet1 (s:={ s with toks:=s.toks+1 }) I.ns fun h' hn2 hs2=>?_
 obtain⟨oD,esD,epD,hoD,hdD,hcD⟩:=hn2.count (PySem.Within.cons name v hw)
 refine wpAny_bind (wpAny_lookBehind hoD (by rw[hdD];exact pastItsLine_dict (Nat.le_trans hcD (by rw[List.length_cons];omega))) ?_)
 exact wpAny_pure (h _ ⟨(hs2.2 _ (Ne.symm I.ne)).trans I.obj,hn2,I.ne⟩ hs2)
theorem make_map{R:Result→Shared→Prop}{vs:List Value}{kw:List (Str×Value)}(X:K.In s.heap)(hm:PySem.W.makesIn K C=true)
  (hi:PySem.W.findIn K (.ref C) "__init__"=some (some (.ref f)))(hf:PySem.W.typeIn K (.ref f)=some (.type "function"))
  (h:codeAny (model prog w) (A.under (.builtin "type.__call__" ⟨.ref C::vs,kw⟩)) (.call (.ref f) ⟨.ref (s.heap.objs.size+1)::vs,kw⟩) (PySem.W.InitBack (s.heap.objs.size+1) R)
   { s with heap:=(s.heap.push PySem.W.emptyDict).push (PySem.W.instObj C s.heap.objs.size) }):
  codeAny (model prog w) A (.call (.ref C) ⟨vs,kw⟩) R s:=by
 obtain⟨hh,g,d,t,os⟩:=s
 exact PySem.W.make_core (PySem.W.makes_of X hm) (PySem.W.looks_findIn X hi) (fun self=>PySem.W.bind_fn X self hf) (.inl rfl) h
end
def putF(f:Str)(v:V):List (Str×V)→List (Str×V)
 |[]=>[(f,v)]
 | (g,x)::r=>if g=f then(g,v)::r else(g,x)::putF f v r
theorem lookup_putF(f g:Str)(v:V):∀fs:List (Str×V),(putF f v fs).lookup g=if g=f then some v else fs.lookup g
 |[]=>by
  show List.lookup g [(f,v)]=_
  by_cases h:g=f
  ·have hb:(g==f)=true:=beq_iff_eq.mpr h
   simp only[List.lookup,hb,if_pos h]
  ·have hb:(g==f)=false:=beq_eq_false_iff_ne.mpr h
   simp only[List.lookup,hb,if_neg h]
 | (k,x)::r=>by
  have ih:=lookup_putF f g v r
  rw[show putF f v ((k,x)::r)=(if k=f then(k,v)::r else(k,x)::putF f v r) from rfl]
  by_cases hk:k=f
  ·rw[if_pos hk]
   by_cases h:g=k
   ·have hb:(g==k)=true:=beq_iff_eq.mpr h
    simp only[List.lookup,hb,if_pos (h.trans hk)]
   ·have hb:(g==k)=false:=beq_eq_false_iff_ne.mpr h
    simp only[List.lookup,hb,if_neg (fun e:g=f=>h (e.trans hk.symm))]
  ·rw[if_neg hk]
   by_cases h:g=k
   ·have hb:(g==k)=true:=beq_iff_eq.mpr h
    simp only[List.lookup,hb,if_neg (fun e:g=f=>hk (h.symm.trans e))]
   ·have hb:(g==k)=false:=beq_eq_false_iff_ne.mpr h
    simp only[List.lookup,hb]
    exact ih
theorem keys_putF(f:Str)(v:V):∀fs:List (Str×V),f∈(putF f v fs).map (·.1)∧∀g,g∈fs.map (·.1)→g∈(putF f v fs).map (·.1)
 |[]=>⟨by simp[putF],fun g h=>by simp at h⟩
 | (k,x)::r=>by
  obtain⟨i1,i2⟩:=keys_putF f v r
  rw[show putF f v ((k,x)::r)=(if k=f then(k,v)::r else(k,x)::putF f v r) from rfl]
  by_cases hk:k=f
  ·rw[if_pos hk]
   subst hk
   exact⟨by simp,fun g h=>by simpa using h⟩
  ·rw[if_neg hk]
   refine⟨?_,fun g h=>?_⟩
   ·rw[List.map_cons]
    exact List.mem_cons_of_mem _ i1
   ·rw[List.map_cons]at h ⊢
    rcases List.mem_cons.mp h with e | e
    ·exact List.mem_cons.mpr (.inl e)
    ·exact List.mem_cons_of_mem _ (i2 g e)
theorem length_putF(f:Str)(v:V):∀fs:List (Str×V),(putF f v fs).length≤fs.length+1
 |[]=>by simp[putF]
 | (k,x)::r=>by
  have ih:=length_putF f v r
  rw[show putF f v ((k,x)::r)=(if k=f then(k,v)::r else(k,x)::putF f v r) from rfl]
  by_cases hk:k=f
  ·rw[if_pos hk,List.length_cons,List.length_cons];omega
  ·rw[if_neg hk,List.length_cons,List.length_cons];omega
theorem RelO.some_of{v:V}{o:Option Value}(r:RelO (some v) o):∃u,o=some u∧RelV v u:=by
 cases o with
 |none=>exact(show False from r).elim
 |some u=>exact⟨u,rfl,r⟩
theorem RelO.none_of{o:Option Value}(r:RelO none o):o=none:=by
 cases o with
 |none=>rfl
 |some u=>exact(show False from r).elim
theorem handed_of{v:V}{u:Value}(r:RelV v u):PySem.W.handedIn u=true:=by
 cases v with
 |non=>cases (show u=Value.none from r);rfl
 |bl b=>cases (show u=Value.bool b from r);rfl
 |int i=>obtain⟨t,e⟩:=(show∃t,u=Value.int i t from r);cases e;rfl
 |str x=>obtain⟨t,e⟩:=(show∃t,u=Value.str x t from r);cases e;rfl
 |byt b=>obtain⟨t,e⟩:=(show∃t,u=Value.bytes b t from r);cases e;rfl
 |flt b=>obtain⟨t,e⟩:=(show∃t,u=Value.float b t from r);cases e;rfl
 |ref a=>cases (show u=Value.ref a from r);rfl
 |ty n=>cases (show u=Value.type n from r);rfl
section
variable {P:Program}{w:World}{H H':Hp}{h h':Heap}{a C dx:Addr}{fs fs':List (Str×V)}
theorem ins_get(hok:HOk P w H h)(e:H a=some (.ins C dx fs)):∃mA,ObjM h a dx C mA∧(∀f,RelO (fs.lookup f) (mA f))∧PySem.Within mA (fs.map (·.1))∧fs.length≤1000∧H dx=some (.own a):=by
 obtain⟨d,z,ne,ob,mA,n,r,q⟩:=(show ObjOk P w H h a (.ins C dx fs) from hok a _ e)
 exact⟨mA,⟨ob,n,ne⟩,r,q,z,d⟩
end
structure Cls (K:PySem.W.Frag) (C:Addr):Prop where
 pg:PySem.W.plainGet K C Str.empty=true
 hd:PySem.W.hasDictIn K C=true
 po:PySem.W.plainOver K C=true
 sa:PySem.W.findIn K (.ref C) "__setattr__"=some (some (.builtin "object.__setattr__"))
theorem Cls.get{K:PySem.W.Frag}{C:Addr}(c:Cls K C)(f:Str):PySem.W.plainGet K C f=true:=c.pg
def NoAttr(K:PySem.W.Frag)(C:Addr)(f:Str):Prop:=PySem.W.findIn K (.ref C) f=some none
theorem NoAttr.taker{K:PySem.W.Frag}{C:Addr}{f:Str}(n:NoAttr K C f):PySem.W.takerIn K C f=some none:=by
 unfold PySem.W.takerIn
 rw[show PySem.W.findIn K (.ref C) f=some none from n]
 rfl
structure Meth (K:PySem.W.Frag) (C:Addr) (m:Str) (f:Addr):Prop where
 at_:PySem.W.findIn K (.ref C) m=some (some (.ref f))
 fn:PySem.W.isFn K (.ref f)=true
 kp:PySem.W.keepIn K (.ref f)=true
section
variable {X:Cx}{pins:List (Addr×Obj)}{σ:St}{H:Hp}{s:Shared}{a C dx:Addr}{fs:List (Str×V)}{f:Str}{v:V}{A:Around}{E:Value→Shared→Prop}
theorem getattr_ok{b:Bool}{Q:Value→Shared→Prop}(I:Inv X pins σ H s)(e:H a=some (.ins C dx fs))(c:Cls X.K C)(n:NoAttr X.K C f)(l:fs.lookup f=some v)
  (h:∀u s',Inv X pins σ H s'→RelV v u→Q u s'):wpAny (model X.prog X.w) A (getAttr (.ref a) f b) Q E s:=by
 obtain⟨mA,O,r,_,_,_⟩:=ins_get I.hok e
 obtain⟨u,hu,ru⟩:=RelO.some_of (v:=v) (o:=mA f) (by rw[←l];exact r f)
 exact get_map I.kIn O (c.get f) c.hd n hu (handed_of ru) (h u _ (I.tok _) ru)
theorem getmeth_ok{m:Str}{g:Addr}{pl:Sem Bool}{Q:Value×List Value→Shared→Prop}(I:Inv X pins σ H s)(e:H a=some (.ins C dx fs))(c:Cls X.K C)(k:Meth X.K C m g)(l:fs.lookup m=none)
  (h:Q (.ref g,[.ref a]) s):wpAny (model X.prog X.w) A (getMethod (.ref a) m pl) Q E s:=by
 obtain⟨mA,O,r,_,_,_⟩:=ins_get I.hok e
 have hn:mA m=none:=RelO.none_of (by rw[←l];exact r m)
 exact get_meth I.kIn O (c.get m) k.at_ k.fn hn h
theorem setattr_ok{y:V}{u:Value}{Q:Unit→Shared→Prop}(I:Inv X pins σ H s)(e:H a=some (.ins C dx fs))(c:Cls X.K C)(n:NoAttr X.K C f)(hl:fs.length<1000)(ry:RelV y u)
  (h:∀s',Inv X pins σ (upd H a (.ins C dx (putF f y fs))) s'→Q () s'):wpAny (model X.prog X.w) A (setAttr (.ref a) f u) Q E s:=by
 obtain⟨mA,O,r,wi,_,ho⟩:=ins_get I.hok e
 have hz:(fs.map (·.1)).length≤sizeLine:=by rw[List.length_map,sizeLine_eq];omega
 refine set_map I.kIn O c.sa c.po n.taker c.hd wi hz fun h' O' sb=>h _ ?_
 have hd:∃o,h'.get? dx=some o:=let ⟨o,_,_,e',_⟩:=O'.ns;⟨o,e'⟩
 refine I.write (x:=a) (e:=dx) (by rw[e];exact True.intro) (.inr ho) (fun b q hb z=>(sb.2 b hb).trans z) hd ?_
 refine⟨by rw[zF O.ne];exact ho,?_,O.ne,O'.obj,_,O'.ns,fun g=>?_,fun g hg=>?_⟩
 ·have:=length_putF f y fs;omega
 ·show RelO ((putF f y fs).lookup g) (if g=f then some u else mA g)
  rw[lookup_putF]
  by_cases q:g=f
  ·rw[if_pos q,if_pos q];exact ry
  ·rw[if_neg q,if_neg q];exact r g
 ·by_cases q:g=f
  ·rw[q];exact(keys_putF f y fs).1
  ·refine(keys_putF f y fs).2 g (wi g fun z=>hg ?_)
   show(if g=f then some u else mA g)=none
   rw[if_neg q];exact z
theorem Inv.made(I:Inv X pins σ H s):Inv X pins σ (upd (upd H s.heap.objs.size (.own (s.heap.objs.size+1))) (s.heap.objs.size+1) (.ins C s.heap.objs.size []))
  { s with heap:=(s.heap.push PySem.W.emptyDict).push (PySem.W.instObj C s.heap.objs.size) }:=by
 have e1:(s.heap.push PySem.W.emptyDict).get? s.heap.objs.size=some PySem.W.emptyDict:=Heap.get?_push_size s.heap rfl
 have e2:((s.heap.push PySem.W.emptyDict).push (PySem.W.instObj C s.heap.objs.size)).get? (s.heap.objs.size+1)=some (PySem.W.instObj C s.heap.objs.size):=by
  have:=Heap.get?_push_size (s.heap.push PySem.W.emptyDict) (o:=PySem.W.instObj C s.heap.objs.size) rfl
  rwa [Heap.size_push]at this
 have e3:(s.heap.push PySem.W.emptyDict).Ns s.heap.objs.size (fun _=>none):=⟨PySem.W.emptyDict,#[],_,e1,rfl,(fun e he=>absurd he (by simp)),fun _=>rfl⟩
 have I1:=I.laid (a:=s.heap.objs.size) (o:=.own (s.heap.objs.size+1)) (h':=s.heap.push PySem.W.emptyDict) (t':=s.toks) (fun b u q=>Heap.get?_push_of_some _ q) (Nat.le_refl _) ⟨_,e1⟩
 refine I1.laid (a:=s.heap.objs.size+1) (o:=.ins C s.heap.objs.size []) (t':=s.toks) (fun b u q=>Heap.get?_push_of_some _ q) (Nat.le_of_eq (Heap.size_push _ _)) ?_
 have ne:s.heap.objs.size≠s.heap.objs.size+1:=Nat.ne_of_lt (Nat.lt_succ_self _)
 refine⟨by rw[zF ne,zB],Nat.zero_le _,ne,e2,fun _=>none,(Heap.Ns1.of_empty e3).at fun o q=>Heap.get?_push_of_some _ q,fun _=>True.intro,fun y hy=>absurd rfl hy⟩
theorem attr_of{prog:Program}{w:World}{env:Env}{e:Expr}{f:Str}{pos:Pos}{s:Shared}{Q:Value→Shared→Prop}(hb:attributeBase e f env (eval e env)=eval e env)
  (h:wpAny (model prog w) A (eval e env) (fun o s₁=>wpAny (model prog w) A (getAttr o f true) Q E s₁) E s):wpAny (model prog w) A (eval (.Attribute e f pos) env) Q E s:=
 Attribute_any_ h (by rw[arm_eval_Attribute,hb])
end
def tFld(K:PySem.W.Frag)(ta:TE)(f:Str):TE:=fun σ H Q=>ta σ H fun x H1=>∃a C dx fs v,x=.ref a∧H1 a=some (.ins C dx fs)∧Cls K C∧NoAttr K C f∧fs.lookup f=some v∧Q v H1
def sFld(K:PySem.W.Frag)(ta tv:TE)(f:Str):TS:=fun D σ H=>tv σ H fun y H1=>ta σ H1 fun x H2=>∃a C dx fs,x=.ref a∧H2 a=some (.ins C dx fs)∧Cls K C∧NoAttr K C f∧fs.length<1000∧
 D.nx σ (upd H2 a (.ins C dx (putF f y fs)))
section
variable {X:Cx}{o e value:Expr}{f:Str}{pos pos' tpos:Pos}{ta tv:TE}
theorem zJ(he:PE X e ta)(hb:attributeBase e f X.env (eval e X.env)=eval e X.env):PE X (.Attribute e f pos) (tFld X.K ta f):=by
 intro pins s σ H Q I h
 refine attr_of hb (thn (he pins s σ H _ I h) fun u s1 ⟨x,H1,I1,rx,a,C,dx,fs,v,ex,ea,c,n,l,q⟩=>?_)
 subst ex
 obtain rfl:u=Value.ref a:=rx
 exact getattr_ok I1 ea c n l fun u' s2 I2 ru=>⟨v,H1,I2,ru,q⟩
theorem zY(ha:PE X o ta)(hv:PE X value tv)(hs:swapsWith value (some (.Attribute o f pos')) pos.line X.env=pure false):PS X (.Assign [.Attribute o f pos'] value pos) (sFld X.K ta tv f):=by
 intro pins s σ H D I h
 refine plainObj_wpAny_Assign_Attribute (thn (hv pins s σ H _ I h) fun u s1 ⟨y,H1,I1,ry,q⟩=>thn (ha pins s1 σ H1 _ I1 q) fun ov s2 ⟨x,H2,I2,rx,a,C,dx,fs,ex,ea,c,n,l,q2⟩=>?_) hs
 subst ex
 obtain rfl:ov=Value.ref a:=rx
 exact setattr_ok I2 ea c n l ry fun s3 I3=>⟨σ,_,I3,q2⟩
theorem methcall_of{pl:Sem Bool}{m:Str}{apos:Pos}{args:List Expr}{pins:List (Addr×Obj)}{s:Shared}{σ:St}{H:Hp}{Q:Value→Shared→Prop}{te:TE}(he:PE X e te)(I:Inv X pins σ H s)
  (h:te σ H fun x H1=>∃a C dx fs g,x=.ref a∧H1 a=some (.ins C dx fs)∧Cls X.K C∧Meth X.K C m g∧fs.lookup m=none∧
   ∀s1,Inv X pins σ H1 s1→wpAny (model X.prog X.w) X.A (callWith pos (.ref g) [.ref a] (backTo pos (starEach args X.env)) (backToKw pos (keywordEach [] X.env))) Q X.xe s1)
  (ht:eval (.Call (.Attribute e m apos) args [] pos) X.env=(do
   let ov ←eval e X.env
   standAt apos.atName
   let (f,first) ←holding [ov] (getMethod ov m pl)
   callWith pos f first (backTo pos (starEach args X.env)) (backToKw pos (keywordEach [] X.env)))):
  wpAny (model X.prog X.w) X.A (eval (.Call (.Attribute e m apos) args [] pos) X.env) Q X.xe s:=by
 refine PySem.W.methodCall_KW (pl:=pl) (thn (he pins s σ H _ I h) fun u s1 ⟨x,H1,I1,rx,a,C,dx,fs,g,ex,ea,c,k,l,q⟩=>?_) ht
 subst ex
 obtain rfl:u=Value.ref a:=rx
 exact getmeth_ok I1 ea c k l (q s1 I1)
end
section
variable {X:Cx}{pins:List (Addr×Obj)}{σ:St}{H:Hp}{s:Shared}{A:Around}{E:Value→Shared→Prop}{Q:Value→Shared→Prop}{c:Value}{b:Bool}
end
end L2
namespace L2
open PySem PySem.Spec PyProof.Rows
structure Room (k:Nat) (A:Around):Prop where
 hd:A.handled=none
 dp:A.depth+3*k+5<recursionLimit
 un:A.units+16*k+200<cLine
theorem Room.mono{j k:Nat}{A:Around}(r:Room k A)(h:j≤k):Room j A:=⟨r.hd,by have:=r.dp;omega,by have:=r.un;omega⟩
theorem Room.deeper{k:Nat}{A:Around}(r:Room (k+1) A)(env:Env):Room k (A.deeper env):=
 ⟨r.hd,by have:=r.dp;show A.depth+1+3*k+5<_;omega,by have:=r.un;show A.units+3+16*k+200<_;omega⟩
theorem make_depth{A:Around}{C:Addr}{us:List Value}{kw:List (Str×Value)}:(A.under (.builtin "type.__call__" ⟨.ref C::us,kw⟩)).depth=A.depth+1:=by
 first | rfl | simp[Around.under,Code.weight,Code.isCreation,Code.isGuard,Code.isCaller,Code.frames,Code.isFrame,guardIds]
theorem make_units{A:Around}{C:Addr}{us:List Value}{kw:List (Str×Value)}:(A.under (.builtin "type.__call__" ⟨.ref C::us,kw⟩)).units=A.units+1:=by
 first | rfl | simp[Around.under,Code.cUnits,Code.frames,Code.isFrame]
theorem Room.make{k:Nat}{A:Around}(r:Room (k+1) A)(C:Addr)(us:List Value)(kw:List (Str×Value)):Room k (A.under (.builtin "type.__call__" ⟨.ref C::us,kw⟩)):=
 ⟨r.hd,by have:=r.dp;rw[make_depth];omega,by have:=r.un;rw[make_units];omega⟩
theorem Room.depth{k:Nat}{A:Around}(r:Room k A):A.depth<recursionLimit:=by have:=r.dp;omega
theorem Room.units{k:Nat}{A:Around}(r:Room k A):A.units+64<cLine:=by have:=r.un;omega
def tNil:TA:=fun _ H Q=>Q [] H
def tCons(ta:TE)(tr:TA):TA:=fun σ H Q=>ta σ H fun x H1=>tr σ H1 fun xs H2=>Q (x::xs) H2
section
variable {X:Cx}{e:Expr}{es:List Expr}{te:TE}{t:TA}{pos:Pos}
theorem zG:PA X [] tNil:=fun _ _ _ _ H Q I h=>Calls.spliced_nil ⟨[],H,I,.nil,h⟩
theorem zA(ha:PE X e te)(hr:PA X es t)(hs:starEach (e::es) X.env=(false,eval e X.env)::starEach es X.env:=by rfl):PA X (e::es) (tCons te t):=by
 intro pos pins s σ H Q I h
 rw[hs]
 show wpAny _ _ (spliced ((false,eval e X.env)::backTo pos (starEach es X.env))) _ _ s
 refine Calls.spliced_cons (thn (ha pins s σ H _ I h) fun u s1 ⟨x,H1,I1,r1,q1⟩=>?_)
 exact thn (hr pos pins s1 σ H1 _ I1 q1) fun us s2 ⟨xs,H2,I2,r2,q2⟩=>⟨x::xs,H2,I2,.cons r1 r2,q2⟩
def tTup(t:TA):TE:=fun σ H Q=>t σ H fun xs H1=>xs.length≤sizeLine∧∀p,H1 p=none→Q (.ref p) (upd H1 p (.tup xs))
def tLst(t:TA):TE:=fun σ H Q=>t σ H fun xs H1=>xs.length≤sizeLine∧∀p,H1 p=none→Q (.ref p) (upd H1 p (.lst xs))
theorem pe_tup{x1}(h:PA X es t):PE X (.Tuple es x1 pos) (tTup t):=by
 intro pins s σ H Q I hq
 refine wpAny_Tuple_spliced (thn (h pos pins s σ H _ I hq) fun us s1 ⟨xs,H1,I1,r,z,q⟩=>⟨by rw[←r.length];exact z,?_⟩)
 have hf:H1 s1.heap.objs.size=none:=I1.hok.fresh (Nat.le_refl _)
 refine⟨.ref s1.heap.objs.size,upd H1 s1.heap.objs.size (.tup xs),I1.laid (t':=s1.toks) (fun b u e=>Heap.get?_push_of_some _ e) (Nat.le_refl _) ?_,rfl,q _ hf⟩
 exact⟨z,us,r,⟨_,Heap.get?_push_size _ rfl,rfl,_,rfl⟩⟩
theorem yI(h:PA X es t):PE X (.List es pos) (tLst t):=by
 intro pins s σ H Q I hq
 refine wpAny_List_spliced (thn (h pos pins s σ H _ I hq) fun us s1 ⟨xs,H1,I1,r,z,q⟩=>⟨by rw[←r.length];exact z,?_⟩)
 have hf:H1 s1.heap.objs.size=none:=I1.hok.fresh (Nat.le_refl _)
 refine⟨.ref s1.heap.objs.size,upd H1 s1.heap.objs.size (.lst xs),I1.laid (t':=s1.toks) (fun b u e=>Heap.get?_push_of_some _ e) (Nat.le_refl _) ?_,rfl,q _ hf⟩
 exact⟨z,us,0,r,Heap.get?_push_size _ rfl⟩
end
abbrev Sp:=List V→Hp→VK→XK→Prop
abbrev CXT:=List Env→Hp→Shared→XK→Value→Shared→Prop
structure Env0 (P:Program) (w:World) (K:PySem.W.Frag) (mg:Str→Option Value) (base:Heap) (A:Around) (outer:List Env) (s:Shared) (H:Hp):Prop where
 frames:A.frames=some outer
 mod:Mod K mg base
 bs:∀b o,base.get? b=some o→s.heap.get? b=some o∧H b=none
 bsz:base.objs.size≤s.heap.objs.size
 funs:s.heap.FunFrames base outer
 frf:∀b∈frs outer,H b=none
 hok:HOk P w H s.heap
 bare:AllBare s.gens
def CE(outer:List Env)(P:Program)(w:World)(H:Hp)(s:Shared)(Q:VK)(u:Value)(s':Shared):Prop:=
 ∃v H',s'.os=s.os∧AllBare s'.gens∧Un (frs outer) [] H H' s.heap s'.heap∧HOk P w H' s'.heap∧RelV v u∧Q v H'
def CR(CX:CXT)(outer:List Env)(P:Program)(w:World)(H:Hp)(s:Shared)(Q:VK)(E:XK)(r:Result)(s':Shared):Prop:=
 match r with
 |.ok (.ret u)=>CE outer P w H s Q u s'
 |.ok _=>False
 |.error e=>CX outer H s E e s'
structure FnOk (P:Program) (w:World) (K:PySem.W.Frag) (mg:Str→Option Value) (base:Heap) (CX:CXT) (k:Nat) (f:Addr) (fd:FuncData) (ps:List Str) (sp:Sp):Prop where
 len:∀vs H Q E,sp vs H Q E→vs.length=ps.length
 run:∀(A:Around) (outer:List Env) (s:Shared) (H:Hp) (args:Args) (us:List Value) (vs:List V) (Q:VK) (E:XK),Room k A→Env0 P w K mg base A outer s H→BindsTo s fd args (ps.zip us)→Vals vs us→sp vs H Q E→
  codeAny (model P w) A (.call (.ref f) args) (CR CX outer P w H s Q E) s
theorem Env0.make{P:Program}{w:World}{K:PySem.W.Frag}{mg:Str→Option Value}{base:Heap}{A:Around}{outer:List Env}{s:Shared}{H:Hp}(e:Env0 P w K mg base A outer s H)(C:Addr)(us:List Value)(kw:List (Str×Value)):
  Env0 P w K mg base (A.under (.builtin "type.__call__" ⟨.ref C::us,kw⟩)) outer s H:=⟨by first | exact e.frames | (simpa[Around.under,Code.envs,Code.isFrame,pushEnvs] using e.frames),e.mod,e.bs,e.bsz,e.funs,e.frf,e.hok,e.bare⟩
section
variable {X:Cx}{pins:List (Addr×Obj)}{σ:St}{H:Hp}{s s':Shared}
theorem Inv.env0(I:Inv X pins σ H s):Env0 X.prog X.w X.K X.mg X.base X.A X.stack s H:=
 ⟨I.ok.frames,I.ok.mod,I.bs,Nat.le_trans I.ok.bsz I.sz,I.stack,I.stkFree,I.hok,I.bare⟩
theorem Inv.after{Q:VK}{u:Value}(I:Inv X pins σ H s)(h:CE X.stack X.prog X.w H s Q u s'):EP X pins σ Q u s':=by
 obtain⟨v,H',os,bare,un,hok,r,q⟩:=h
 obtain⟨hh,g,d,t,os'⟩:=s'
 obtain rfl:os'=s.os:=os
 exact⟨v,H',I.call (h':=hh) (g':=g) (d':=d) (t':=t) (ch:=[]) un hok bare (fun b z=>absurd z (by simp)),r,q⟩
end
def tCall(sp:Sp)(dvs:List V)(E:XK)(t:TA):TE:=fun σ H Q=>t σ H fun vs H1=>sp (vs++dvs) H1 Q E
def tMeth(C:Addr)(m:Str)(sp:Sp)(dvs:List V)(E:XK)(ta:TE)(t:TA):TE:=fun σ H Q=>ta σ H fun x H1=>∃a dx fs,x=.ref a∧H1 a=some (.ins C dx fs)∧fs.lookup m=none∧
 t σ H1 fun vs H2=>sp (x::(vs++dvs)) H2 Q E
def tMake(C:Addr)(sp:Sp)(dvs:List V)(E:XK)(t:TA):TE:=fun σ H Q=>t σ H fun vs H1=>∀x dx,H1 x=none→H1 dx=none→dx≠x→
 sp (.ref x::(vs++dvs)) (upd (upd H1 dx (.own x)) x (.ins C dx [])) (fun v H2=>v=.non∧Q (.ref x) H2) E
def Binds(K:PySem.W.Frag)(fd:FuncData)(ps:List Str)(ds:List Value):Prop:=
 ∀(s:Shared) (us:List Value),K.In s.heap→(us++ds).length=ps.length→BindsTo s fd ⟨us,[]⟩ (ps.zip (us++ds))
theorem Binds.all{K:PySem.W.Frag}{fd:FuncData}{ps:List Str}(h:∀us:List Value,us.length=ps.length→bindArgs fd ⟨us,[]⟩=pure (ps.zip us)):Binds K fd ps []:=fun s us _ hl=>by
 rw[List.append_nil]at hl ⊢
 exact .of_eq (h us hl)
def Passes(CX:CXT)(X:Cx)(E:XK):Prop:=∀(pins:List (Addr×Obj)) (σ:St) (H:Hp) (s:Shared) (e:Value) (s':Shared),Inv X pins σ H s→CX X.stack H s E e s'→X.xe e s'
section
variable {X:Cx}{CX:CXT}{k:Nat}{f C:Addr}{fd:FuncData}{ps:List Str}{sp:Sp}{dvs:List V}{ds:List Value}{E:XK}{x m:Str}{p pos apos:Pos}{e o:Expr}{es:List Expr}{ta:TE}{t:TA}
theorem run_fn{pins:List (Addr×Obj)}{σ:St}{H:Hp}{s:Shared}{Q:VK}{us:List Value}{vs:List V}(F:FnOk X.prog X.w X.K X.mg X.base CX k f fd ps sp)(hr:Room k X.A)(hb:Binds X.K fd ps ds)(hd:Vals dvs ds)(hx:Passes CX X E)
  (I:Inv X pins σ H s)(r:Vals vs us)(h:sp (vs++dvs) H Q E):wpAny (model X.prog X.w) X.A (call (.ref f) us) (EP X pins σ Q) X.xe s:=by
 have r2:Vals (vs++dvs) (us++ds):=r.append hd
 have hl:(us++ds).length=ps.length:=by rw[←r2.length];exact F.len _ _ _ _ h
 refine wpAny_call (codeAny_mono (F.run X.A X.stack s H ⟨us,[]⟩ (us++ds) (vs++dvs) Q E hr I.env0 (hb s us I.kIn hl) r2 h) fun r s' hq=>?_)
 cases r with
 |error e=>exact hx pins σ H s e s' I hq
 |ok fl=>
  cases fl with
  |ret u=>exact I.after hq
  |next=>exact False.elim hq
  |brk=>exact False.elim hq
  |cont=>exact False.elim hq
theorem zS(F:FnOk X.prog X.w X.K X.mg X.base CX k f fd ps sp)(hr:Room k X.A)(hg:Gl X x)(hm:X.mg x=some (.ref f))(hk:PySem.W.keepIn X.K (.ref f)=true)(hb:Binds X.K fd ps ds)(hd:Vals dvs ds)(hx:Passes CX X E)
  (ha:PA X (e::es) t)(hdb:(x==("__debug__":Str))=false:=by decide)(he:starEach (e::es) X.env=(false,eval e X.env)::starEach es X.env:=by rfl)(hpl:(backTo pos (starEach es X.env)).any (·.1)=false:=by rfl):
  PE X (.Call (.Name x p) (e::es) [] pos) (tCall sp dvs E t):=by
 intro pins s σ H Q I h
 refine wpAny_Call_Name_kw (ld_glob I hg hm ?_ hdb)
 refine PySem.W.callWith_K (h₀:=X.base) I.ok.mod.kin hk (thn (ha pos pins s σ H _ I h) fun us s1 ⟨vs,H1,I1,r,q⟩=>⟨I1.kIn,?_⟩) he hpl
 exact run_fn F hr hb hd hx I1 r q
theorem pe_meth{pl:Sem Bool}(he:PE X o ta)(c:Cls X.K C)(hm:Meth X.K C m f)(F:FnOk X.prog X.w X.K X.mg X.base CX k f fd ps sp)(hr:Room k X.A)(hb:Binds X.K fd ps ds)(hd:Vals dvs ds)(hx:Passes CX X E)(ha:PA X (e::es) t)
  (hst:starEach (e::es) X.env=(false,eval e X.env)::starEach es X.env:=by rfl)(hpl:(backTo pos (starEach es X.env)).any (·.1)=false:=by rfl)
  (ht:eval (.Call (.Attribute o m apos) (e::es) [] pos) X.env=(do
   let ov ←eval o X.env
   standAt apos.atName
   let (f,first) ←holding [ov] (getMethod ov m pl)
   callWith pos f first (backTo pos (starEach (e::es) X.env)) (backToKw pos (keywordEach [] X.env))):=by rfl):
  PE X (.Call (.Attribute o m apos) (e::es) [] pos) (tMeth C m sp dvs E ta t):=by
 intro pins s σ H Q I h
 refine PySem.W.methodCall_KW (pl:=pl) (thn (he pins s σ H _ I h) fun u s1 ⟨x,H1,I1,rx,a,dx,fs,ex,ea,l,q⟩=>?_) ht
 subst ex
 obtain rfl:u=Value.ref a:=rx
 refine getmeth_ok I1 ea c hm l ?_
 refine PySem.W.callWith_K (first:=[.ref a]) (h₀:=X.base) I.ok.mod.kin hm.kp (thn (ha pos pins s1 σ H1 _ I1 q) fun us s2 ⟨vs,H2,I2,r,q2⟩=>⟨I2.kIn,?_⟩) hst hpl
 exact run_fn (us:=.ref a::us) (vs:=.ref a::vs) F hr hb hd hx I2 (.cons rfl r) q2
theorem pe_meth0{pl:Sem Bool}(he:PE X o ta)(c:Cls X.K C)(hm:Meth X.K C m f)(F:FnOk X.prog X.w X.K X.mg X.base CX k f fd ps sp)(hr:Room k X.A)(hb:Binds X.K fd ps ds)(hd:Vals dvs ds)(hx:Passes CX X E)
  (ht:eval (.Call (.Attribute o m apos) [] [] pos) X.env=(do
   let ov ←eval o X.env
   standAt apos.atName
   let (f,first) ←holding [ov] (getMethod ov m pl)
   callWith pos f first (backTo pos (starEach [] X.env)) (backToKw pos (keywordEach [] X.env))):=by rfl):
  PE X (.Call (.Attribute o m apos) [] [] pos) (tMeth C m sp dvs E ta tNil):=by
 intro pins s σ H Q I h
 refine PySem.W.methodCall_KW (pl:=pl) (thn (he pins s σ H _ I h) fun u s1 ⟨x,H1,I1,rx,a,dx,fs,ex,ea,l,q⟩=>?_) ht
 subst ex
 obtain rfl:u=Value.ref a:=rx
 refine getmeth_ok I1 ea c hm l ?_
 exact PySem.W.callWith_K0 (first:=[.ref a]) I1.kIn hm.kp (run_fn (us:=[.ref a]) (vs:=[.ref a]) F hr hb hd hx I1 (.cons rfl .nil) q)
structure Mk (K:PySem.W.Frag) (C f:Addr):Prop where
 makes:PySem.W.makesIn K C=true
 init:PySem.W.findIn K (.ref C) "__init__"=some (some (.ref f))
 fn:PySem.W.isFn K (.ref f)=true
 kp:PySem.W.keepIn K (.ref C)=true
theorem run_make{pins:List (Addr×Obj)}{σ:St}{H:Hp}{s:Shared}{Q:VK}{us:List Value}{vs:List V}(M:Mk X.K C f)(F:FnOk X.prog X.w X.K X.mg X.base CX k f fd ps sp)(hr:Room (k+1) X.A)(hb:Binds X.K fd ps ds)(hd:Vals dvs ds)
  (hx:Passes CX X E)(I:Inv X pins σ H s)(r:Vals vs us)
  (h:∀x dx,H x=none→H dx=none→dx≠x→sp (.ref x::(vs++dvs)) (upd (upd H dx (.own x)) x (.ins C dx [])) (fun v H2=>v=.non∧Q (.ref x) H2) E):
  wpAny (model X.prog X.w) X.A (call (.ref C) us) (EP X pins σ Q) X.xe s:=by
 have hq:=h (s.heap.objs.size+1) s.heap.objs.size (I.hok.fresh (Nat.le_succ _)) (I.hok.fresh (Nat.le_refl _)) (Nat.ne_of_lt (Nat.lt_succ_self _))
 have I2:=Inv.made (C:=C) I
 have r2:Vals (V.ref (s.heap.objs.size+1)::(vs++dvs)) (Value.ref (s.heap.objs.size+1)::(us++ds)):=.cons rfl (r.append hd)
 have hl:(Value.ref (s.heap.objs.size+1)::us++ds).length=ps.length:=by
  have e:=r2.length
  rw[F.len _ _ _ _ hq]at e
  exact e.symm
 refine wpAny_call (make_map (f:=f) I.kIn M.makes M.init (beq_iff_eq.mp M.fn) (codeAny_mono (F.run _ X.stack _ _ ⟨Value.ref (s.heap.objs.size+1)::us,[]⟩ (Value.ref (s.heap.objs.size+1)::(us++ds)) _ _ E (hr.make C us [])
  (I2.env0.make C us []) (hb _ (Value.ref (s.heap.objs.size+1)::us) I2.kIn hl) r2 hq) fun r s' hq'=>?_))
 cases r with
 |error e=>exact hx pins σ _ _ e s' I2 hq'
 |ok fl=>
  cases fl with
  |ret u=>
   obtain⟨v,H',I3,rv,ev,q3⟩:=I2.after hq'
   subst ev
   exact⟨rv,⟨V.ref (s.heap.objs.size+1),H',I3,rfl,q3⟩⟩
  |next=>exact False.elim hq'
  |brk=>exact False.elim hq'
  |cont=>exact False.elim hq'
theorem pe_make(M:Mk X.K C f)(F:FnOk X.prog X.w X.K X.mg X.base CX k f fd ps sp)(hr:Room (k+1) X.A)(hg:Gl X x)(hm:X.mg x=some (.ref C))(hb:Binds X.K fd ps ds)(hd:Vals dvs ds)(hx:Passes CX X E)
  (ha:PA X (e::es) t)(hdb:(x==("__debug__":Str))=false:=by decide)(he:starEach (e::es) X.env=(false,eval e X.env)::starEach es X.env:=by rfl)(hpl:(backTo pos (starEach es X.env)).any (·.1)=false:=by rfl):
  PE X (.Call (.Name x p) (e::es) [] pos) (tMake C sp dvs E t):=by
 intro pins s σ H Q I h
 refine wpAny_Call_Name_kw (ld_glob I hg hm ?_ hdb)
 refine PySem.W.callWith_K (h₀:=X.base) I.ok.mod.kin M.kp (thn (ha pos pins s σ H _ I h) fun us s1 ⟨vs,H1,I1,r,q⟩=>⟨I1.kIn,?_⟩) he hpl
 exact run_make M F hr hb hd hx I1 r q
theorem pe_make0(M:Mk X.K C f)(F:FnOk X.prog X.w X.K X.mg X.base CX k f fd ps sp)(hr:Room (k+1) X.A)(hg:Gl X x)(hm:X.mg x=some (.ref C))(hb:Binds X.K fd ps ds)(hd:Vals dvs ds)(hx:Passes CX X E)
  (hdb:(x==("__debug__":Str))=false:=by decide):PE X (.Call (.Name x p) [] [] pos) (tMake C sp dvs E tNil):=by
 intro pins s σ H Q I h
 refine wpAny_Call_Name_kw (ld_glob I hg hm ?_ hdb)
 exact PySem.W.callWith_K0 I.kIn M.kp (run_make (us:=[]) M F hr hb hd hx I .nil h)
end
section
variable {X:Cx}{CX:CXT}{k:Nat}{f C:Addr}{fd:FuncData}{ps ks:List Str}{sp:Sp}{E:XK}{x m:Str}{p pos apos kpos:Pos}{e o:Expr}{es:List Expr}{kws:List Keyword}{te ta:TE}{t tk:TA}{nm:Option Str}
variable {g:List Value→List Value→List Value}{gV:List V→List V→List V}
end
structure FnScope (N P:List Str) (sc:Scope):Prop where
 kind:sc.kind=.function
 co:sc.isCoroutine=false
 gen:sc.isGenerator=false
 nd:N.Nodup
 pre:N.take P.length=P
 par:∀x∈P,sc.names.lookup x=some .local∨sc.names.lookup x=some .cell
 nofree:∀y∈sc.names,y.2≠.free
theorem bindL_out{kindOf:Str→Option NameKind}{x:Str}:∀{binds:List (Str×Value)} {m:Str→Option Value},(∀v,(x,v)∉binds)→bindL kindOf binds m x=m x
 |[],_,_=>rfl
 | (n,v)::r,m,h=>by
  unfold bindL
  rw[bindL_out fun w hw=>h w (List.mem_cons_of_mem _ hw)]
  split
  ·have:x≠n:=by rintro rfl;exact h v List.mem_cons_self
   simp[this]
  ·rfl
theorem bindC_out{kindOf:Str→Option NameKind}{x:Str}:∀{binds:List (Str×Value)} {m:Str→Option Value},(∀v,(x,v)∉binds)→bindC kindOf binds m x=m x
 |[],_,_=>rfl
 | (n,v)::r,m,h=>by
  unfold bindC
  rw[bindC_out fun w hw=>h w (List.mem_cons_of_mem _ hw)]
  split
  ·rfl
  ·have:x≠n:=by rintro rfl;exact h v List.mem_cons_self
   simp[this]
theorem bindL_get{kindOf:Str→Option NameKind}{x:Str}{v:Value}:∀{P:List Str} {vs:List Value} {i:Nat} {m:Str→Option Value},P.Nodup→P[i]? =some x→vs[i]? =some v→kindOf x=some .local→
  bindL kindOf (P.zip vs) m x=some v
 |[],_,_,_,_,h,_,_=>by simp at h
 |_::_,[],_,_,_,_,h,_=>by simp at h
 |p::P,w::vs,0,m,nd,h1,h2,hk=>by
  simp at h1 h2;subst h1;subst h2
  show bindL kindOf ((p,w)::P.zip vs) m p=_
  unfold bindL
  rw[bindL_out fun v hv=>(List.nodup_cons.mp nd).1 (List.of_mem_zip hv).1,if_pos hk]
  simp
 |p::P,w::vs,i+1,m,nd,h1,h2,hk=>by
  show bindL kindOf ((p,w)::P.zip vs) m x=_
  unfold bindL
  exact bindL_get (i:=i) (List.nodup_cons.mp nd).2 (by simpa using h1) (by simpa using h2) hk
theorem bindC_get{kindOf:Str→Option NameKind}{x:Str}{v:Value}:∀{P:List Str} {vs:List Value} {i:Nat} {m:Str→Option Value},P.Nodup→P[i]? =some x→vs[i]? =some v→kindOf x≠some .local→
  bindC kindOf (P.zip vs) m x=some v
 |[],_,_,_,_,h,_,_=>by simp at h
 |_::_,[],_,_,_,_,h,_=>by simp at h
 |p::P,w::vs,0,m,nd,h1,h2,hk=>by
  simp at h1 h2;subst h1;subst h2
  show bindC kindOf ((p,w)::P.zip vs) m p=_
  unfold bindC
  rw[bindC_out fun v hv=>(List.nodup_cons.mp nd).1 (List.of_mem_zip hv).1,if_neg hk]
  simp
 |p::P,w::vs,i+1,m,nd,h1,h2,hk=>by
  show bindC kindOf ((p,w)::P.zip vs) m x=_
  unfold bindC
  exact bindC_get (i:=i) (List.nodup_cons.mp nd).2 (by simpa using h1) (by simpa using h2) hk
def start(N:List Str)(vs:List V):St:=vs.map some++List.replicate (N.length-vs.length) none
def cxOf(CX:CXT)(P:Program)(w:World)(K:PySem.W.Frag)(mg:Str→Option Value)(base:Heap)(N:List Str)(qual:Str)(scope:Scope)(f:Addr)(cd:Value)(A:Around)(outer:List Env)(s:Shared)(H:Hp)(E:XK):Cx where
 prog:=P
 w:=w
 K:=K
 mg:=mg
 base:=base
 A:=A.deeper (envOfC qual scope s.heap.objs.size f cd)
 N:=N
 s_0:=s
 H_0:=H
 env:=envOfC qual scope s.heap.objs.size f cd
 outer:=outer
 stack:=envOfC qual scope s.heap.objs.size f cd::outer
 ex:=[]
 calm:=true
 fn:=fun _=>true
 pn:=[]
 xe:=fun e s'=>wpAny (model P w) (A.deeper (envOfC qual scope s.heap.objs.size f cd)) (leaving (envOfC qual scope s.heap.objs.size f cd) e) (fun _ s''=>CX outer H s E e s'') (fun e' s''=>CX outer H s E e' s'') s'
theorem cell_has{sc:Scope}{n:Nat}{x:Str}(h:sc.names.lookup x=some .cell):∃c,(cellsFrom n sc.names []).lookup x=some c:=by
 have q:=PySem.W.cellsFrom_some sc.names n [] (.inl h)
 exact Option.isSome_iff_exists.mp q
theorem inv_start{CX:CXT}{P:Program}{w:World}{K:PySem.W.Frag}{mg:Str→Option Value}{base:Heap}{N ps:List Str}{qual:Str}{scope:Scope}{f:Addr}{cd:Value}{A:Around}{outer:List Env}{s s1:Shared}{H:Hp}{E:XK}{us:List Value}{vs:List V}
  (S:FnScope N ps scope)(hd:A.handled=none)(e0:Env0 P w K mg base A outer s H)(hl:vs.length=ps.length)(r:Vals vs us)
  (x:InCallC s s.heap.objs.size (bindL (envOfC qual scope s.heap.objs.size f cd).kindOf (ps.zip us) fun _=>none) (cellsFrom (s.heap.objs.size+1) scope.names []) (bindC (envOfC qual scope s.heap.objs.size f cd).kindOf (ps.zip us) fun _=>none) s1):
  Inv (cxOf CX P w K mg base N qual scope f cd A outer s H E) [] (start N vs) H s1:=by
 have hpl:ps.length≤N.length:=by have:=congrArg List.length S.pre;rw[List.length_take]at this;omega
 obtain⟨h1,tk,rfl,hk⟩:=x.done
 have noA:∀b:Addr,b∉(cxOf CX P w K mg base N qual scope f cd A outer s H E).ex:=fun b z=>absurd (show b∈([]:List Addr) from z) (by simp)
 refine⟨⟨e0.mod,S.kind,rfl,rfl,Nat.le_refl _,fun y z c h1 h2=>?_,fun y hy=>?_,fun y c _ h=>?_,fun _=>hd,Around.frames_deeper e0.frames,.inr ⟨rfl,rfl⟩,fun b z=>absurd z (noA b),e0.bs,e0.bsz,fun b _ _=>noA b,fun b z=>absurd z (noA b),e0.funs,e0.frf⟩,
  rfl,e0.bare,Un.kept hk,⟨_,x.toInCall.ns,fun i y v h1 h2 h3=>?_⟩,fun y c h=>⟨_,x.cell y c h⟩,e0.hok.fresh (Nat.le_refl _),fun y c h=>?_,fun p hp=>absurd (show p∈([]:List (Addr×Obj)) from hp) (by simp),e0.hok.kept hk,?_⟩
 ·exact name_of_addr x.apart (PySem.mem_of_lookup h1) (PySem.mem_of_lookup h2)
 ·have hy:scope.names.lookup y=some .cell∨scope.names.lookup y=some .free:=hy
  rcases hy with hy | hy
  ·exact cell_has hy
  ·exact absurd rfl (S.nofree _ (PySem.mem_of_lookup hy))
 ·exact Nat.le_of_lt (x.above y c (PySem.mem_of_lookup h))
 ·have hi:i<vs.length:=by
   unfold start at h2
   by_cases hi:i<vs.length
   ·exact hi
   ·rw[List.getElem?_append_right (by simpa using hi)]at h2
    rw[List.getElem?_replicate]at h2
    split at h2<;>cases h2
  have ha:vs[i]? =some v:=by
   unfold start at h2
   rw[List.getElem?_append_left (by simpa using hi),List.getElem?_map]at h2
   cases e:vs[i]? with
   |none=>rw[e]at h2;cases h2
   |some a=>rw[e]at h2;cases h2;rfl
  obtain⟨u,hu,rv⟩:=r.get ha
  have hp:ps[i]? =some y:=by
   rw[←S.pre,List.getElem?_take_of_lt (by omega)];exact h1
  have ndP:ps.Nodup:=by rw[←S.pre];exact S.nd.sublist (List.take_sublist _ _)
  refine⟨u,rv,?_⟩
  rcases S.par y (List.mem_of_getElem? hp)with k | k
  ·exact .inl ⟨k,bindL_get ndP hp hu k⟩
  ·obtain⟨c,e⟩:=cell_has (n:=s.heap.objs.size+1) k
   refine .inr ⟨.inl k,c,e,?_⟩
   have q:=x.cell y c e
   rw[bindC_get ndP hp hu (by show scope.names.lookup y≠_;rw[k];decide)]at q
   exact q
 ·exact e0.hok.fresh (Nat.le_of_lt (x.above y c (PySem.mem_of_lookup h)))
 ·unfold start
  show _=N.length
  rw[List.length_append,List.length_map,List.length_replicate]
  omega
theorem fn_of{CX:CXT}{P:Program}{w:World}{K:PySem.W.Frag}{mg:Str→Option Value}{base:Heap}{k:Nat}{f:Addr}{name qual:Str}{params:Arguments}{body:List Stmt}{scope:Scope}{dV kV doc pm cdv ct oc:Value}{an od:Option Addr}
  {osl:Array (Option Value)}{N ps:List Str}{sp:Sp}(lk:K.lookup f=some ⟨oc,od,.func (PySem.W.fnOf name qual params body scope dV kV doc pm an cdv ct),osl⟩)(hcd:PySem.W.codeIn K cdv qual=true)(S:FnScope N ps scope)
  (len:∀vs H Q E,sp vs H Q E→vs.length=ps.length)
  (hbody:∀(A:Around) (outer:List Env) (s:Shared) (H:Hp) (vs:List V) (Q:VK) (E:XK),Room k (A.deeper (envOfC qual scope s.heap.objs.size f cdv))→sp vs H Q E→
   ∃t,PSs (cxOf CX P w K mg base N qual scope f cdv A outer s H E) body t∧t { nx:=fun _ H'=>Q .non H',rt:=Q } (start N vs) H):
  FnOk P w K mg base CX (k+1) f (PySem.W.fnOf name qual params body scope dV kV doc pm an cdv ct) ps sp:=by
 refine⟨len,fun A outer s H args us vs Q E hr e0 hb r hsp=>?_⟩
 have hl:=len _ _ _ _ hsp
 have KX:K.In s.heap:=e0.mod.kin.keeps fun b o e=>(e0.bs b o e).1
 have lim:s.heap.NoLimit:=e0.mod.nolimit.keeps fun b o e=>(e0.bs b o e).1
 have hkind:∀y∈ps.zip us,scope.names.lookup y.1=some .local∨(scope.names.lookup y.1=some .cell∧((cellsFrom (s.heap.objs.size+1) scope.names []).lookup y.1).isSome=true):=fun⟨n,v⟩ hy=>by
  rcases S.par n (List.of_mem_zip hy).1 with q | q
  ·exact .inl q
  ·exact .inr ⟨q,PySem.W.cellsFrom_some _ _ _ (.inl q)⟩
 refine codeAny_call_function hr.depth (KX _ _ lk) rfl S.co S.gen rfl (PySem.W.codeRec_of KX hcd) (hb _ _ _ _ ?_)
 refine wpAny_newFunctionEnv_cells S.kind hkind fun env he s1 x=>?_
 subst he
 refine⟨lim.keeps x.toInCall.keep,codeAny_func ?_⟩
 obtain⟨t,ht,hq⟩:=hbody A outer s H vs Q E (hr.deeper _) hsp
 have I:Inv (cxOf CX P w K mg base N qual scope f cdv A outer s H E) [] (start N vs) H s1:=inv_start S hr.hd e0 hl r x
 refine wpAny_mono (ht [] s1 (start N vs) H _ I hq) (fun fl s' hs=>?_) fun e s' hs=>hs
 have fin:∀{σ':St} {H':Hp} {v:V} {u:Value},Inv (cxOf CX P w K mg base N qual scope f cdv A outer s H E) [] σ' H' s'→RelV v u→Q v H'→CE outer P w H s Q u s':=
  fun {σ' H' v u} J rv q=>⟨v,H',J.os,J.bare,J.base,J.hok,rv,q⟩
 cases fl with
 |ret u=>
  obtain⟨v,σ',H',J,rv,q⟩:=hs
  exact fin J rv q
 |next=>
  obtain⟨σ',H',J,q⟩:=hs
  exact fin (v:=V.non) (u:=Value.none) J rfl q
 |brk=>
  obtain⟨_,_,_,q⟩:=hs
  exact False.elim q
 |cont=>
  obtain⟨_,_,_,q⟩:=hs
  exact False.elim q
end L2
namespace L2
open PySem PySem.Spec PyProof.Rows
section
variable {X:Cx}{x:Str}{p pos:Pos}{e:Expr}{es:List Expr}{t:TA}{id T:String}{r:List V→Hp→VK→Prop}
def tCB(r:List V→Hp→VK→Prop)(t:TA):TE:=fun σ H Q=>t σ H fun vs H1=>r vs H1 Q
theorem zU(hc:CallR X (.builtin id) r)(hg:Gl X x)(hm:X.mg x=none)(hv:bootBuiltins x=some (.builtin id))(ha:PA X (e::es) t)(hn:x≠ "__name__":=by decide)(hdb:(x==("__debug__":Str))=false:=by decide)
  (he:starEach (e::es) X.env=(false,eval e X.env)::starEach es X.env:=by rfl)(hpl:(backTo pos (starEach es X.env)).any (·.1)=false:=by rfl):PE X (.Call (.Name x p) (e::es) [] pos) (tCB r t):=by
 intro pins s σ H Q I h
 refine wpAny_Call_Name_kw (ld_blt I hg hm hv ?_ hn hdb)
 exact PyProof.Rows.callWith_builtin1 (thn (ha pos pins s σ H _ I h) fun us s1 ⟨vs,H1,I1,r1,q1⟩=>hc pins s1 σ H1 vs us Q I1 r1 q1) he hpl
theorem pe_callTy(hc:CallR X (.type T) r)(hg:Gl X x)(hm:X.mg x=none)(hv:bootBuiltins x=some (.type T))(ha:PA X (e::es) t)(hn:x≠ "__name__":=by decide)(hdb:(x==("__debug__":Str))=false:=by decide)
  (he:starEach (e::es) X.env=(false,eval e X.env)::starEach es X.env:=by rfl)(hpl:(backTo pos (starEach es X.env)).any (·.1)=false:=by rfl):PE X (.Call (.Name x p) (e::es) [] pos) (tCB r t):=by
 intro pins s σ H Q I h
 refine wpAny_Call_Name_kw (ld_blt I hg hm hv ?_ hn hdb)
 exact PyProof.Rows.callWith_type1 (thn (ha pos pins s σ H _ I h) fun us s1 ⟨vs,H1,I1,r1,q1⟩=>hc pins s1 σ H1 vs us Q I1 r1 q1) he hpl
end
end L2
namespace HT
open PySem PyProof.Rows
section
open PySem.SeqAt
open PySem.AutoSeq1 (wpAny_loadPart')
open PySem.MeetsSeq PySem.MeetsSeq2 PySem.MeetsSeq3
end
section
variable {prog:Program}{w:World}{A:Around}{E:Value→Shared→Prop}{s:Shared}
def sIx(n d:Nat):Option Int→Nat
 |none=>d
 |some v=>if v<0 then(v+ (n:Int)).toNat else min v.toNat n
theorem sIx_none(n d:Nat):sIx n d none=d:=rfl
theorem sIx_nat(n d k:Nat):sIx n d (some (k:Int))=min k n:=by
 show(if(k:Int) <0 then((k:Int) + (n:Int)).toNat else min (k:Int).toNat n)=min k n
 rw[if_neg (by omega),Int.toNat_natCast]
theorem sIx_le(n d:Nat)(hd:d≤n)(o:Option Int):sIx n d o≤n:=by
 cases o with
 |none=>exact hd
 |some v=>
  show(if v<0 then(v+ (n:Int)).toNat else min v.toNat n)≤n
  by_cases hv:v<0
  ·rw[if_pos hv];omega
  ·rw[if_neg hv];exact Nat.min_le_right _ _
theorem clip_eq(v:Int)(n d:Nat):(if v<0 then max (v+ (n:Int)) 0 else min v (n:Int))=((sIx n d (some v):Nat):Int):=by
 show(if v<0 then max (v+ (n:Int)) 0 else min v (n:Int))=(((if v<0 then(v+ (n:Int)).toNat else min v.toNat n):Nat):Int)
 by_cases hv:v<0
 ·simp only[if_pos hv];omega
 ·simp only[if_neg hv];omega
theorem adjust_gen(lo hi:Option Int)(n:Nat):Builtin.Slice.sliceAdjust lo hi 1 (n:Int)=(((sIx n 0 lo:Nat):Int),((sIx n n hi:Nat):Int)):=by
 have h1:¬((1:Int) <0):=by omega
 unfold Builtin.Slice.sliceAdjust
 simp only[h1,if_false]
 refine Prod.ext ?_ ?_
 ·cases lo with
  |none=>rfl
  |some v=>exact clip_eq v n 0
 ·cases hi with
  |none=>rfl
  |some v=>exact clip_eq v n n
theorem places_gen(i j:Nat):Builtin.Slice.slicePlaces (i:Int) (j:Int) 1=j-i:=by
 unfold Builtin.Slice.slicePlaces
 have h1:(1:Int) > 0:=by omega
 simp only[h1,if_true,Int.ediv_one]
 split<;>omega
theorem slicePart_{v:Value}{o:Option Int}{Q:Option Int→Shared→Prop}(p:IsPart v o)(h:Q o s):wpAny (model prog w) A (Builtin.Slice.slicePartIndex v) Q E s:=by
 cases p with
 |none=>exact slicePart_none h
 |int i t=>exact slicePart_int h
theorem sliceApplied_gen{sl:Addr}{vl vu:Value}{lo hi:Option Int}{n:Nat}{Q:Int×Int×Nat→Shared→Prop}(hs:s.heap.IsSliceOf sl vl vu .none)(pl:IsPart vl lo)(pu:IsPart vu hi)
  (h:Q (((sIx n 0 lo:Nat):Int),1,sIx n n hi-sIx n 0 lo) s):wpAny (model prog w) A (Builtin.Slice.sliceApplied (.ref sl) (pure (n:Int))) Q E s:=by
 obtain⟨os,hos,hcs,hds⟩:=id hs
 unfold Builtin.Slice.sliceApplied Builtin.Slice.sliceFields
 refine wpAny_bind (wpAny_bind (wpAny_field hos hds (x:=vl) rfl (wpAny_bind (wpAny_field hos hds (x:=vu) rfl (wpAny_bind (wpAny_field hos hds (x:=.none) rfl (wpAny_pure ?_)))))))
 refine wpAny_bind (slicePart_none ?_)
 show wpAny _ _ (if((1:Int)==0)=true then _ else _) _ _ s
 rw[if_neg (by decide)]
 refine wpAny_bind (slicePart_ pl (wpAny_bind (slicePart_ pu (wpAny_bind (wpAny_pure ?_)))))
 show wpAny _ _ (match Builtin.Slice.sliceAdjust lo hi 1 (n:Int)with | (lo,hi)=>pure (lo,(1:Int),Builtin.Slice.slicePlaces lo hi 1)) _ _ s
 rw[adjust_gen lo hi n]
 show wpAny _ _ (pure (((sIx n 0 lo:Nat):Int),(1:Int),Builtin.Slice.slicePlaces ((sIx n 0 lo:Nat):Int) ((sIx n n hi:Nat):Int) 1)) _ _ s
 rw[places_gen]
 exact wpAny_pure h
theorem pick_gen(xs:Array Value)(i k:Nat):((List.range k).filterMap fun(m:Nat)=>xs[((i:Int) + (m:Int) *1).toNat]?).toArray=((xs.toList.drop i).take k).toArray:=by
 have e:(fun(m:Nat)=>xs[((i:Int) + (m:Int) *1).toNat]?)=fun m=>xs[i+m]?:=by
  funext m
  have:((i:Int) + (m:Int) *1).toNat=i+m:=by omega
  rw[this]
 rw[e]
 have:=pick_run xs i k
 rw[List.filterMap_map]at this
 have e2:((fun x=>xs[x]?)∘fun x=>i+x)=fun m=>xs[i+m]? :=rfl
 rw[e2]at this
 rw[this]
theorem getItem_tuple_cut{t sl:Addr}{items:Array Value}{vl vu:Value}{lo hi:Option Int}{Q:Value→Shared→Prop}(ht:IsTup s.heap t items)(hs:s.heap.IsSliceOf sl vl vu .none)(pl:IsPart vl lo)(pu:IsPart vu hi)
  (hw:¬(sIx items.size 0 lo=0∧sIx items.size items.size hi=items.size))
  (h:Q (.ref s.heap.objs.size) { s with heap:=s.heap.push { cls:=.type "tuple",data:=.seq ((items.toList.drop (sIx items.size 0 lo)).take (sIx items.size items.size hi-sIx items.size 0 lo)).toArray } })
  (hsz:items.size≤sizeLine):wpAny (model prog w) A (getItem (.ref t) (.ref sl)) Q E s:=by
 have htake:sizeOk (.seq ((items.toList.drop (sIx items.size 0 lo)).take (sIx items.size items.size hi-sIx items.size 0 lo)).toArray):=by
  show((items.toList.drop (sIx items.size 0 lo)).take (sIx items.size items.size hi-sIx items.size 0 lo)).toArray.size≤sizeLine
  rw[List.size_toArray,List.length_take,List.length_drop,Array.length_toList]
  omega
 have hj:sIx items.size items.size hi≤items.size:=sIx_le _ _ (Nat.le_refl _) hi
 obtain⟨os,hos,hcs,hds⟩:=id hs
 have hTs:s.TypeIs (.ref sl) "slice":=⟨os,hos,hcs⟩
 unfold getItem
 try with_reducible refine wpAny_holding ?_
 first | refine wpAny_bind (wpAny_pure ?_) | skip
 refine wpAny_bind (wpAny_sequenceKey ht.typeIs (by decide) ?_)
 refine wpAny_bind (wpAny_callSpecial?_slot (name:=Str.ofString "__getitem__") ht.typeIs PyProof.Rows.slot_tuple_getitem
  (wpAny_call_entry PyProof.Rows.slot_tuple_getitem ht.typeIs entry_tuple_getitem ?_ (args_tuple_getitem _ _)))
 show wpAny _ _ (Builtin.Tuple.tupleItemsOf (.ref t) >>=_) _ _ s
 refine wpAny_bind (tupleItemsOf_ ht ?_)
 refine wpAny_bind (wpAny_typeOf hTs ?_)
 rw[if_pos (by decide)]
 refine wpAny_bind (sliceApplied_gen hs pl pu ?_)
 have hno:¬((((sIx items.size 0 lo:Nat):Int)==0&&(1:Int)==1&&(sIx items.size items.size hi-sIx items.size 0 lo)==items.size)=true):=by
  intro q
  rw[Bool.and_eq_true,Bool.and_eq_true]at q
  have q1:((sIx items.size 0 lo:Nat):Int)=0:=eq_of_beq q.1.1
  have q2:sIx items.size items.size hi-sIx items.size 0 lo=items.size:=eq_of_beq q.2
  exact hw ⟨by omega,by omega⟩
 show wpAny _ _ (if(((sIx items.size 0 lo:Nat):Int)==0&&(1:Int)==1&&(sIx items.size items.size hi-sIx items.size 0 lo)==items.size)=true then _ else _) _ _ s
 rw[if_neg hno,pick_gen]
 first
  |exact wpAny_bind (m:=Builtin.Tuple.tupleExact _) (wpAny_newObj_type (wpAny_pure ⟨_,rfl,wpAny_pure h⟩) htake)
  |exact wpAny_bind (m:=Builtin.Tuple.tupleExact _) (wpAny_newObj_type (wpAny_bind (wpAny_pure (wpAny_pure ⟨_,rfl,wpAny_pure h⟩))) htake)
  |exact wpAny_bind (wpAny_bind (m:=Builtin.Tuple.tupleExact _) (wpAny_newObj_type (wpAny_pure (wpAny_pure ⟨_,rfl,wpAny_pure h⟩)) htake))
  |exact wpAny_bind (wpAny_bind (m:=Builtin.Tuple.tupleExact _) (wpAny_newObj_type (wpAny_pure ⟨_,rfl,wpAny_pure h⟩) htake))
end
end HT
namespace L2
open PySem PySem.Spec PyProof.Rows
abbrev TO:=St→Hp→(Option Int→Hp→Prop)→Prop
def PO(X:Cx)(e:Option Expr)(t:TO):Prop:=
 ∀(pins:List (Addr×Obj)) (s:Shared) (σ:St) (H:Hp) (Q:Option Int→Hp→Prop),Inv X pins σ H s→t σ H Q→
  wpAny (model X.prog X.w) X.A (evalPart e X.env) (fun u s'=>∃o H',Inv X pins σ H' s'∧IsPart u o∧Q o H') X.xe s
def tNoPart:TO:=fun _ H Q=>Q none H
def tPart(t:TE):TO:=fun σ H Q=>t σ H fun x H1=>∃i,x=.int i∧Q (some i) H1
section
variable {X:Cx}{e:Expr}{te:TE}{lo hi:Option Expr}{tl th:TO}{pos p2:Pos}
theorem po_none:PO X none tNoPart:=by
 intro pins s σ H Q I h
 rw[evalPart_none]
 exact wpAny_pure ⟨none,H,I,.none,h⟩
theorem xE(h:PE X e te):PO X (some e) (tPart te):=by
 intro pins s σ H Q I hw
 rw[evalPart_some]
 refine thn (h pins s σ H _ I hw) fun u s1 ⟨x,H1,I1,r1,q1⟩=>?_
 obtain⟨i,rfl,q⟩:=q1
 obtain⟨t,rfl⟩:=r1
 exact⟨some i,H1,I1,.int i t,q⟩
def SlR(X:Cx)(r:V→Option Int→Option Int→Hp→VK→Prop):Prop:=
 ∀(pins:List (Addr×Obj)) (s:Shared) (σ:St) (H:Hp) (x:V) (v vl vu:Value) (lo hi:Option Int) (sl:Addr) (Q:VK),Inv X pins σ H s→RelV x v→s.heap.IsSliceOf sl vl vu .none→IsPart vl lo→IsPart vu hi→r x lo hi H Q→
  ∃T id,typeLookup (.type T) "__getitem__"=pure (some (.builtin id))∧s.TypeIs v T∧wpAny (model X.prog X.w) X.A (getItem v (.ref sl)) (EP X pins σ Q) X.xe s
def tSl(r:V→Option Int→Option Int→Hp→VK→Prop)(te:TE)(tl th:TO):TE:=fun σ H Q=>te σ H fun x H1=>tl σ H1 fun l H2=>th σ H2 fun u H3=>r x l u H3 Q
theorem yZ{r:V→Option Int→Option Int→Hp→VK→Prop}(hr:SlR X r)(he:PE X e te)(hl:PO X lo tl)(hu:PO X hi th):PE X (.Subscript e (.Slice lo hi none p2) pos) (tSl r te tl th):=by
 intro pins s σ H Q I h
 refine Subscript_ (thn (he pins s σ H _ I h) fun v s1 ⟨x,H1,I1,r1,q1⟩=>?_)
 refine wpAny_Slice (thn (hl pins s1 σ H1 _ I1 q1) fun vl s2 ⟨l,H2,I2,pl,q2⟩=>thn (hu pins s2 σ H2 _ I2 q2) fun vu s3 ⟨u,H3,I3,pu,q3⟩=>?_)
 rw[evalPart_none]
 refine wpAny_pure ?_
 have I4:Inv X pins σ H3 { s3 with heap:=s3.heap.push { cls:=.type "slice",data:=.fields #[vl,vu,.none] } }:=I3.kept (t':=s3.toks) fun b ob q=>Heap.get?_push_of_some _ q
 obtain⟨T,id,hT,ht,hg⟩:=hr pins { s3 with heap:=s3.heap.push { cls:=.type "slice",data:=.fields #[vl,vu,.none] } } σ H3 x v vl vu l u s3.heap.objs.size Q I4 r1 (Heap.IsSliceOf.new ..) pl pu q3
 show wpAny (model X.prog X.w) X.A (subscriptTail e (.Slice lo hi none p2) v (.ref s3.heap.objs.size)) (EP X pins σ Q) X.xe { s3 with heap:=s3.heap.push { cls:=.type "slice",data:=.fields #[vl,vu,.none] } }
 exact tail_any (ops:=[.ref s3.heap.objs.size,v]) ht hT hg (by with_unfolding_all rfl)
def cutV(xs:List V)(lo hi:Option Int):List V:=(xs.drop (HT.sIx xs.length 0 lo)).take (HT.sIx xs.length xs.length hi-HT.sIx xs.length 0 lo)
theorem cutV_length(xs:List V)(lo hi:Option Int):(cutV xs lo hi).length≤xs.length:=by
 unfold cutV
 rw[List.length_take,List.length_drop]
 omega
def rSlT(K:PySem.W.Frag):V→Option Int→Option Int→Hp→VK→Prop:=fun x lo hi H Q=>∃a xs,x=.ref a∧SqT K H a xs∧
 ¬(HT.sIx xs.length 0 lo=0∧HT.sIx xs.length xs.length hi=xs.length)∧∀p,H p=none→Q (.ref p) (upd H p (.tup (cutV xs lo hi)))
theorem sl_tup:SlR X (rSlT X.K):=by
 intro pins s σ H x v vl vu lo hi sl Q I rx hs pl pu h
 obtain⟨a,xs,rfl,hx,hw,q⟩:=h
 cases rx
 obtain⟨its,r,ht,hz⟩:=I.tuple hx
 have hlen:its.toArray.size=xs.length:=by rw[List.size_toArray];exact r.length.symm
 refine⟨"tuple",_,PyProof.Rows.slot_tuple_getitem.lookup,ht.typeIs,?_⟩
 refine HT.getItem_tuple_cut ht hs pl pu (by rw[hlen];exact hw) ?_ (by rw[hlen];exact hz)
 rw[hlen]
 refine⟨.ref s.heap.objs.size,_,I.laid (t':=s.toks) (o:=.tup (cutV xs lo hi)) (fun b ob q=>Heap.get?_push_of_some _ q) (Nat.le_refl _) ?_,rfl,q _ (I.hok.fresh (Nat.le_refl _))⟩
 exact⟨Nat.le_trans (cutV_length xs lo hi) hz,_,(r.drop (HT.sIx xs.length 0 lo)).take (HT.sIx xs.length xs.length hi-HT.sIx xs.length 0 lo),IsTup.new _ _⟩
end
end L2
namespace L2
open PySem PySem.Spec PyProof.Rows
def ixN(n:Nat)(i:Int):Option Nat:=if 0≤i then(if i<n then some i.toNat else none)else if -(n:Int)≤i then some (i+n).toNat else none
def atI{α:Type}(xs:List α)(i:Int):Option α:=(ixN xs.length i).bind fun j=>xs[j]?
theorem ixN_seq{n:Nat}{i:Int}{j:Nat}(h:ixN n i=some j):seqIndex? i n=some j∧j<n∧-(n:Int)≤i∧i<n:=by
 unfold ixN at h
 by_cases h0:0≤i
 ·rw[if_pos h0]at h
  by_cases h1:i<n
  ·rw[if_pos h1]at h
   have e:i.toNat=j:=Option.some.inj h
   exact⟨by rw[seqIndex_of h0 h1,e],by omega,by omega,h1⟩
  ·rw[if_neg h1]at h;cases h
 ·rw[if_neg h0]at h
  by_cases h1: -(n:Int)≤i
  ·rw[if_pos h1]at h
   have e:(i+n).toNat=j:=Option.some.inj h
   exact⟨by rw[seqIndex_neg (by omega) h1,e],by omega,h1,by omega⟩
  ·rw[if_neg h1]at h;cases h
theorem atI_get{α:Type}{xs:List α}{i:Int}{v:α}(h:atI xs i=some v):∃j,seqIndex? i xs.length=some j∧xs[j]? =some v∧j<xs.length∧-(xs.length:Int)≤i∧i<xs.length:=by
 unfold atI at h
 cases e:ixN xs.length i with
 |none=>rw[e]at h;cases h
 |some j=>
  rw[e]at h
  obtain⟨h1,h2,h3,h4⟩:=ixN_seq e
  exact⟨j,h1,h,h2,h3,h4⟩
theorem zW{α:Type}{xs:List α}{j:Nat}{v:α}(h:xs[j]? =some v):atI xs (j:Int)=some v:=by
 have hj:j<xs.length:=(List.getElem?_eq_some_iff.mp h).1
 have e:ixN xs.length (j:Int)=some j:=by
  unfold ixN
  rw[if_pos (by omega),if_pos (by omega)];simp
 unfold atI;rw[e];exact h
theorem atI_last{α:Type}(xs:List α)(v:α):atI (xs++[v]) (-1)=some v:=by
 have hl:(xs++[v]).length=xs.length+1:=by simp
 have e:ixN (xs++[v]).length (-1)=some xs.length:=by
  unfold ixN
  rw[hl,if_neg (by decide),if_pos (by omega)]
  congr 1
  omega
 unfold atI
 rw[e]
 show(xs++[v])[xs.length]? =some v
 simp
def PlainIx(b:Expr):Prop:=∀o i,subscripted b false o i=operate [o,i] (getItem o i)
def IxR(X:Cx)(r:R2):Prop:=
 ∀(value slice:Expr) (pins:List (Addr×Obj)) (s:Shared) (σ:St) (H:Hp) (x y:V) (v u:Value) (Q:VK),Inv X pins σ H s→RelV x v→RelV y u→r x y H Q→
  subscripted slice false v u=operate [v,u] (getItem v u)→wpAny (model X.prog X.w) X.A (subscriptTail value slice v u) (EP X pins σ Q) X.xe s
def MtR(X:Cx)(id:String)(r:V→List V→Hp→VK→Prop):Prop:=
 ∀(pins:List (Addr×Obj)) (s:Shared) (σ:St) (H:Hp) (x:V) (xs:List V) (v:Value) (us:List Value) (Q:VK),Inv X pins σ H s→RelV x v→Vals xs us→r x xs H Q→
  wpAny (model X.prog X.w) X.A (call (.builtin id) (v::us)) (EP X pins σ Q) X.xe s
section
variable {X:Cx}{a b:Expr}{ta tb:TE}{pos:Pos}
theorem yH{r:R2}(hr:IxR X r)(ha:PE X a ta)(hb:PE X b tb)(hs:PlainIx b):PE X (.Subscript a b pos) (tOp r ta tb):=by
 intro pins s σ H Q I h
 exact Subscript_ (binT ha hb I h fun v u s2 x y H2 I2 rx ry q=>hr a b pins s2 σ H2 x y v u Q I2 rx ry q (hs _ _))
def rIxL(K:PySem.W.Frag):R2:=fun x y H Q=>∃p xs i v,x=.ref p∧y=.int i∧SqL K H p xs∧atI xs i=some v∧Q v H
def rIxT(K:PySem.W.Frag):R2:=fun x y H Q=>∃p xs i v,x=.ref p∧y=.int i∧SqT K H p xs∧atI xs i=some v∧Q v H
theorem yB:IxR X (rIxL X.K):=by
 intro value slice pins s σ H x y v u Q I rx ry h hs
 obtain⟨p,xs,i,z,rfl,rfl,hq,he,q⟩:=h
 cases rx
 obtain⟨t,rfl⟩:=ry
 obtain⟨its,r,pl,hz⟩:=I.list hq
 obtain⟨j,h1,h2,h3,h4,h5⟩:=atI_get he
 obtain⟨w,ew,rw'⟩:=r.get h2
 have hl:=r.length
 have hn:=line63
 have fin:EP X pins σ Q w s:=⟨z,H,I,rw',q⟩
 by_cases h0:0≤i
 ·have hj:i.toNat=j:=by
   rw[seqIndex_of h0 h5]at h1
   exact Option.some.inj h1
  exact item_listR pl.isList h0 (by omega) (by rw[hj];simpa using ew) fin hs
 ·have hj:(i+ (its.toArray.size:Int)).toNat=j:=by
   rw[seqIndex_neg (by omega) h4]at h1
   rw[List.size_toArray,←hl]
   exact Option.some.inj h1
  exact subscriptTail_builtinR (x:=w) pl.isList.typeIs slot_list_getitem.lookup
   (wpAny_getItem_list_neg (Q:=fun r s'=>r=w∧EP X pins σ Q r s') pl.isList (by omega) (by rw[List.size_toArray]<;>omega) (by omega) (by rw[hj];simpa using ew) ⟨rfl,fin⟩) hs
theorem ix_tup:IxR X (rIxT X.K):=by
 intro value slice pins s σ H x y v u Q I rx ry h hs
 obtain⟨p,xs,i,z,rfl,rfl,hq,he,q⟩:=h
 cases rx
 obtain⟨t,rfl⟩:=ry
 obtain⟨its,r,pl,hz⟩:=I.tuple hq
 obtain⟨j,h1,h2,h3,h4,h5⟩:=atI_get he
 obtain⟨w,ew,rw'⟩:=r.get h2
 have hl:=r.length
 have hn:=line63
 have fin:EP X pins σ Q w s:=⟨z,H,I,rw',q⟩
 exact subscriptTail_builtinR (x:=w) pl.typeIs slot_tuple_getitem.lookup
  (getItem_tuple (j:=j) (Q:=fun r s'=>r=w∧EP X pins σ Q r s') pl (by omega) (by omega) (by rw[List.size_toArray,←hl];exact h1) (by simpa using ew) ⟨rfl,fin⟩) hs
theorem mapSeq_set(its:List Value)(n j:Nat)(u:Value):Obj.mapSeq (·.setIfInBounds j u) { cls:=.type "list",data:=.seq its.toArray n }={ cls:=.type "list",data:=.seq (its.set j u).toArray n }:=by
 simp[Obj.mapSeq]
theorem Inv.lst{pins:List (Addr×Obj)}{σ:St}{H:Hp}{s:Shared}{p:Addr}{xs:List V}(I:Inv X pins σ H s)(h:H p=some (.lst xs)):
  ∃(its:List Value) (n:Nat),Vals xs its∧s.heap.get? p=some { cls:=.type "list",data:=.seq its.toArray n }∧xs.length≤sizeLine:=by
 obtain⟨z,its,n,r,e⟩:=I.hok p _ h
 exact⟨its,n,r,e,z⟩
theorem Inv.lstUpd{pins:List (Addr×Obj)}{σ:St}{H:Hp}{s:Shared}{p:Addr}{xs ys:List V}{its its':List Value}{n n':Nat}{f:Obj→Obj}(I:Inv X pins σ H s)(h:H p=some (.lst xs))
  (ho:s.heap.get? p=some { cls:=.type "list",data:=.seq its.toArray n })(hf:f { cls:=.type "list",data:=.seq its.toArray n }={ cls:=.type "list",data:=.seq its'.toArray n' })(r:Vals ys its')(hz:ys.length≤sizeLine)(t:Nat):
  Inv X pins σ (upd H p (.lst ys)) { s with heap:=s.heap.update p f,toks:=t }:=by
 have e:(s.heap.update p f).get? p=some { cls:=.type "list",data:=.seq its'.toArray n' }:=by
  rw[Heap.get?_update_self f ho (by rw[hf]<;>rfl),hf]
 refine I.write (x:=p) (e:=p) (by rw[h];trivial) (.inl rfl) (fun b u hb q=>(Heap.get?_update_other _ _ (Ne.symm hb)).trans q) ⟨_,e⟩ ?_
 exact⟨hz,its',n',r,e⟩
def rSetL:V→V→V→Hp→(Hp→Prop)→Prop:=fun o i v H Q=>∃p xs k j,o=.ref p∧i=.int k∧H p=some (.lst xs)∧ixN xs.length k=some j∧Q (upd H p (.lst (xs.set j v)))
theorem set_list:PSet X rSetL:=by
 intro pins s σ H o i v ov iv u Q I ro ri rv h
 obtain⟨p,xs,k,j,rfl,rfl,hp,hj,q⟩:=h
 cases ro
 obtain⟨t,rfl⟩:=ri
 obtain⟨its,n,r,ho,hz⟩:=I.lst hp
 obtain⟨h1,h2,h3,h4⟩:=ixN_seq hj
 have hl:=r.length
 have hn:=line63
 have I':Inv X pins σ (upd H p (.lst (xs.set j v))) { s with heap:=s.heap.update p (Obj.mapSeq (·.setIfInBounds j u)) }:=
  I.lstUpd hp ho (mapSeq_set its n j u) (r.set rv j) (by rw[List.length_set];exact hz) s.toks
 by_cases h0:0≤k
 ·have hk:k.toNat=j:=by
   rw[seqIndex_of h0 h4]at h1
   exact Option.some.inj h1
  exact PySem.W.ki_setAt ho h0 (by omega) (by rw[List.size_toArray,←hl];exact h4) (by rw[hk];exact⟨_,I',q⟩)
 ·have hk:(k+ (its.toArray.size:Int)).toNat=j:=by
   rw[seqIndex_neg (by omega) h3]at h1
   rw[List.size_toArray,←hl]
   exact Option.some.inj h1
  exact PySem.W.ki_setBack ho (by omega) (by rw[List.size_toArray,←hl];exact h3) (by omega) (by rw[hk];exact⟨_,I',q⟩)
theorem slice_bounds(lo hi:Option Int)(n:Nat):(sliceBounds lo hi none n).1=((HT.sIx n 0 lo:Nat):Int)∧(sliceBounds lo hi none n).2.1=((HT.sIx n n hi:Nat):Int)∧(sliceBounds lo hi none n).2.2=1:=by
 refine⟨?_,?_,rfl⟩
 ·cases lo with
  |none=>simp[sliceBounds,HT.sIx]
  |some i=>
   simp only[sliceBounds,HT.sIx,Option.getD_none,show(1:Int) > 0 by decide,if_true]
   by_cases h:i<0
   ·simp only[h,if_true]<;>omega
   ·simp only[h,if_false]<;>omega
 ·cases hi with
  |none=>simp[sliceBounds,HT.sIx]
  |some i=>
   simp only[sliceBounds,HT.sIx,Option.getD_none,show(1:Int) > 0 by decide,if_true]
   by_cases h:i<0
   ·simp only[h,if_true]<;>omega
   ·simp only[h,if_false]<;>omega
theorem slicePick_cut(its:List Value)(lo hi:Option Int):slicePick its.toArray lo hi none=((its.drop (HT.sIx its.length 0 lo)).take (HT.sIx its.length its.length hi-HT.sIx its.length 0 lo)).toArray:=by
 obtain⟨h1,h2,h3⟩:=slice_bounds lo hi its.toArray.size
 unfold slicePick
 rw[h1,h2,h3]
 simp only[sliceRange_one,pick_run,List.size_toArray]<;>rfl
def rSlL(K:PySem.W.Frag):V→Option Int→Option Int→Hp→VK→Prop:=fun x lo hi H Q=>∃a xs,x=.ref a∧SqL K H a xs∧∀p,H p=none→Q (.ref p) (upd H p (.lst (cutV xs lo hi)))
theorem sl_list:SlR X (rSlL X.K):=by
 intro pins s σ H x v vl vu lo hi sl Q I rx hs pl pu h
 obtain⟨a,xs,rfl,hx,q⟩:=h
 cases rx
 obtain⟨its,r,ht,hz⟩:=I.list hx
 have hlen:=r.length
 refine⟨"list",_,slot_list_getitem.lookup,ht.isList.typeIs,?_⟩
 refine wpAny_getItem_list_slice ht.isList hs pl pu .none (by simp) ?_ (by rw[List.size_toArray]<;>omega)
 rw[slicePick_cut,←hlen]
 refine⟨.ref s.heap.objs.size,_,I.laid (t':=s.toks) (o:=.lst (cutV xs lo hi)) (fun b ob q=>Heap.get?_push_of_some _ q) (Nat.le_refl _) ?_,rfl,q _ (I.hok.fresh (Nat.le_refl _))⟩
 exact⟨Nat.le_trans (cutV_length xs lo hi) hz,_,0,(r.drop (HT.sIx xs.length 0 lo)).take (HT.sIx xs.length xs.length hi-HT.sIx xs.length 0 lo),Heap.get?_push_size _ rfl⟩
def flatV:V→Bool
 |.non=>true
 |.bl _=>true
 |.int _=>true
 |.str _=>true
 |_=>false
def eqV:V→V→Bool
 |.non,.non=>true
 |.bl a,.bl b=>a==b
 |.bl a,.int b=>(if a then 1 else 0)==b
 |.int a,.bl b=>a==(if b then 1 else 0)
 |.int a,.int b=>a==b
 |.str a,.str b=>a==b
 |_,_=>false
theorem eqAt_V{A:Around}{s:Shared}{y x:V}{u v:Value}(ry:RelV y u)(rx:RelV x v)(fy:flatV y=true)(fx:flatV x=true):SeqAt.EqAt A s u v (eqV y x):=by
 cases y with
 |non=>
  cases ry
  cases x with
  |non=>cases rx;exact SeqAt.EqAt.same _
  |bl b=>cases rx;exact SeqAt.EqAt.none_bool b
  |int b=>obtain⟨t,rfl⟩:=rx;exact SeqAt.EqAt.none_int b t
  |str b=>obtain⟨t,rfl⟩:=rx;exact SeqAt.EqAt.none_str b t
  |_=>exact absurd (show false=true from fx) Bool.false_ne_true
 |bl a=>
  cases ry
  cases x with
  |non=>cases rx;exact SeqAt.EqAt.bool_none a
  |bl b=>cases rx;exact SeqAt.EqAt.bool_bool a b
  |int b=>obtain⟨t,rfl⟩:=rx;exact SeqAt.EqAt.bool_int a b t
  |str b=>obtain⟨t,rfl⟩:=rx;exact SeqAt.EqAt.bool_str a b t
  |_=>exact absurd (show false=true from fx) Bool.false_ne_true
 |int a=>
  obtain⟨t',rfl⟩:=ry
  cases x with
  |non=>cases rx;exact SeqAt.EqAt.int_none a t'
  |bl b=>cases rx;exact SeqAt.EqAt.int_bool a t' b
  |int b=>obtain⟨t,rfl⟩:=rx;exact SeqAt.EqAt.int_int a t' b t
  |str b=>obtain⟨t,rfl⟩:=rx;exact SeqAt.EqAt.int_str a t' b t
  |_=>exact absurd (show false=true from fx) Bool.false_ne_true
 |str a=>
  obtain⟨t',rfl⟩:=ry
  cases x with
  |non=>cases rx;exact SeqAt.EqAt.str_none a t'
  |bl b=>cases rx;exact SeqAt.EqAt.str_bool a t' b
  |int b=>obtain⟨t,rfl⟩:=rx;exact SeqAt.EqAt.str_int a t' b t
  |str b=>obtain⟨t,rfl⟩:=rx;exact SeqAt.EqAt.str_str a t' b t
  |_=>exact absurd (show false=true from fx) Bool.false_ne_true
 |_=>exact absurd (show false=true from fy) Bool.false_ne_true
def eqU(x:V)(u:Value):Bool:=match u with
 |.none=>eqV .non x
 |.bool b=>eqV (.bl b) x
 |.int i _=>eqV (.int i) x
 |.str z _=>eqV (.str z) x
 |_=>false
theorem eqU_of{x y:V}{u:Value}(r:RelV y u)(f:flatV y=true):eqU x u=eqV y x:=by
 cases y with
 |non=>cases r;rfl
 |bl b=>cases r;rfl
 |int i=>obtain⟨t,rfl⟩:=r;rfl
 |str z=>obtain⟨t,rfl⟩:=r;rfl
 |_=>exact absurd (show false=true from f) Bool.false_ne_true
theorem any_eqU{x:V}:∀{xs:List V} {us:List Value},Vals xs us→xs.all flatV=true→us.any (eqU x)=xs.any fun y=>eqV y x
 |_,_,.nil,_=>rfl
 |y::xs,u::us,.cons r t,f=>by
  rw[List.all_cons,Bool.and_eq_true]at f
  rw[List.any_cons,List.any_cons,eqU_of r f.1,any_eqU t f.2]
theorem mem_eqAt{A:Around}{s:Shared}{x:V}{v:Value}(rx:RelV x v)(fx:flatV x=true):∀{xs:List V} {us:List Value},Vals xs us→xs.all flatV=true→∀u∈us,SeqAt.EqAt A s u v (eqU x u)
 |_,_,.nil,_=>fun u hu=>by cases hu
 |y::xs,u::us,.cons r t,f=>fun u' hu=>by
  rw[List.all_cons,Bool.and_eq_true]at f
  rcases List.mem_cons.mp hu with rfl | hu
  ·rw[eqU_of r f.1];exact eqAt_V r rx f.1 fx
  ·exact mem_eqAt rx fx t f.2 u' hu
def inV(x:V)(xs:List V):Bool:=xs.any fun y=>eqV y x
def rIn(K:PySem.W.Frag)(neg:Bool):R2:=fun x y H Q=>∃p xs,y=.ref p∧(SqL K H p xs∨SqT K H p xs)∧flatV x=true∧xs.all flatV=true∧Q (.bl (if neg then !inV x xs else inV x xs)) H
theorem yR:OpR X (compareOp .In) (rIn X.K false):=by
 intro pins s σ H x y v u Q I rx ry h
 obtain⟨p,xs,rfl,hq,fx,fs,q⟩:=h
 cases ry
 rcases hq with hq | hq
 ·obtain⟨its,r,pl,hz⟩:=I.list hq
  refine SeqAt.in_listAt (eqU x) pl.isList (fun w hw=>mem_eqAt rx fx r fs w (by simpa using hw)) ⟨.bl _,H,I,rfl,?_⟩
  rw[show its.toArray.any (eqU x)=its.any (eqU x) by simp,any_eqU r fs]
  exact q
 ·obtain⟨its,r,pl,hz⟩:=I.tuple hq
  refine SeqAt.in_tupleAt (eqU x) pl (fun w hw=>mem_eqAt rx fx r fs w (by simpa using hw)) ⟨.bl _,H,I,rfl,?_⟩
  rw[show its.toArray.any (eqU x)=its.any (eqU x) by simp,any_eqU r fs]
  exact q
theorem op_notIn_seq:OpR X (compareOp .NotIn) (rIn X.K true):=by
 intro pins s σ H x y v u Q I rx ry h
 obtain⟨p,xs,rfl,hq,fx,fs,q⟩:=h
 cases ry
 rcases hq with hq | hq
 ·obtain⟨its,r,pl,hz⟩:=I.list hq
  refine SeqAt.notIn_listAt (eqU x) pl.isList (fun w hw=>mem_eqAt rx fx r fs w (by simpa using hw)) ⟨.bl _,H,I,rfl,?_⟩
  rw[show its.toArray.any (eqU x)=its.any (eqU x) by simp,any_eqU r fs]
  exact q
 ·obtain⟨its,r,pl,hz⟩:=I.tuple hq
  refine SeqAt.notIn_tupleAt (eqU x) pl (fun w hw=>mem_eqAt rx fx r fs w (by simpa using hw)) ⟨.bl _,H,I,rfl,?_⟩
  rw[show its.toArray.any (eqU x)=its.any (eqU x) by simp,any_eqU r fs]
  exact q
theorem zR:CallR X (.builtin "len") (fun xs H Q=>∃p ys,xs=[.ref p]∧(SqL X.K H p ys∨SqT X.K H p ys)∧Q (.int ys.length) H):=by
 intro pins s σ H xs us Q I r h
 obtain⟨p,ys,rfl,hq,q⟩:=h
 obtain⟨u,rfl,rx⟩:=vals1 r
 cases rx
 have hn:=line63
 rcases hq with hq | hq
 ·obtain⟨its,r',pl,hz⟩:=I.list hq
  have hlen:=r'.length
  exact Calls.call_len_list pl.isList (by simp only[List.size_toArray]<;>omega) ⟨.int ys.length,H,I.tok _,⟨s.toks+1,by rw[List.size_toArray,hlen]⟩,q⟩
 ·obtain⟨its,r',pl,hz⟩:=I.tuple hq
  have hlen:=r'.length
  exact len_tuple pl (by simp only[List.size_toArray]<;>omega) ⟨.int ys.length,H,I.tok _,⟨s.toks+1,by rw[List.size_toArray,hlen]⟩,q⟩
theorem call_tuple_of:CallR X (.type "tuple") (fun xs H Q=>∃p ys,xs=[.ref p]∧((SqL X.K H p ys∧∀l,H l=none→Q (.ref l) (upd H l (.tup ys)))∨(SqT X.K H p ys∧Q (.ref p) H))):=by
 intro pins s σ H xs us Q I r h
 obtain⟨p,ys,rfl,h⟩:=h
 obtain⟨u,rfl,rx⟩:=vals1 r
 cases rx
 rcases h with⟨hq,q⟩ | ⟨hq,q⟩
 ·obtain⟨its,r',pl,hz⟩:=I.list hq
  have hlen:=r'.length
  refine call_tuple_list pl.isList (fun h' kp=>?_) (by simp only[List.size_toArray]<;>omega)
  have I1:Inv X pins σ H { s with heap:=h' }:=I.kept (t':=s.toks) kp
  have I2:Inv X pins σ (upd H h'.objs.size (.tup ys)) { s with heap:=h'.push { cls:=.type "tuple",data:=.seq its.toArray } }:=
   I1.laid (t':=s.toks) (fun b o e=>Heap.get?_push_of_some _ e) (Nat.le_refl _) (show ObjOk X.prog X.w _ _ _ (.tup ys) from⟨hz,its,r',IsTup.new _ _⟩)
  exact⟨.ref h'.objs.size,_,I2,rfl,q _ (I1.hok.fresh (Nat.le_refl _))⟩
 ·obtain⟨its,r',pl,hz⟩:=I.tuple hq
  exact call_tuple_same pl ⟨.ref p,H,I,rfl,q⟩
def tyV(K:PySem.W.Frag)(T:String)(x:V)(H:Hp):Prop:=match x with
 |.str _=>T= "str"
 |.int _=>T= "int"
 |.ref p=>(T= "list"∧∃xs,SqL K H p xs)∨(T= "tuple"∧∃o,K.lookup p=some o∧o.cls=.type "tuple"∧o.dict=none)∨
   (T= "dict"∧((∃kvs,H p=some (.dK kvs))∨∃kvs,H p=some (.dT kvs)))∨(T= "set"∧∃S n,H p=some (.set S n))
 |_=>False
theorem tyV_is{pins:List (Addr×Obj)}{σ:St}{H:Hp}{s:Shared}{T:String}{x:V}{v:Value}(I:Inv X pins σ H s)(r:RelV x v)(ty:tyV X.K T x H):
  s.TypeIs v T∧∀a,v=.ref a→∃ob,s.heap.get? a=some ob∧ob.dict=none:=by
 cases x with
 |str z=>
  obtain⟨t,rfl⟩:=r
  cases (show T= "str" from ty)
  exact⟨typeIs_str s z t,fun _ e=>nomatch e⟩
 |int i=>
  obtain⟨t,rfl⟩:=r
  cases (show T= "int" from ty)
  exact⟨typeIs_int s i t,fun _ e=>nomatch e⟩
 |ref p=>
  cases r
  rcases ty with⟨rfl,xs,hq⟩ | ⟨rfl,o,hk,hc,hd⟩ | ⟨rfl,hk⟩ | ⟨rfl,S,n,hk⟩
  ·obtain⟨its,_,pl,_⟩:=I.list hq
   refine⟨pl.isList.typeIs,fun a e=>?_⟩
   cases e
   obtain⟨o,n,e,c,hd,_⟩:=pl
   exact⟨o,e,hd⟩
  ·refine⟨⟨o,I.kIn p o hk,hc⟩,fun a e=>?_⟩
   cases e
   exact⟨o,I.kIn _ o hk,hd⟩
  ·have z:∃o,s.heap.get? p=some o∧o.ExactDict:=by
    rcases hk with⟨kvs,hk⟩ | ⟨kvs,hk⟩
    ·obtain⟨_,_,_,_,o,_,_,e,ex,_⟩:=I.hok p _ hk
     exact⟨o,e,ex⟩
    ·obtain⟨_,_,_,_,o,_,_,e,ex,_⟩:=I.hok p _ hk
     exact⟨o,e,ex⟩
   obtain⟨o,e,ex⟩:=z
   refine⟨⟨o,e,ex.1⟩,fun a e2=>?_⟩
   cases e2
   exact⟨o,e,ex.2.1⟩
  ·obtain⟨o,_,_,_,e,ex,_⟩:=I.hok p _ hk
   refine⟨⟨o,e,ex.1⟩,fun a e2=>?_⟩
   cases e2
   exact⟨o,e,ex.2.1⟩
 |_=>exact False.elim ty
def tBM0(K:PySem.W.Frag)(T:String)(r:V→List V→Hp→VK→Prop)(to:TE):TE:=fun σ H Q=>to σ H fun x H1=>tyV K T x H1∧r x [] H1 Q
def tBM(K:PySem.W.Frag)(T:String)(r:V→List V→Hp→VK→Prop)(to:TE)(t:TA):TE:=fun σ H Q=>to σ H fun x H1=>tyV K T x H1∧t σ H1 fun xs H2=>r x xs H2 Q
variable {o e:Expr}{es:List Expr}{to:TE}{t:TA}{name:Str}{apos cpos:Pos}{T id:String}{r:V→List V→Hp→VK→Prop}
theorem pe_bm0(pa:PlainAttrs T)(slot:Slot T name id)(hty:typeOf (.builtin id)=pure (.type "method_descriptor"))(hm:MtR X id r)(ho:PE X o to)
  (hbase:attributeBase o name X.env (eval o X.env)=eval o X.env:=by rfl)(hline:(apos.endLine==cpos.line)=true:=by rfl):PE X (.Call (.Attribute o name apos) [] [] cpos) (tBM0 X.K T r to):=by
 intro pins s σ H Q I h
 refine wpAny_Call_method0_late hbase hline (thn (ho pins s σ H _ I h) fun v s1 ⟨x,H1,I1,r1,ty,q1⟩=>?_)
 obtain⟨h1,h2⟩:=tyV_is I1 r1 ty
 exact⟨T,id,pa,slot,hty,h1,h2,Calls.callWith_builtin rfl (PySem.evalArgs_none (hm pins s1 σ H1 x [] v [] Q I1 r1 .nil q1))⟩
theorem xA(pa:PlainAttrs T)(slot:Slot T name id)(hty:typeOf (.builtin id)=pure (.type "method_descriptor"))(hm:MtR X id r)(ho:PE X o to)(ha:PA X (e::es) t)
  (hbase:attributeBase o name X.env (eval o X.env)=eval o X.env:=by rfl)
  (hfew:((backTo cpos (starEach (e::es) X.env)).all (fun x=>!x.1)&&(backToKw cpos (keywordEach [] X.env)).all (fun x=>x.1.isSome)
   &&decide ((e::es).length + ([]:List Keyword).length + (if([]:List Keyword).isEmpty then 0 else 1) <30))=true:=by rfl)
  (hline:(apos.endLine==cpos.line)=true:=by rfl)(hs:starEach (e::es) X.env=(false,eval e X.env)::starEach es X.env:=by rfl)(hplain:(backTo cpos (starEach es X.env)).any (·.1)=false:=by rfl):
  PE X (.Call (.Attribute o name apos) (e::es) [] cpos) (tBM X.K T r to t):=by
 intro pins s σ H Q I h
 refine wpAny_Call_method_late hbase hfew hline rfl (thn (ho pins s σ H _ I h) fun v s1 ⟨x,H1,I1,r1,ty,q1⟩=>?_)
 obtain⟨h1,h2⟩:=tyV_is I1 r1 ty
 refine⟨T,id,pa,slot,hty,h1,h2,?_⟩
 have hA:=ha cpos pins s1 σ H1 _ I1 q1
 rw[hs]at hA ⊢
 refine Calls.callWith_builtin (by show(false || (backTo cpos (starEach es X.env)).any (·.1))=false;rw[hplain]<;>rfl) (Calls.evalArgs_plain ?_)
 exact thn hA fun us s2 ⟨vs,H2,I2,r2,q2⟩=>hm pins s2 σ H2 x vs v us Q I2 r1 r2 q2
end
end L2
namespace L2
open PySem PySem.Spec PyProof.Rows
def MtM(X:Cx)(id:String)(r:V→List V→Hp→VK→Prop):Prop:=
 ∀(pins:List (Addr×Obj)) (s:Shared) (σ:St) (H:Hp) (x:V) (xs:List V) (v:Value) (us:List Value) (Q:VK),Inv X pins σ H s→RelV x v→Vals xs us→r x xs H Q→
  wpAny (model X.prog X.w) X.A (call (.builtin id) (v::us)) (EP X pins σ Q) X.xe s
theorem Vals.one:∀{x:V} {us:List Value},Vals [x] us→∃u,us=[u]∧RelV x u
 |_,_,.cons r .nil=>⟨_,rfl,r⟩
theorem Vals.zero:∀{us:List Value},Vals [] us→us=[]
 |_,.nil=>rfl
theorem Vals.dropLast{xs:List V}{us:List Value}(h:Vals xs us):Vals xs.dropLast us.dropLast:=by
 induction h with
 |nil=>exact .nil
 |cons r t ih=>
  cases t with
  |nil=>exact .nil
  |cons q t'=>exact .cons r ih
theorem Vals.rep{xs:List V}{us:List Value}(h:Vals xs us):∀k:Nat,Vals (List.replicate k xs).flatten (List.replicate k us).flatten
 |0=>.nil
 |k+1=>by
  rw[List.replicate_succ,List.replicate_succ,List.flatten_cons,List.flatten_cons]
  exact Vals.append h (Vals.rep h k)
theorem erase_last{α:Type}(l:List α):l.eraseIdx (l.length-1)=l.dropLast:=by
 induction l with
 |nil=>rfl
 |cons a r ih=>
  cases r with
  |nil=>rfl
  |cons b r=>
   have e:(a::b::r).length -1=((b::r).length -1) +1:=by
    have h1:(a::b::r).length=r.length+2:=rfl
    have h2:(b::r).length=r.length+1:=rfl
    omega
   rw[e,List.eraseIdx_cons_succ,ih]
   all_goals rfl
theorem foldl_rep(its:List Value):∀(k:Nat) (acc:List Value),
  List.foldl (fun x1 x2=>x1++x2) acc.toArray (List.replicate k its.toArray)=(acc++(List.replicate k its).flatten).toArray
 |0,acc=>by simp
 |k+1,acc=>by
  have e:acc.toArray++its.toArray=(acc++its).toArray:=by simp
  have e2:(acc++its)++(List.replicate k its).flatten=acc++(List.replicate (k+1) its).flatten:=by
   rw[List.replicate_succ,List.flatten_cons,List.append_assoc]
  rw[←e2,←foldl_rep its k (acc++its),←e,List.replicate_succ,List.foldl_cons]
section
variable {X:Cx}{pins:List (Addr×Obj)}{σ:St}{H:Hp}{s:Shared}{l b:Addr}{xs ys zs:List V}
theorem Inv.lset{its its':List Value}{n:Nat}{f:Array Value→Array Value}{t':Nat}(I:Inv X pins σ H s)(hH:H l=some (.lst xs))
  (e:s.heap.get? l=some { cls:=.type "list",data:=.seq its.toArray n })(hf:f its.toArray=its'.toArray)(hv:Vals ys its')(hz:ys.length≤sizeLine):
  Inv X pins σ (upd H l (.lst ys)) { s with heap:=s.heap.update l (Obj.mapSeq f),toks:=t' }:=by
 have q:=PySem.IsL.update e f
 rw[hf]at q
 refine I.write (x:=l) (e:=l) (by rw[hH];exact trivial) (.inl rfl) (fun b' u hb hu=>(Heap.get?_update_other s.heap (Obj.mapSeq f) (Ne.symm hb)).trans hu) ⟨_,q⟩ ?_
 exact⟨hz,its',_,hv,q⟩
theorem Inv.lnew{its:List Value}{t':Nat}(I:Inv X pins σ H s)(hv:Vals ys its)(hz:ys.length≤sizeLine):
  Inv X pins σ (upd H s.heap.objs.size (.lst ys)) { s with heap:=s.heap.push { cls:=.type "list",data:=.seq its.toArray },toks:=t' }:=
 I.laid (fun _ _ q=>Heap.get?_push_of_some _ q) (Nat.le_refl _) ⟨hz,its,0,hv,Heap.get?_push_size _ rfl⟩
theorem Inv.fresh(I:Inv X pins σ H s):H s.heap.objs.size=none:=I.hok.fresh (Nat.le_refl _)
theorem Inv.lstM(I:Inv X pins σ H s)(hH:H l=some (.lst xs)):xs.length≤sizeLine∧∃(its:List Value) (n:Nat),Vals xs its∧xs.length=its.length∧s.heap.get? l=some { cls:=.type "list",data:=.seq its.toArray n }:=by
 obtain⟨z,its,n,r,e⟩:=I.hok l _ hH
 exact⟨z,its,n,r,r.length,e⟩
theorem notLongL{n:Nat}(h:n≤sizeLine):Builtin.List.listTooLong n=false:=by
 unfold Builtin.List.listTooLong
 exact decide_eq_false (by omega)
end
section
variable {X:Cx}
def rAppend:V→List V→Hp→VK→Prop:=fun x vs H Q=>∃l xs y,x=.ref l∧vs=[y]∧H l=some (.lst xs)∧xs.length<sizeLine∧Q .non (upd H l (.lst (xs++[y])))
theorem yD:MtM X "list.append" rAppend:=by
 intro pins s σ H x vs v us Q I rx rv h
 obtain⟨l,xs,y,rfl,rfl,hH,hz,q⟩:=h
 cases rx
 obtain⟨u,rfl,ru⟩:=rv.one
 obtain⟨z,its,n,r,hl,e⟩:=I.lstM hH
 refine call_meets F.slot_list_append ⟨_,e,rfl⟩ F.entry_list_append (F.args_list_append_2 _ _) (PySem.list_append l its.toArray n u (by rw[List.size_toArray];omega)) ⟨e,?_⟩
 refine⟨.non,_,I.lset (its':=its++[u]) hH e (by simp) (r.append (.cons ru .nil)) ?_,rfl,q⟩
 rw[List.length_append,List.length_singleton]
 omega
def rExtend:V→List V→Hp→VK→Prop:=fun x vs H Q=>∃l b xs zs,x=.ref l∧vs=[.ref b]∧H l=some (.lst xs)∧H b=some (.lst zs)∧xs.length+zs.length≤sizeLine∧Q .non (upd H l (.lst (xs++zs)))
theorem mt_extend:MtM X "list.extend" rExtend:=by
 intro pins s σ H x vs v us Q I rx rv h
 obtain⟨l,b,xs,zs,rfl,rfl,hH,hB,hz,q⟩:=h
 cases rx
 obtain⟨u,rfl,ru⟩:=rv.one
 cases ru
 obtain⟨z,its,n,r,hl,e⟩:=I.lstM hH
 obtain⟨z2,its2,n2,r2,hl2,e2⟩:=I.lstM hB
 have hsz:its.toArray.size+its2.toArray.size≤sizeLine:=by rw[List.size_toArray,List.size_toArray];omega
 have hlong:¬(!its.toArray.isEmpty&&Builtin.List.listTooLong (its.toArray.size+its2.toArray.size))=true:=by
  rw[notLongL hsz,Bool.and_false]
  exact Bool.false_ne_true
 refine call_meets F.slot_list_extend ⟨_,e,rfl⟩ F.entry_list_extend (F.args_list_extend_2 _ _)
  (AutoSeq1.list_extend_list_list_0 l its.toArray n b its2.toArray n2 hlong (by rw[List.size_toArray];omega) (by omega)) ⟨e,e2,?_⟩
 refine⟨.non,_,I.lset (its':=its++its2) hH e (by simp) (r.append r2) ?_,rfl,q⟩
 rw[List.length_append]
 omega
def rPop:V→List V→Hp→VK→Prop:=fun x vs H Q=>∃l xs y,x=.ref l∧vs=[]∧H l=some (.lst xs)∧xs[xs.length-1]? =some y∧Q y (upd H l (.lst xs.dropLast))
theorem mt_pop:MtM X "list.pop" rPop:=by
 intro pins s σ H x vs v us Q I rx rv h
 obtain⟨l,xs,y,rfl,rfl,hH,hy,q⟩:=h
 cases rx
 have hus:=rv.zero
 subst hus
 obtain⟨z,its,n,r,hl,e⟩:=I.lstM hH
 obtain⟨u,hu,ru⟩:=r.get hy
 have hy':its.toArray[its.toArray.size-1]? =some u:=by
  show its.toArray[its.length-1]? =some u
  rw[←Array.getElem?_toList,←hl]
  exact hu
 refine call_meets F.slot_list_pop ⟨_,e,rfl⟩ F.entry_list_pop (F.args_list_pop_1 _) (MeetsSeq.list_pop_last l its.toArray n u hy' (by rw[List.size_toArray];omega)) ⟨e,?_⟩
 refine⟨y,_,I.lset (its':=its.dropLast) hH e ?_ r.dropLast ?_,ru,q⟩
 ·show its.toArray.eraseIdxIfInBounds (its.toArray.size-1)=its.dropLast.toArray
  rw[List.size_toArray,List.eraseIdxIfInBounds_toArray,erase_last]
 ·rw[List.length_dropLast]
  omega
def rCat:R2:=fun x y H Q=>∃l b xs zs,x=.ref l∧y=.ref b∧H l=some (.lst xs)∧H b=some (.lst zs)∧xs.length+zs.length≤sizeLine∧∀p,H p=none→Q (.ref p) (upd H p (.lst (xs++zs)))
theorem op_cat:OpR X (binaryOp .Add) rCat:=by
 intro pins s σ H x y v u Q I rx ry h
 obtain⟨l,b,xs,zs,rfl,rfl,hH,hB,hz,q⟩:=h
 cases rx
 cases ry
 obtain⟨z,its,n,r,hl,e⟩:=I.lstM hH
 obtain⟨z2,its2,n2,r2,hl2,e2⟩:=I.lstM hB
 refine PySem.P.add_list e e2 ?_ (by rw[List.size_toArray,List.size_toArray];omega)
 have ea:its.toArray++its2.toArray=(its++its2).toArray:=by simp
 rw[ea]
 exact⟨.ref _,_,I.lnew (t':=s.toks) (r.append r2) (by rw[List.length_append];omega),rfl,q _ I.fresh⟩
def rRep:R2:=fun x y H Q=>∃l k xs,x=.ref l∧y=.int k∧H l=some (.lst xs)∧-(2 ^ 63)≤k∧k<2 ^ 63∧xs.length*k.toNat≤sizeLine∧
 ∀p,H p=none→Q (.ref p) (upd H p (.lst (List.replicate k.toNat xs).flatten))
theorem len_rep{α:Type}(xs:List α)(k:Nat):(List.replicate k xs).flatten.length=k*xs.length:=by
 induction k with
 |zero=>simp
 |succ k ih=>rw[List.replicate_succ,List.flatten_cons,List.length_append,ih,Nat.succ_mul,Nat.add_comm]
theorem op_rep:OpR X (binaryOp .Mult) rRep:=by
 intro pins s σ H x y v u Q I rx ry h
 obtain⟨l,k,xs,rfl,rfl,hH,h1,h2,hz,q⟩:=h
 cases rx
 obtain⟨t,rfl⟩:=ry
 obtain⟨z,its,n,r,hl,e⟩:=I.lstM hH
 have hlen:its.toArray.size*k.toNat≤sizeLine:=by rw[List.size_toArray,←hl];exact hz
 have hcap:¬its.toArray.size*k.toNat > (2 ^ 63-1) / 8:=by
  have:(sizeLine:Nat)≤(2 ^ 63-1) / 8:=by decide
  omega
 have hfit:¬(!Builtin.List.listFitsIndex k)=true:=by
  rw[fitsIndex_both h1 h2]
  exact Bool.false_ne_true
 have hlong:¬Builtin.List.listTooLong (its.toArray.size*k.toNat)=true:=by
  rw[notLongL hlen]
  exact Bool.false_ne_true
 have hnew:List.foldl (fun x1 x2=>x1++x2) #[] (List.replicate (if its.toArray.isEmpty=true then 0 else k.toNat) its.toArray)=(List.replicate k.toNat its).flatten.toArray:=by
  have f0:∀m:Nat,List.foldl (fun x1 x2=>x1++x2) #[] (List.replicate m its.toArray)=(List.replicate m its).flatten.toArray:=fun m=>by
   have:=foldl_rep its m []
   rw[List.nil_append]at this
   exact this
  rw[f0]
  cases its with
  |nil=>simp
  |cons a r'=>rw[if_neg (by simp)]
 refine wpAny_binaryOp_repeat_ref (T:= "list") (U:= "int") (by decide) ⟨_,e,rfl⟩ (fun s'=>typeIs_int s' k t) noFill_list_mul F.fills_int_mul F.slot_int_rmul repeat_list F.slot_int_index.lookup
  (call_meets F.slot_int_rmul (typeIs_int s k t) F.entry_int_rmul (F.args_int_rmul_2 _ _) (int___rmul___int_list k t l its.toArray n)
   ⟨e,rfl,⟨_,e,rfl⟩,call_meets F.slot_list_mul ⟨_,e,rfl⟩ F.entry_list_mul (F.args_list_mul_2 _ _) (AutoListH.list___mul___list_int_3 l its.toArray n k t hfit hcap hlong) ⟨e,?_⟩⟩)
 rw[hnew]
 exact⟨.ref _,_,I.lnew (t':=s.toks) (r.rep k.toNat) (by rw[len_rep,Nat.mul_comm];exact hz),rfl,q _ I.fresh⟩
end
section
variable {prog:Program}{w:World}{A:Around}{E:Value→Shared→Prop}{s:Shared}
end
section
variable {X:Cx}
end
end L2
namespace L2
open PySem PySem.Spec PyProof.Rows
theorem Vals.ints:∀{ns:List Int} {us:List Value},Vals (ns.map V.int) us→IntsAre us ns
 |[],us,h=>by
  rw[List.map_nil]at h
  cases h
  exact IntsAre.nil
 |n::ns,us,h=>by
  rw[List.map_cons]at h
  cases h with
  |cons r t=>
   obtain⟨k,rfl⟩:=r
   exact IntsAre.cons n k (Vals.ints t)
theorem vals_of_ints:∀{us:List Value} {ns:List Int},IntsAre us ns→Vals (ns.map V.int) us
 |_,_,.nil=>by rw[List.map_nil];exact Paired.nil
 |_,_,.cons n t h=>by rw[List.map_cons];exact Paired.cons (show RelV (V.int n) (Value.int n t) from⟨t,rfl⟩) (vals_of_ints h)
theorem Vals.bls:∀{bs:List Bool} {us:List Value},Vals (bs.map V.bl) us→us=bs.map Value.bool
 |[],us,h=>by
  rw[List.map_nil]at h
  cases h
  rfl
 |b::bs,us,h=>by
  rw[List.map_cons]at h
  cases h with
  |cons r t=>
   cases r
   rw[Vals.bls t,List.map_cons]
theorem Vals.ref1{a:Addr}{us:List Value}(r:Vals [V.ref a] us):us=[Value.ref a]:=by
 cases r with
 |cons r t=>
  cases t
  cases r
  rfl
section
variable {prog:Program}{w:World}{A:Around}{E:Value→Shared→Prop}{s:Shared}{l:Addr}{its:List Value}{ns:List Int}{Q:Value→Shared→Prop}
end
section
variable {X:Cx}
end
section
variable {X:Cx}
end
section
variable {X:Cx}
end
theorem iter_any{prog:Program}{w:World}{A:Around}{E:Value→Shared→Prop}{s:Shared}{l:Addr}{items:Array Value}{Q:Value→Shared→Prop}(hl:s.heap.IsList l items)
  (h:∀s₂:Shared,s₂={ s with heap:=s.heap.push { cls:=.type "list_iterator",data:=.fields #[.ref l,.int 0 0] } }→
   (s₂.heap.IsListIter s.heap.objs.size l 0∧s₂.heap.IsList l items)→l≠s.heap.objs.size→Q (.ref s.heap.objs.size) s₂):wpAny (model prog w) A (pyIter (.ref l)) Q E s:=by
 have hlt:l<s.heap.objs.size:=by obtain⟨_,e,_⟩:=hl;exact Heap.lt_size e
 exact wpAny_pyIter_list hl (h _ rfl ⟨⟨_,Heap.get?_push_size _ rfl,rfl,rfl⟩,hl.push _⟩ (Nat.ne_of_lt hlt))
theorem truth_bools{prog:Program}{w:World}{A:Around}{bs:List Bool}{its:List Value}(e:its=bs.map Value.bool):
  TruthOf prog w A (fun i v=>its.toArray[i]? =some v) (fun i=>bs.getD i false):=fun i v s Q E hv hq=>by
 have hv':its[i]? =some v:=by simpa using hv
 rw[e,List.getElem?_map]at hv'
 obtain⟨b,hb,rfl⟩:=Option.map_eq_some_iff.mp hv'
 have hg:bs.getD i false=b:=by rw[List.getD_eq_getElem?_getD,hb]<;>rfl
 have hq':Q (bs.getD i false) s:=hq
 rw[hg]at hq'
 exact wpAny_truthy_bool hq'
theorem any_range:∀bs:List Bool,(List.range bs.length).any (fun i=>bs.getD i false)=bs.any id
 |[]=>rfl
 |b::bs=>by
  rw[List.length_cons,List.range_succ_eq_map,List.any_cons,List.any_map,List.any_cons,←any_range bs]
  all_goals rfl
theorem all_range:∀bs:List Bool,(List.range bs.length).all (fun i=>bs.getD i false)=bs.all id
 |[]=>rfl
 |b::bs=>by
  rw[List.length_cons,List.range_succ_eq_map,List.all_cons,List.all_map,List.all_cons,←all_range bs]
  all_goals rfl
section
variable {X:Cx}
def rAll(K:PySem.W.Frag):List V→Hp→VK→Prop:=fun vs H Q=>∃(a:Addr) (bs:List Bool),vs=[V.ref a]∧SqL K H a (bs.map V.bl)∧Q (.bl (bs.all id)) H
theorem cr_all(hc:X.calm=true):CallR X (.builtin "all") (rAll X.K):=by
 intro pins s σ H vs us Q I r h
 obtain⟨a,bs,rfl,hs,q⟩:=h
 obtain⟨its,rv,hl,_⟩:=I.list hs
 rw[Vals.ref1 r]
 have hb:=rv.bls
 refine call_all_walk (iter_any hl.isList fun s₂ e2 st hne=>?_)
 subst e2
 refine⟨_,_,_,_,_,_,_,rfl,Walks.list (A:=X.A.in1) (I.ok.hd hc) _ a hne its.toArray,st,truth_bools hb,fun h' tk hk=>?_⟩
 refine⟨.bl _,H,I.kept fun b o eo=>hk b o (fun hmem=>?_) (Heap.get?_push_of_some _ eo),?_,q⟩
 ·rcases List.mem_cons.mp hmem with e1 | hmem
  ·exact absurd (e1▸Heap.lt_size eo) (Nat.lt_irrefl _)
  ·cases hmem
 ·show Value.bool _=Value.bool _
  rw[←all_range,hb,List.size_toArray,List.length_map]
end
mutual
inductive Dp (K:PySem.W.Frag) (H:Hp):V→PyData→Prop
 |non:Dp K H .non .none
 |bl (b:Bool):Dp K H (.bl b) (.bool b)
 |int (i:Int):Dp K H (.int i) (.int i)
 |str (x:Str):Dp K H (.str x) (.str x)
 |lst {a:Addr} {xs:List V} {ds:List PyData}:SqL K H a xs→DpAll K H xs ds→Dp K H (.ref a) (.list ds)
 |tup {a:Addr} {xs:List V} {ds:List PyData}:SqT K H a xs→DpAll K H xs ds→Dp K H (.ref a) (.tuple ds)
inductive DpAll (K:PySem.W.Frag) (H:Hp):List V→List PyData→Prop
 |nil:DpAll K H [] []
 |cons {v:V} {vs:List V} {d:PyData} {ds:List PyData}:Dp K H v d→DpAll K H vs ds→DpAll K H (v::vs) (d::ds)
end
section
variable {X:Cx}{pins:List (Addr×Obj)}{σ:St}{H:Hp}{s:Shared}
mutual
theorem Dp.reads(I:Inv X pins σ H s):∀(d:PyData) (v:V) (u:Value),Dp X.K H v d→RelV v u→∃as,Reads s.heap u d as
 |.none,_,_,h,r=>by
  cases h
  cases r
  exact⟨_,Reads.none⟩
 |.bool b,_,_,h,r=>by
  cases h
  cases r
  exact⟨_,Reads.bool b⟩
 |.int i,_,_,h,r=>by
  cases h
  obtain⟨t,rfl⟩:=r
  exact⟨_,Reads.int i t⟩
 |.str x,_,_,h,r=>by
  cases h
  obtain⟨t,rfl⟩:=r
  exact⟨_,Reads.str x t⟩
 |.list ds,_,_,h,r=>by
  cases h with
  |lst hs ha=>
   cases r
   obtain⟨its,rv,⟨o,n,ho,hc,_,hd⟩,_⟩:=I.list hs
   obtain⟨as,hr⟩:=Dp.readsAll I ds _ its ha rv
   exact⟨_,Reads.list ho hc hd hr⟩
 |.tuple ds,_,_,h,r=>by
  cases h with
  |tup hs ha=>
   cases r
   obtain⟨its,rv,⟨o,ho,hc,n,hd⟩,_⟩:=I.tuple hs
   obtain⟨as,hr⟩:=Dp.readsAll I ds _ its ha rv
   exact⟨_,Reads.tuple ho hc hd hr⟩
 |.dict _,_,_,h,_=>by cases h
theorem Dp.readsAll(I:Inv X pins σ H s):∀(ds:List PyData) (vs:List V) (us:List Value),DpAll X.K H vs ds→Vals vs us→∃as,ReadsAll s.heap us ds as
 |[],_,_,h,r=>by
  cases h
  cases r
  exact⟨_,ReadsAll.nil⟩
 |d::ds,_,_,h,r=>by
  cases h with
  |cons h1 h2=>
   cases r with
   |cons r1 r2=>
    obtain⟨as,q1⟩:=Dp.reads I d _ _ h1 r1
    obtain⟨bs,q2⟩:=Dp.readsAll I ds _ _ h2 r2
    exact⟨_,ReadsAll.cons q1 q2⟩
end
end
section
variable {X:Cx}
def rNeD(K:PySem.W.Frag):R2:=fun x y H Q=>∃d e,Dp K H x d∧Dp K H y e∧SeqAt.shaped d=true∧SeqAt.shaped e=true∧Q (.bl (!PyData.eqv d e)) H
theorem op_neD(hu:X.A.units+64<cLine):OpR X (compareOp .NotEq) (rNeD X.K):=by
 intro pins s σ H x y v u Q I rx ry h
 obtain⟨d,e,hd,he,sd,se,q⟩:=h
 obtain⟨as,r1⟩:=Dp.reads I d x v hd rx
 obtain⟨bs,r2⟩:=Dp.reads I e y u he ry
 exact SeqAt.compareNe_shaped r1 r2 sd se hu ⟨.bl _,H,I,rfl,q⟩
end
end L2
namespace L2
open PySem PySem.Spec PyProof.Rows
abbrev CellAt(h:Heap)(c:Addr)(v:Option Value):Prop:=h.IsCell c v
def relS(scope sc:Scope):Scope:=
 { scope with names:=scope.names.map fun(n,k)=>if(k==.free&&sc.kind==.function&&sc.names.lookup n==some .cell)then(n,.cell)else(n,k) }
def cloFrom(cells:List (Str×Addr)):List (Str×NameKind)→List (Str×Addr)→List (Str×Addr)
 |[],acc=>acc
 | (n,k)::r,acc=>if k==.free then cloFrom cells r ((n,(cells.lookup n).getD 0)::acc)else cloFrom cells r acc
theorem closure_loop(env:Env)(f:Str×NameKind→List (Str×Addr)→Sem (ForInStep (List (Str×Addr))))
  (hf:∀n k c,f (n,k) c=if k==.free then(do let a ←cellOf env n;pure (.yield ((n,a)::c)))else pure (.yield c)):
  ∀(names:List (Str×NameKind)) (acc:List (Str×Addr)),(∀y∈names,y.2=.free→∃c,env.cells.lookup y.1=some c)→forIn names acc f=pure (cloFrom env.cells names acc)
 |[],acc,_=>by rw[List.forIn_nil];rfl
 | (n,k)::r,acc,h=>by
  rw[List.forIn_cons,hf]
  have ih:=fun acc=>closure_loop env f hf r acc fun y hy=>h y (List.mem_cons_of_mem _ hy)
  unfold cloFrom
  by_cases hk:(k==NameKind.free)=true
  ·rw[if_pos hk,if_pos hk]
   obtain⟨c,hc⟩:=h (n,k) List.mem_cons_self (by simpa using hk)
   have e:cellOf env n=pure c:=by unfold cellOf;rw[hc]
   rw[e]
   have e2:(env.cells.lookup n).getD 0=c:=by rw[hc];rfl
   rw[e2]
   exact ih _
  ·rw[if_neg hk,if_neg hk]
   exact ih _
theorem closure_ok{scope:Scope}{env:Env}(h:∀y∈scope.names,y.2=.free→∃c,env.cells.lookup y.1=some c):closureFor scope env=pure (cloFrom env.cells scope.names []):=by
 simp only[closureFor]
 rw[closure_loop env _ (fun n k c=>rfl) scope.names [] h]
 rfl
theorem mem_lookup{α:Type}:∀{l:List (Str×α)} {n:Str} {c:α},(n,c)∈l→∃c',l.lookup n=some c'
 | (k,v)::r,n,c,h=>by
  rw[List.lookup_cons]
  cases hb:n==k with
  |true=>exact⟨_,rfl⟩
  |false=>
   rcases List.mem_cons.mp h with e | h
   ·cases e;simp at hb
   ·exact mem_lookup h
theorem cloFrom_mem{cells:List (Str×Addr)}:∀{names:List (Str×NameKind)} {acc:List (Str×Addr)} {n:Str} {c:Addr},(n,c)∈cloFrom cells names acc→(n,c)∈acc∨((n,.free)∈names∧c=(cells.lookup n).getD 0)
 |[],_,_,_,h=>.inl h
 | (m,k)::r,acc,n,c,h=>by
  unfold cloFrom at h
  split at h
  ·rename_i hk
   have hk:k=.free:=by simpa using hk
   rcases cloFrom_mem h with h | ⟨h1,h2⟩
   ·rcases List.mem_cons.mp h with e | h
    ·cases e;exact .inr ⟨hk▸List.mem_cons_self,rfl⟩
    ·exact .inl h
   ·exact .inr ⟨List.mem_cons_of_mem _ h1,h2⟩
  ·rcases cloFrom_mem h with h | ⟨h1,h2⟩
   ·exact .inl h
   ·exact .inr ⟨List.mem_cons_of_mem _ h1,h2⟩
theorem cloFrom_acc{cells:List (Str×Addr)}:∀{names:List (Str×NameKind)} {acc:List (Str×Addr)} {p:Str×Addr},p∈acc→p∈cloFrom cells names acc
 |[],_,_,h=>h
 | (m,k)::r,acc,p,h=>by
  unfold cloFrom
  split
  ·exact cloFrom_acc (List.mem_cons_of_mem _ h)
  ·exact cloFrom_acc h
theorem cloFrom_has{cells:List (Str×Addr)}:∀{names:List (Str×NameKind)} {acc:List (Str×Addr)} {n:Str},(n,.free)∈names→(n,(cells.lookup n).getD 0)∈cloFrom cells names acc
 | (m,k)::r,acc,n,h=>by
  unfold cloFrom
  rcases List.mem_cons.mp h with e | h
  ·cases e
   exact cloFrom_acc List.mem_cons_self
  ·split
   ·exact cloFrom_has h
   ·exact cloFrom_has h
theorem cells_mem:∀{names:List (Str×NameKind)} {h:Heap} {acc:List (Str×Addr)} {x:Str} {c:Addr},(x,c)∈cellsFrom h.objs.size names acc→
  (x,c)∈acc∨((x,.cell)∈names∧h.objs.size≤c∧CellAt (pushCells h names) c none)
 |[],_,_,_,_,h=>.inl h
 | (n,k)::r,h,acc,x,c,hm=>by
  unfold cellsFrom at hm
  unfold pushCells
  split at hm
  ·rename_i hk
   rw[if_pos hk]
   have hk:k=.cell:=by simpa using hk
   rw[←Heap.size_push h { cls:=.type "cell",data:=.cell none }]at hm
   rcases cells_mem hm with hm | ⟨h1,h2,h3⟩
   ·rcases List.mem_cons.mp hm with e | hm
    ·cases e
     exact .inr ⟨hk▸List.mem_cons_self,Nat.le_refl _,_,pushCells_keeps r _ _ _ (Heap.get?_push_size _ rfl),rfl⟩
    ·exact .inl hm
   ·rw[Heap.size_push]at h2
    exact .inr ⟨List.mem_cons_of_mem _ h1,Nat.le_of_succ_le h2,h3⟩
  ·rename_i hk
   rw[if_neg hk]
   rcases cells_mem hm with hm | ⟨h1,h2,h3⟩
   ·exact .inl hm
   ·exact .inr ⟨List.mem_cons_of_mem _ h1,h2,h3⟩
theorem cells_acc:∀{names:List (Str×NameKind)} {n:Nat} {acc:List (Str×Addr)} {p:Str×Addr},p∈acc→p∈cellsFrom n names acc
 |[],_,_,_,h=>h
 | (m,k)::r,n,acc,p,h=>by
  unfold cellsFrom
  split
  ·exact cells_acc (List.mem_cons_of_mem _ h)
  ·exact cells_acc h
theorem cells_has:∀{names:List (Str×NameKind)} {n:Nat} {acc:List (Str×Addr)} {x:Str},(x,.cell)∈names→∃c,(x,c)∈cellsFrom n names acc
 | (m,k)::r,n,acc,x,h=>by
  unfold cellsFrom
  rcases List.mem_cons.mp h with e | h
  ·cases e
   exact⟨n,cells_acc List.mem_cons_self⟩
  ·split
   ·exact cells_has h
   ·exact cells_has h
theorem cells_inj:∀{names:List (Str×NameKind)} {h:Heap} {acc:List (Str×Addr)} {x y:Str} {c:Addr},(∀p∈acc,p.2<h.objs.size)→(∀x y c,(x,c)∈acc→(y,c)∈acc→x=y)→
  (x,c)∈cellsFrom h.objs.size names acc→(y,c)∈cellsFrom h.objs.size names acc→x=y
 |[],_,_,_,_,_,_,hi,h1,h2=>hi _ _ _ h1 h2
 | (n,k)::r,h,acc,x,y,c,hl,hi,h1,h2=>by
  unfold cellsFrom at h1 h2
  split at h1
  ·rename_i hk
   rw[if_pos hk]at h2
   rw[←Heap.size_push h { cls:=.type "cell",data:=.cell none }]at h1 h2
   refine cells_inj (h:=h.push _) (fun p hp=>?_) (fun x y c a b=>?_) h1 h2
   ·rw[Heap.size_push]
    rcases List.mem_cons.mp hp with rfl | hp
    ·exact Nat.lt_succ_self _
    ·exact Nat.lt_succ_of_lt (hl p hp)
   ·rcases List.mem_cons.mp a with e | a<;>rcases List.mem_cons.mp b with e' | b
    ·cases e;cases e';rfl
    ·cases e;exact absurd (hl _ b) (Nat.lt_irrefl _)
    ·cases e';exact absurd (hl _ a) (Nat.lt_irrefl _)
    ·exact hi _ _ _ a b
  ·rename_i hk
   rw[if_neg hk]at h2
   exact cells_inj hl hi h1 h2
theorem newEnv_comp{M:Model}{A:Around}{E:Value→Shared→Prop}{s:Shared}{scope:Scope}{globals:Addr}{closure:List (Str×Addr)}{qual:Str}{func:Option Addr}{code:Value}{around:Env}{builtins:Addr}{Q:Env→Shared→Prop}
  (h:Q (newEnv scope s.heap.objs.size globals (cellsFrom (s.heap.objs.size+1) scope.names closure) qual func code (some around) builtins)
   { s with heap:=pushCells (s.heap.push { cls:=.type "dict",data:=.dict #[] }) scope.names }):
  wpAny M A (newFunctionEnv scope globals closure [] qual func code (some around) builtins) Q E s:=by
 simp only[newFunctionEnv,Option.isSome_some,if_true]
 refine wpAny_bind (wpAny_alloc ?_)
 refine wpAny_bind (wpAny_layCells _ (fun n k c=>rfl) scope.names closure _ _ ?_)
 rw[show({ s with heap:=s.heap.push { cls:=.type "dict",data:=.dict #[] } }:Shared).heap.objs.size=s.heap.objs.size+1 from Heap.size_push ..]
 rw[List.forIn_nil]
 exact wpAny_bind (wpAny_pure (wpAny_pure h))
theorem lookup_relS{sc:Scope}:∀{names:List (Str×NameKind)} {x:Str} {k:NameKind},
  (names.map fun(n,k)=>if(k==NameKind.free&&sc.kind==.function&&sc.names.lookup n==some .cell)then(n,NameKind.cell)else(n,k)).lookup x=some k→
  ∃k',names.lookup x=some k'∧(k=k'∨(k'=.free∧k=.cell))
 |[],_,_,h=>by simp at h
 | (n,k₀)::r,x,k,h=>by
  have ih:=@lookup_relS sc r x k
  have h':List.lookup x ((if(k₀==NameKind.free&&sc.kind==.function&&sc.names.lookup n==some .cell)=true then(n,NameKind.cell)else(n,k₀))::(r.map _))=some k:=h
  cases hx:x==n with
  |true=>
   simp only[List.lookup_cons,hx]
   by_cases hc:(k₀==NameKind.free&&sc.kind==.function&&sc.names.lookup n==some .cell)=true
   ·rw[if_pos hc]at h'
    simp only[List.lookup_cons,hx]at h'
    cases h'
    simp only[Bool.and_eq_true,beq_iff_eq]at hc
    exact⟨k₀,rfl,.inr ⟨hc.1.1,rfl⟩⟩
   ·rw[if_neg hc]at h'
    simp only[List.lookup_cons,hx]at h'
    cases h'
    exact⟨_,rfl,.inl rfl⟩
  |false=>
   simp only[List.lookup_cons,hx]
   by_cases hc:(k₀==NameKind.free&&sc.kind==.function&&sc.names.lookup n==some .cell)=true
   ·rw[if_pos hc]at h'
    simp only[List.lookup_cons,hx]at h'
    exact ih h'
   ·rw[if_neg hc]at h'
    simp only[List.lookup_cons,hx]at h'
    exact ih h'
structure BlkOk (N:List Str) (sc scope:Scope) (own:List (Str×Nat)):Prop where
 kind:scope.kind=.function
 uniq:∀y∈scope.names,scope.names.lookup y.1=some y.2
 ix:∀p∈own,N[p.2]? =some p.1
 free:∀y∈scope.names,y.2=.free→sc.names.lookup y.1=some .cell∨sc.names.lookup y.1=some .free
 own:∀y∈scope.names,y.2=.local∨y.2=.cell→y.1∈own.map (·.1)∨y.1∉N
def wipe(σ:St):List Nat→St
 |[]=>σ
 |v::vs=>(wipe σ vs).set v none
theorem wipe_length(σ:St):∀vs:List Nat,(wipe σ vs).length=σ.length
 |[]=>rfl
 |v::vs=>by unfold wipe;rw[List.length_set,wipe_length σ vs]
theorem wipe_some{σ:St}{i:Nat}{x:V}:∀{vs:List Nat},(wipe σ vs)[i]? =some (some x)→σ[i]? =some (some x)∧i∉vs
 |[],h=>⟨h,by simp⟩
 |v::vs,h=>by
  unfold wipe at h
  by_cases hi:v=i
  ·subst hi
   by_cases hv:v< (wipe σ vs).length
   ·rw[List.getElem?_set_self hv]at h;cases h
   ·rw[List.getElem?_eq_none (by simpa using hv)]at h;cases h
  ·rw[List.getElem?_set_ne hi]at h
   obtain⟨h1,h2⟩:=wipe_some h
   exact⟨h1,by simp only[List.mem_cons,not_or];exact⟨fun e=>hi e.symm,h2⟩⟩
abbrev Cx.blk(X:Cx)(s:Shared)(H:Hp)(scope:Scope)(cenv:Env)(fp:List Addr):Cx:={ X with s_0:=s,H_0:=H,env:=cenv,outer:=X.stack,ex:=fp,fn:=fun x=>scope.names.lookup x==some .cell,pn:=[],xe:=fun _ _=>False }
section
variable {X:Cx}{pins:List (Addr×Obj)}{σ:St}{H:Hp}{s:Shared}
theorem block_start{scope:Scope}{own:List (Str×Nat)}{fp:List Addr}(I:Inv X pins σ H s)(ok:BlkOk X.N X.env.scope scope own)(hN:X.N.Nodup)(hfp:∀b∈fp,FpOk X pins H b∧b<s.heap.objs.size):
  Inv (X.blk s H scope (compEnvC scope (cellsFrom (s.heap.objs.size+1) scope.names (cloFrom X.env.cells scope.names [])) s.heap.objs.size X.env) fp) [] (wipe σ (own.map (·.2))) H { s with heap:=pushCells (s.heap.push { cls:=.type "dict",data:=.dict #[] }) scope.names }:=by
 have hfree:∀y∈scope.names,y.2=.free→∃c,X.env.cells.lookup y.1=some c:=fun y hy e=>by
  rcases ok.free y hy e with k | k
  ·exact I.ok.has _ (.inl k)
  ·exact I.ok.has _ (.inr k)
 generalize hcenv:compEnvC scope (cellsFrom (s.heap.objs.size+1) scope.names (cloFrom X.env.cells scope.names [])) s.heap.objs.size X.env=cenv
 have kp:∀b o,s.heap.get? b=some o→(pushCells (s.heap.push { cls:=.type "dict",data:=.dict #[] }) scope.names).get? b=some o:=fun b o e=>pushCells_keeps _ _ _ _ (Heap.get?_push_of_some _ e)
 have hL:cenv.locals=s.heap.objs.size:=by rw[←hcenv];rfl
 have hcl:cenv.cells=cellsFrom (s.heap.objs.size+1) scope.names (cloFrom X.env.cells scope.names []):=by rw[←hcenv];rfl
 have hsc:cenv.scope=relS scope X.env.scope:=by rw[←hcenv];rfl
 rw[←Heap.size_push s.heap { cls:=.type "dict",data:=.dict #[] }]at hcl
 have cm:∀{y c},(y,c)∈cloFrom X.env.cells scope.names []→X.env.cells.lookup y=some c∧c<s.heap.objs.size:=fun {y c} hm=>by
  rcases cloFrom_mem hm with hm | ⟨h1,rfl⟩
  ·cases hm
  ·obtain⟨c,hc⟩:=hfree _ h1 rfl
   rw[hc]
   obtain⟨w,z⟩:=I.cell _ _ hc
   exact⟨rfl,z.lt⟩
 have mem:∀{y c},cenv.cells.lookup y=some c→(X.env.cells.lookup y=some c∧c<s.heap.objs.size)∨(s.heap.objs.size+1≤c∧CellAt (pushCells (s.heap.push { cls:=.type "dict",data:=.dict #[] }) scope.names) c none):=fun {y c} e=>by
  rw[hcl]at e
  rcases cells_mem (PySem.mem_of_lookup e)with hm | ⟨_,h2,h3⟩
  ·exact .inl (cm hm)
  ·rw[Heap.size_push]at h2;exact .inr ⟨h2,h3⟩
 have look:∀{y},scope.names.lookup y=some .free→∃c,cenv.cells.lookup y=some c∧X.env.cells.lookup y=some c:=fun {y} hl=>by
  have hy:(y,NameKind.free)∈scope.names:=PySem.mem_of_lookup hl
  obtain⟨c',e'⟩:=mem_lookup (cells_acc (names:=scope.names) (n:=(s.heap.push { cls:=.type "dict",data:=.dict #[] }).objs.size) (cloFrom_has (cells:=X.env.cells) (acc:=[]) hy))
  rw[←hcl]at e'
  refine⟨c',e',?_⟩
  rw[hcl]at e'
  rcases cells_mem (PySem.mem_of_lookup e')with hm | ⟨h1,_,_⟩
  ·exact(cm hm).1
  ·have:=ok.uniq _ h1
   rw[hl]at this;cases this
 have okB:(X.blk s H scope cenv fp).Ok:=by
  refine⟨I.ok.mod,by show cenv.scope.kind=_;rw[hsc];exact ok.kind,by show cenv.globals=_;rw[←hcenv];exact I.ok.glob,by show cenv.builtins=_;rw[←hcenv];exact I.ok.blt,by show s.heap.objs.size≤cenv.locals;rw[hL];exact Nat.le_refl _,
   fun y z c e1 e2=>?_,fun y hy=>?_,fun y c z e=>?_,I.ok.hd,I.ok.frames,.inl rfl,fun b hb=>⟨?_,fun y c e z=>?_⟩,I.bs,Nat.le_trans I.ok.bsz I.sz,fun b o e hb=>?_,fun b hb z=>?_,I.stack,I.stkFree⟩
  ·have e1:cenv.cells.lookup y=some c:=e1
   have e2:cenv.cells.lookup z=some c:=e2
   rw[hcl]at e1 e2
   refine cells_inj (fun p hp=>?_) (fun y z c a b=>I.ok.inj y z c (cm a).1 (cm b).1) (PySem.mem_of_lookup e1) (PySem.mem_of_lookup e2)
   rw[Heap.size_push]
   exact Nat.lt_succ_of_lt (cm (y:=p.1) (c:=p.2) hp).2
  ·show∃c,cenv.cells.lookup y=some c
   have key:∀k,cenv.kindOf y=some k→(k=.cell∨k=.free)→∃c,cenv.cells.lookup y=some c:=fun k hk hk'=>by
    unfold Env.kindOf at hk
    rw[hsc]at hk
    obtain⟨k',e,r⟩:=lookup_relS hk
    have:k'=.cell∨k'=.free:=by
     rcases r with rfl | ⟨rfl,_⟩
     ·exact hk'
     ·exact .inr rfl
    rcases this with rfl | rfl
    ·obtain⟨c,hm⟩:=cells_has (n:=(s.heap.push { cls:=.type "dict",data:=.dict #[] }).objs.size) (acc:=cloFrom X.env.cells scope.names []) (PySem.mem_of_lookup e)
     obtain⟨c',e'⟩:=mem_lookup hm
     exact⟨c',by rw[hcl];exact e'⟩
    ·obtain⟨c,h1,_⟩:=look e
     exact⟨c,h1⟩
   rcases hy with hy | hy
   ·exact key _ hy (.inl rfl)
   ·exact key _ hy (.inr rfl)
  ·have z:(scope.names.lookup y==some NameKind.cell)=true:=z
   have z:scope.names.lookup y=some .cell:=by simpa using z
   have e:cenv.cells.lookup y=some c:=e
   rw[hcl]at e
   rcases cells_mem (PySem.mem_of_lookup e)with hm | ⟨_,h2,_⟩
   ·rcases cloFrom_mem hm with hm | ⟨h1,_⟩
    ·cases hm
    ·have q:=ok.uniq _ h1
     rw[z]at q;cases q
   ·rw[Heap.size_push]at h2
    exact Nat.le_of_succ_le h2
  ·show b≠cenv.locals
   rw[hL];exact Nat.ne_of_lt (hfp b hb).2
  ·have e:cenv.cells.lookup y=some c:=e
   rcases mem e with⟨h1,_⟩ | ⟨h1,_⟩
   ·exact(hfp b hb).1.2.2.2.2.1 y c h1 z
   ·have h2:s.heap.objs.size+1≤b:=by rw[←z];exact h1
    exact absurd (Nat.lt_of_lt_of_le (hfp b hb).2 (Nat.le_of_succ_le h2)) (Nat.lt_irrefl _)
  ·rcases(hfp b hb).1.2.2.2.1 with z | z
   ·exact I.ok.noex b o e z
   ·exact absurd (Nat.lt_of_lt_of_le (Heap.lt_size e) (Nat.le_trans I.ok.bsz z)) (Nat.lt_irrefl _)
  ·rcases List.mem_cons.mp (I.stkSub b z)with z | z
   ·exact(hfp b hb).1.2.1 z
   ·exact(hfp b hb).1.2.2.1 z
 refine⟨okB,rfl,I.bare,Un.kept kp,⟨fun _=>none,?_,fun i y av e1 e2 e3=>?_⟩,fun y c e=>?_,?_,fun y c e=>?_,fun p hp=>?_,I.hok.kept kp,by rw[wipe_length];exact I.len⟩
 ·show Heap.Ns _ cenv.locals _
  rw[hL]
  exact Heap.Ns.keeps (Heap.Ns.new ..) fun b o e=>pushCells_keeps _ _ _ _ e
 ·obtain⟨e2,hne⟩:=wipe_some e2
  have hfr:scope.names.lookup y=some .free∧(cenv.kindOf y=some .cell∨cenv.kindOf y=some .free):=by
   have key:∀k,cenv.scope.names.lookup y=some k→k=.local∨k=.cell∨k=.free→scope.names.lookup y=some .free∧(cenv.kindOf y=some .cell∨cenv.kindOf y=some .free):=fun k hk hk'=>by
    have hk0:=hk
    rw[hsc]at hk
    obtain⟨k',e,r⟩:=lookup_relS hk
    have no:¬(k'=.local∨k'=.cell):=fun hh=>by
     rcases ok.own _ (PySem.mem_of_lookup e) hh with e' | e'
     ·obtain⟨p,hp,hpy⟩:=List.mem_map.mp e'
      have e3:=ok.ix p hp
      have:p.1=y:=hpy
      rw[this]at e3
      exact hne (List.mem_map.mpr ⟨p,hp,nodup_ix hN e3 e1⟩)
     ·exact e' (List.mem_of_getElem? e1)
    rcases r with rfl | ⟨rfl,rfl⟩
    ·rcases hk' with rfl | rfl | rfl
     ·exact absurd (.inl rfl) no
     ·exact absurd (.inr rfl) no
     ·exact⟨e,.inr hk0⟩
    ·exact⟨e,.inl hk0⟩
   have e3:Vis cenv.scope y:=e3
   rcases e3 with e3 | e3 | e3
   ·exact key _ e3 (.inl rfl)
   ·exact key _ e3 (.inr (.inl rfl))
   ·exact key _ e3 (.inr (.inr rfl))
  obtain⟨m,hn,hl⟩:=I.loc
  have hvis:Vis X.env.scope y:=(ok.free _ (PySem.mem_of_lookup hfr.1) rfl).elim (fun k=>.inr (.inl k)) (fun k=>.inr (.inr k))
  obtain⟨w,r,q⟩:=hl i y av e1 e2 hvis
  refine⟨w,r,.inr ⟨hfr.2,?_⟩⟩
  obtain⟨c,h1,h2⟩:=look hfr.1
  rcases q with⟨k,_⟩ | ⟨_,c',e',z⟩
  ·have k:X.env.scope.names.lookup y=some .local:=k
   rcases ok.free _ (PySem.mem_of_lookup hfr.1) rfl with k' | k'<;>rw[show X.env.scope.names.lookup y=_ from k']at k<;>cases k
  ·rw[h2]at e';cases e'
   exact⟨c,h1,z.keeps kp⟩
 ·have e:cenv.cells.lookup y=some c:=e
  rcases mem e with⟨h1,_⟩ | ⟨_,z⟩
  ·obtain⟨w,z⟩:=I.cell y c h1
   exact⟨w,z.keeps kp⟩
  ·exact⟨_,z⟩
 ·show H cenv.locals=none
  rw[hL];exact I.hok.fresh (Nat.le_refl _)
 ·have e:cenv.cells.lookup y=some c:=e
  rcases mem e with⟨h1,_⟩ | ⟨h1,_⟩
  ·exact I.freeC y c h1
  ·exact I.hok.fresh (Nat.le_of_succ_le h1)
 ·exact absurd (show p∈([]:List (Addr×Obj))++[] from hp) (by simp)
theorem app_ok{E:Value→Shared→Prop}{D:Addr}{xs:List V}{y:V}{v:Value}{Q:Value→Shared→Prop}(I:Inv X pins σ H s)(hD:H D=some (.lst xs))(hz:xs.length<sizeLine)(r:RelV y v)
  (h:∀s',Inv X pins σ (upd H D (.lst (xs++[y]))) s'→Q .none s'):wpAny (model X.prog X.w) X.A (call (.builtin "list.append") [.ref D,v]) Q E s:=by
 obtain⟨hz',its,n,ri,e⟩:=I.hok D _ hD
 have hl:=ri.length
 refine append_at (hsz:=by rw[List.size_toArray];omega) e fun h' sb ho'=>?_
 refine h { s with heap:=h' } (I.write (t':=s.toks) (by rw[hD];trivial) (.inl rfl) (fun b u hb q=>(sb.2 b hb).trans q) ⟨_,ho'⟩ ⟨by rw[List.length_append];exact hz,its++[v],n+1,ri.append (.cons r .nil),?_⟩)
 rw[ho']
 simp
def PTs(X:Cx)(ifs:List Expr)(t:TT):Prop:=
 ∀(pins:List (Addr×Obj)) (s:Shared) (σ:St) (H:Hp) (Q:Bool→Hp→Prop),Inv X pins σ H s→t σ H Q→
  wpAny (model X.prog X.w) X.A (forIn ifs true fun c r=>if r=true then do let ok ←isTrue c X.env (eval c X.env);pure (ForInStep.yield ok)else pure (ForInStep.yield r)) (TP X pins σ Q) X.xe s
def tYes:TT:=fun _ H Q=>Q true H
theorem pts_nil:PTs X [] tYes:=fun _ _ _ H _ I h=>wpAny_tests_nil ⟨H,I,h⟩
end
theorem thnF{α:Type}{t:Sem α}{Q Q':α→Shared→Prop}{M:Model}{A:Around}{E:Value→Shared→Prop}{s:Shared}(h:wpAny M A t Q (fun _ _=>False) s)(hQ:∀a s,Q a s→Q' a s):wpAny M A t Q' E s:=wpAny_mono h hQ fun _ _ z=>False.elim z
theorem compLoop_any{prog:Program}{w:World}{A:Around}{R:Result→Shared→Prop}{s:Shared}{elt target iter:Expr}{ifs:List Expr}{scope:Scope}{pos:Pos}{it acc:Value}{env:Env}(I:Nat→Shared→Prop)
  (turn:∀n s,I n s→wpAny (model prog w) A (pyNext it) (fun r s₁=>match r with
   |none=>R (.ok .next) s₁
   |some v=>wpAny (model prog w) A (letOwnedTupleGo target it v) (fun _ s₁'=>wpAny (model prog w) A (assign target env v) (fun _ s₂=>
     wpAny (model prog w) A (forIn ifs true fun c r=>if r=true then do let ok ←isTrue c env (eval c env);pure (ForInStep.yield ok)else pure (ForInStep.yield r)) (fun ok s₃=>
      if ok=true then wpAny (model prog w) A (eval elt env) (fun x s₄=>
       wpAny (model prog w) A (call (.builtin "list.append") [acc,x]) (fun _ s₅=>∃m,m<n∧I m s₅) (notedBy (model prog w) A env fun e s'=>R (.error e) s') s₄) (notedBy (model prog w) A env fun e s'=>R (.error e) s') s₃
      else∃m,m<n∧I m s₃) (notedBy (model prog w) A env fun e s'=>R (.error e) s') s₂) (notedBy (model prog w) A env fun e s'=>R (.error e) s') s₁') (notedBy (model prog w) A env fun e s'=>R (.error e) s') s₁) (notedBy (model prog w) A env fun e s'=>R (.error e) s') s)
  (n:Nat)(h:I n s):
  codeAny (model prog w) A (.compLoop (.ListComp elt [⟨target,iter,ifs,0⟩] scope pos) 0 it acc env) R s:=by
 refine codeAny_loop rfl I (fun n s hI=>?_) n h
 show wpAny _ A ((compTurn (.ListComp elt [⟨target,iter,ifs,0⟩] scope pos) 0 it acc env).onRaise (fun x=>do noteFrame x env;theTreesLotGoes x)) _ _ s
 refine wpAny_noted ?_
 rw[compTurn_list]
 refine wpAny_bind (wpAny_standAt (wpAny_bind (wpAny_mono (turn n s hI) (fun r s₁ h₁=>?_) fun _ _ h'=>h')))
 cases r with
 |none=>exact wpAny_pure h₁
 |some v=>
  refine wpAny_bind (wpAny_mono h₁ (fun _ s₁' h₁'=>?_) fun _ _ h'=>h')
  refine wpAny_bind (wpAny_mono h₁' (fun _ s₂ h₂=>wpAny_bind (wpAny_mono h₂ (fun ok s₃ h₃=>?_) fun _ _ h'=>h')) fun _ _ h'=>h')
  cases ok with
  |false=>exact wpAny_pure ⟨rfl,h₃⟩
  |true=>
   exact wpAny_bind (wpAny_bind (wpAny_mono h₃ (fun x s₄ h₄=>wpAny_bind (wpAny_mono h₄ (fun _ s₅ h₅=>wpAny_pure (wpAny_pure ⟨rfl,h₅⟩)) fun _ _ h'=>h')) fun _ _ h'=>h'))
section
variable {X:Cx}
def tLc(wi:TI)(g:TG)(tt:TT)(te:TE)(vs:List Nat):TE:=fun σ H Q=>wi σ H fun J H1=>∀D,H1 D=none→∃W:Nat→Nat→Hp→Prop,(∃m,W 0 m (upd H1 D (.lst [])))∧∀i m H,W i m H→
 (J.stop i H∧Q (.ref D) H)∨(J.go i H∧∃Nx:Hp→Prop,(∀H',Nx H'→∃m',m'<m∧W (i+1) m' H')∧∀x H',J.yld i H x H'→g x (wipe σ vs) H' fun σ2 H2=>wipe σ2 vs=wipe σ vs∧tt σ2 H2 fun b H3=>
  if b=true then te σ2 H3 fun y H4=>∃acc,H4 D=some (.lst acc)∧acc.length<sizeLine∧Nx (upd H4 D (.lst (acc++[y])))else Nx H3)
theorem lc_core{pins:List (Addr×Obj)}{s:Shared}{σ:St}{H:Hp}{Q:VK}{elt tg iter:Expr}{ifs:List Expr}{scope:Scope}{own:List (Str×Nat)}{pos pos':Pos}{wi:TI}{g:TG}{tt:TT}{te:TE}{use:Option (Value→Sem Unit)}{Qf:Value→Shared→Prop}
  (hc:X.calm=true)(hN:X.N.Nodup)(I:Inv X pins σ H s)(hi:PI X tg iter wi)(ok:BlkOk X.N X.env.scope scope own)
  (hg:∀(s:Shared) (H:Hp) (C:Addr) (cl:List (Str×Addr)) (fp:List Addr),PG (X.blk s H scope (compEnvC scope cl C X.env) fp) tg g)(ht:∀(s:Shared) (H:Hp) (C:Addr) (cl:List (Str×Addr)) (fp:List Addr),PTs (X.blk s H scope (compEnvC scope cl C X.env) fp) ifs tt)
  (he:∀(s:Shared) (H:Hp) (C:Addr) (cl:List (Str×Addr)) (fp:List Addr),PE (X.blk s H scope (compEnvC scope cl C X.env) fp) elt te)(hs:∀x,foldedSetIterable iter X.env x=pure x)
  (h:tLc wi g tt te (own.map (·.2)) σ H Q)
  (hRR:∀D C s' m H',Inv X pins σ H' s'→Q (.ref D) H'→s'.heap.Ns C m→FpOk X pins H' C→compPost (model X.prog X.w) X.A X.xe use Qf (.ref D) C (.ok .next) s'):
  wpAny (model X.prog X.w) X.A (comprehension (.ListComp elt [⟨tg,iter,ifs,0⟩] scope pos) scope X.env pos' (newList []) false (eval iter X.env) use) Qf X.xe s:=by
 have hfree:∀y∈scope.names,y.2=.free→∃c,X.env.cells.lookup y.1=some c:=fun y hy e=>by
  rcases ok.free y hy e with k | k
  ·exact I.ok.has _ (.inl k)
  ·exact I.ok.has _ (.inr k)
 refine wpAny_comprehension_free (use:=use) rfl hs (closure_ok hfree) ok.kind (fun y hy e=>by rw[ok.uniq y hy,e])
  (thn (hi pins s σ H _ I h) fun xv s1 hx=>thn hx fun itv s2 h2=>?_)
 obtain⟨it,fp,tn,J,H2,e,I2,T,st2,f2,q⟩:=h2
 subst e
 refine wpAny_newObj_type (newEnv_comp ?_) (by show 0≤sizeLine;decide)
 generalize hD:s2.heap.objs.size=D
 have hDn:H2 D=none:=I2.hok.fresh (Nat.le_of_eq hD)
 obtain⟨W,⟨m0,w0⟩,turn⟩:=q D hDn
 generalize hs3:({ s2 with heap:=s2.heap.push { cls:=.type "list",data:=.seq ([]:List Value).toArray } }:Shared)=s3
 have I3:Inv X pins σ (upd H2 D (.lst [])) s3:=by
  rw[←hs3]
  refine I2.laid (t':=s2.toks) (fun b o e=>Heap.get?_push_of_some _ e) (Nat.le_of_eq hD) ⟨Nat.zero_le _,[],0,.nil,?_⟩
  rw[←hD]
  exact Heap.get?_push_size _ rfl
 have h3:s3.heap=s2.heap.push { cls:=.type "list",data:=.seq ([]:List Value).toArray }:=by rw[←hs3]
 have sz:∀b∈fp,b<s2.heap.objs.size:=fun b hb=>by
  obtain⟨o,e,_⟩:=T.obj _ _ st2 b hb
  exact Heap.lt_size e
 have f3:∀b∈fp,FpOk X pins (upd H2 D (.lst [])) b∧b<s3.heap.objs.size:=fun b hb=>by
  have hlt:=sz b hb
  refine⟨⟨?_,(f2 b hb).2⟩,by rw[h3,Heap.size_push];exact Nat.lt_succ_of_lt hlt⟩
  rw[zF (by rw[←hD];exact Nat.ne_of_lt hlt)]
  exact(f2 b hb).1
 have st3:tn 0 s3.heap:=T.keep _ _ _ st2 fun b _ o e=>by rw[h3];exact Heap.get?_push_of_some _ e
 have I4:=block_start I3 ok hN f3
 have pg:=hg s3 (upd H2 D (.lst [])) s3.heap.objs.size (cellsFrom (s3.heap.objs.size+1) scope.names (cloFrom X.env.cells scope.names [])) fp
 have pt:=ht s3 (upd H2 D (.lst [])) s3.heap.objs.size (cellsFrom (s3.heap.objs.size+1) scope.names (cloFrom X.env.cells scope.names [])) fp
 have pe:=he s3 (upd H2 D (.lst [])) s3.heap.objs.size (cellsFrom (s3.heap.objs.size+1) scope.names (cloFrom X.env.cells scope.names [])) fp
 show codeAny _ _ (.compStart (.ListComp elt [⟨tg,iter,ifs,0⟩] scope pos) 0 (.ref it) (.ref D) (compEnvC scope (cellsFrom (s3.heap.objs.size+1) scope.names (cloFrom X.env.cells scope.names [])) s3.heap.objs.size X.env)) (compPost (model X.prog X.w) X.A X.xe use Qf (.ref D) s3.heap.objs.size) { s3 with heap:=pushCells (s3.heap.push { cls:=.type "dict",data:=.dict #[] }) scope.names }
 have nfp:∀b∈fp,(upd H2 D (.lst [])) b=none:=fun b hb=>(f3 b hb).1.1
 generalize hce:compEnvC scope (cellsFrom (s3.heap.objs.size+1) scope.names (cloFrom X.env.cells scope.names [])) s3.heap.objs.size X.env=ce at I4 pg pt pe ⊢
 have cL:ce.locals=s3.heap.objs.size:=by subst hce;rfl
 generalize hH3:upd H2 D (.lst [])=H3 at I3 I4 pg pt pe w0 nfp f3
 generalize hs4:({ s3 with heap:=pushCells (s3.heap.push { cls:=.type "dict",data:=.dict #[] }) scope.names }:Shared)=s4 at I4 ⊢
 have st4:tn 0 s4.heap:=T.keep _ _ _ st3 fun b _ o e=>by rw[←hs4];exact pushCells_keeps _ _ _ _ (Heap.get?_push_of_some _ e)
 have stat:∀{σ':St} {H':Hp} {s':Shared},Inv (X.blk s3 H3 scope ce fp) [] σ' H' s'→(∀b∈fp,H' b=none)→∀b∈fp,FpOk (X.blk s3 H3 scope ce fp) [] H' b:=fun {σ' H' s'} I' hn b hb=>
  ⟨hn b hb,(I'.ok.exf b hb).1,I'.ok.exfs b hb,.inl hb,fun x c e=>(I'.ok.exf b hb).2 x c e,fun p hp=>absurd (show p∈([]:List (Addr×Obj))++[] from hp) (by simp)⟩
 have loop:codeAny (model X.prog X.w) X.A (.compLoop (.ListComp elt [⟨tg,iter,ifs,0⟩] scope pos) 0 (.ref it) (.ref D) ce) (compPost (model X.prog X.w) X.A X.xe use Qf (.ref D) s3.heap.objs.size) s4:=by
  refine compLoop_any (fun n s'=>∃i H',Inv (X.blk s3 H3 scope ce fp) [] (wipe σ (own.map (·.2))) H' s'∧tn i s'.heap∧(∀b∈fp,H' b=none)∧W i n H') ?_ m0 ⟨0,H3,I4,st4,nfp,w0⟩
  rintro n s5 ⟨i,H5,I5,st5,n5,w5⟩
  rcases turn i n H5 w5 with⟨stop,qq⟩ | ⟨go,Nx,hNx,step⟩
  ·have td:=T.done (X.blk s3 H3 scope ce fp) rfl rfl rfl hc i [] s5 _ H5 (fun _ _=>False) I5 (stat I5 n5) st5 stop
   refine thnF td fun r s6 ⟨hr,I6⟩=>?_
   subst hr
   have I7:Inv X pins σ H5 s6:=I3.call' (ch:=fp) I6.os I6.base I6.hok I6.bare fun b hb=>⟨(f3 b hb).1.2.2.2.1,(f3 b hb).1.2.1,(f3 b hb).1.2.2.2.2.1,(f3 b hb).1.2.2.2.2.2⟩
   have nC:H5 s3.heap.objs.size=none:=by
    have z:H5 ce.locals=none:=I6.free
    rw[cL]at z
    exact z
   obtain⟨m,hn,_⟩:=I6.loc
   have hn:s6.heap.Ns ce.locals m:=hn
   rw[cL]at hn
   exact hRR D s3.heap.objs.size s6 m H5 I7 qq hn (I3.fpOk (Nat.le_refl _) nC)
  ·have ti:=T.item (X.blk s3 H3 scope ce fp) rfl rfl rfl hc i [] s5 _ H5 (fun _ _=>False) I5 (stat I5 n5) st5 go
   refine thnF ti fun r s6 ⟨u,hr,h6⟩=>?_
   subst hr
   refine thnF h6 fun _ s7 ⟨x,H7,I7,r7,y7,st7,n7⟩=>?_
   have I7':=I7.pinned (stat I7 n7) (T.obj _ _ st7)
   refine thnF (pg _ s7 _ H7 x u _ I7' r7 (step x H7 y7)) fun _ s8 ⟨σ8,H8,I8,hw8,q8⟩=>?_
   refine thnF (pt _ s8 σ8 H8 _ I8 q8) fun b s9 ⟨H9,I9,q9⟩=>?_
   have fin:∀{s':Shared} {H':Hp},Inv (X.blk s3 H3 scope ce fp) ([]++pinsAt fp s7.heap) σ8 H' s'→Nx H'→∃m,m<n∧∃i H',Inv (X.blk s3 H3 scope ce fp) [] (wipe σ (own.map (·.2))) H' s'∧tn i s'.heap∧(∀b∈fp,H' b=none)∧W i m H':=fun {s' H'} I' nx=>by
    obtain⟨m',hm,w'⟩:=hNx H' nx
    have pin':∀b∈fp,∀o,s7.heap.get? b=some o→s'.heap.get? b=some o∧H' b=none:=fun b hb o e=>
     let z:=I'.pin (b,o) (List.mem_append_right _ (List.mem_append_right _ (mem_pinsAt hb e)))
     ⟨z.1,z.2.1⟩
    have hl:(wipe σ (own.map (·.2))).length=σ8.length:=by rw[←hw8,wipe_length]
    refine⟨m',hm,i+1,H',(I'.unpinned (pins:=[])).weak hl (fun j v e=>?_),T.keep _ _ _ st7 fun b hb o e=>(pin' b hb o e).1,fun b hb=>?_,w'⟩
    ·rw[←hw8]at e
     exact(wipe_some e).1
    ·obtain⟨o,e,_⟩:=T.obj _ _ st7 b hb
     exact(pin' b hb o e).2
   cases b with
   |false=>
    simp only[Bool.false_eq_true,if_false]at q9 ⊢
    exact fin I9 q9
   |true=>
    simp only[if_true]at q9 ⊢
    refine thnF (pe _ s9 σ8 H9 _ I9 q9) fun z s10 ⟨yv,H10,I10,r10,acc,hD10,hz10,nx⟩=>?_
    exact app_ok (X:=X.blk s3 H3 scope ce fp) I10 hD10 hz10 r10 fun s11 I11=>fin I11 nx
 exact codeAny_compStart_list loop (T.self X.A 0 _ _ _ st4 loop)
theorem pe_lc{elt tg iter:Expr}{ifs:List Expr}{scope:Scope}{own:List (Str×Nat)}{pos:Pos}{wi:TI}{g:TG}{tt:TT}{te:TE}(hc:X.calm=true)(hN:X.N.Nodup)(hi:PI X tg iter wi)(ok:BlkOk X.N X.env.scope scope own)
  (hg:∀(s:Shared) (H:Hp) (C:Addr) (cl:List (Str×Addr)) (fp:List Addr),PG (X.blk s H scope (compEnvC scope cl C X.env) fp) tg g)(ht:∀(s:Shared) (H:Hp) (C:Addr) (cl:List (Str×Addr)) (fp:List Addr),PTs (X.blk s H scope (compEnvC scope cl C X.env) fp) ifs tt)
  (he:∀(s:Shared) (H:Hp) (C:Addr) (cl:List (Str×Addr)) (fp:List Addr),PE (X.blk s H scope (compEnvC scope cl C X.env) fp) elt te)(hs:∀x,foldedSetIterable iter X.env x=pure x:=by intro _;rfl):
  PE X (.ListComp elt [⟨tg,iter,ifs,0⟩] scope pos) (tLc wi g tt te (own.map (·.2))):=by
 intro pins s σ H Q I h
 rw[eval_ListComp]
 refine lc_core hc hN I hi ok hg ht he hs h fun D C s' m H' I' q hn f=>⟨m,hn,fun h'' sb=>?_⟩
 obtain⟨f0,f1,f2,f3,f4,f5⟩:=f
 exact⟨.ref D,H',I'.turned (t':=s'.toks) (fun b o hb e=>(sb.2 b hb).trans e) f0 f1 f3 f4 f5,rfl,q⟩
theorem ps_setLc{i:Nat}{y:Str}{py:Pos}{elt tg iter:Expr}{ifs:List Expr}{scope:Scope}{own:List (Str×Nat)}{pos spos:Pos}{wi:TI}{g:TG}{tt:TT}{te:TE}(hc:X.calm=true)(hN:X.N.Nodup)(hy:X.N[i]? =some y)(hyl:X.env.scope.names.lookup y=some .local)
  (hsw:swapsWith (.ListComp elt [⟨tg,iter,ifs,0⟩] scope pos) (some (.Name y py)) spos.line X.env=pure true)(hi:PI X tg iter wi)(ok:BlkOk X.N X.env.scope scope own)
  (hg:∀(s:Shared) (H:Hp) (C:Addr) (cl:List (Str×Addr)) (fp:List Addr),PG (X.blk s H scope (compEnvC scope cl C X.env) fp) tg g)(ht:∀(s:Shared) (H:Hp) (C:Addr) (cl:List (Str×Addr)) (fp:List Addr),PTs (X.blk s H scope (compEnvC scope cl C X.env) fp) ifs tt)
  (he:∀(s:Shared) (H:Hp) (C:Addr) (cl:List (Str×Addr)) (fp:List Addr),PE (X.blk s H scope (compEnvC scope cl C X.env) fp) elt te)(hs:∀x,foldedSetIterable iter X.env x=pure x:=by intro _;rfl):
  PS X (.Assign [.Name y py] (.ListComp elt [⟨tg,iter,ifs,0⟩] scope pos) spos) (tAsg (tLc wi g tt te (own.map (·.2))) (gName i)):=by
 intro pins s σ H D I h
 rw[exec_Assign_Name_used _ _ _ _ hsw]
 refine wpAny_bind (wpAny_standAt (wpAny_bind ?_))
 show wpAny _ X.A (do let _ ←comprehension (.ListComp elt [⟨tg,iter,ifs,0⟩] scope pos) scope X.env (firstIterPos [⟨tg,iter,ifs,0⟩] pos) (newList []) false (eval iter X.env) (some (assign (.Name y py) X.env))) _ _ s
 have h:tLc wi g tt te (own.map (·.2)) σ H (fun x H1=>gName i x σ H1 D.nx):=h
 refine wpAny_bind (thn (lc_core (Qf:=fun _ s'=>SP X pins D .next s') hc hN I hi ok hg ht he hs h fun L C s' m H' I' q hn f=>?_) fun _ s' hq=>wpAny_pure (wpAny_pure hq))
 show wpAny _ _ (assign (.Name y py) X.env (.ref L)) _ _ _
 refine wpAny_assign_Name (store_ok2 (v:=V.ref L) I' hN hy (.inl hyl) rfl (fun s2 I2 ⟨a,sb,ha⟩=>?_) (.inr hyl))
 obtain⟨f0,f1,f2,f3,f4,f5⟩:=f
 have haC:C≠a:=by
  rcases ha with z | z
  ·rw[z];exact f1
  ·exact fun e=>f4 y a z e.symm
 refine⟨m,hn.sameBut sb haC,fun h3 sb3=>?_⟩
 exact⟨_,H',I2.turned (t':=s2.toks) (fun b o hb e=>(sb3.2 b hb).trans e) f0 f1 f3 f4 f5,q⟩
end
theorem lc_list{K:PySem.W.Frag}{a:Addr}{xs:List V}{g:TG}{tt:TT}{te:TE}{vs:List Nat}{σ:St}{H1:Hp}{D:Addr}{Qd:Hp→Prop}(Pv:Nat→Hp→Prop)(h0:Pv 0 (upd H1 D (.lst [])))(hl:∀i H,i≤xs.length→Pv i H→SqL K H a xs)
  (hs:∀i x H,xs[i]? =some x→Pv i H→g x (wipe σ vs) H fun σ2 H2=>wipe σ2 vs=wipe σ vs∧tt σ2 H2 fun b H3=>
   if b=true then te σ2 H3 fun y H4=>∃acc,H4 D=some (.lst acc)∧acc.length<sizeLine∧Pv (i+1) (upd H4 D (.lst (acc++[y])))else Pv (i+1) H3)(hd:∀H,Pv xs.length H→Qd H):
  ∃W:Nat→Nat→Hp→Prop,(∃m,W 0 m (upd H1 D (.lst [])))∧∀i m H,W i m H→
   ((Itl K a).stop i H∧Qd H)∨((Itl K a).go i H∧∃Nx:Hp→Prop,(∀H',Nx H'→∃m',m'<m∧W (i+1) m' H')∧∀x H',(Itl K a).yld i H x H'→g x (wipe σ vs) H' fun σ2 H2=>wipe σ2 vs=wipe σ vs∧tt σ2 H2 fun b H3=>
    if b=true then te σ2 H3 fun y H4=>∃acc,H4 D=some (.lst acc)∧acc.length<sizeLine∧Nx (upd H4 D (.lst (acc++[y])))else Nx H3):=by
 refine⟨fun i m H=>m=xs.length-i∧i≤xs.length∧Pv i H,⟨xs.length,by simp,Nat.zero_le _,h0⟩,?_⟩
 rintro i m H ⟨rfl,hi,p⟩
 have q:=hl i H hi p
 by_cases hlt:i<xs.length
 ·refine .inr ⟨⟨xs,xs[i],q,by simp[hlt]⟩,Pv (i+1),fun H' p'=>⟨xs.length- (i+1),by omega,rfl,hlt,p'⟩,fun x H' y=>?_⟩
  obtain⟨e,y⟩:=y
  subst e
  exact hs i x _ (y xs q) p
 ·have e:i=xs.length:=by omega
  subst e
  exact .inl ⟨⟨xs,q,Nat.le_refl _⟩,hd H p⟩
theorem lc_tup{K:PySem.W.Frag}{a:Addr}{xs:List V}{g:TG}{tt:TT}{te:TE}{vs:List Nat}{σ:St}{H1:Hp}{D:Addr}{Qd:Hp→Prop}(Pv:Nat→Hp→Prop)(h0:Pv 0 (upd H1 D (.lst [])))(hl:∀i H,i≤xs.length→Pv i H→SqT K H a xs)
  (hs:∀i x H,xs[i]? =some x→Pv i H→g x (wipe σ vs) H fun σ2 H2=>wipe σ2 vs=wipe σ vs∧tt σ2 H2 fun b H3=>
   if b=true then te σ2 H3 fun y H4=>∃acc,H4 D=some (.lst acc)∧acc.length<sizeLine∧Pv (i+1) (upd H4 D (.lst (acc++[y])))else Pv (i+1) H3)(hd:∀H,Pv xs.length H→Qd H):
  ∃W:Nat→Nat→Hp→Prop,(∃m,W 0 m (upd H1 D (.lst [])))∧∀i m H,W i m H→
   ((Itt K a).stop i H∧Qd H)∨((Itt K a).go i H∧∃Nx:Hp→Prop,(∀H',Nx H'→∃m',m'<m∧W (i+1) m' H')∧∀x H',(Itt K a).yld i H x H'→g x (wipe σ vs) H' fun σ2 H2=>wipe σ2 vs=wipe σ vs∧tt σ2 H2 fun b H3=>
    if b=true then te σ2 H3 fun y H4=>∃acc,H4 D=some (.lst acc)∧acc.length<sizeLine∧Nx (upd H4 D (.lst (acc++[y])))else Nx H3):=by
 refine⟨fun i m H=>m=xs.length-i∧i≤xs.length∧Pv i H,⟨xs.length,by simp,Nat.zero_le _,h0⟩,?_⟩
 rintro i m H ⟨rfl,hi,p⟩
 have q:=hl i H hi p
 by_cases hlt:i<xs.length
 ·refine .inr ⟨⟨xs,xs[i],q,by simp[hlt]⟩,Pv (i+1),fun H' p'=>⟨xs.length- (i+1),by omega,rfl,hlt,p'⟩,fun x H' y=>?_⟩
  obtain⟨e,y⟩:=y
  subst e
  exact hs i x _ (y xs q) p
 ·have e:i=xs.length:=by omega
  subst e
  exact .inl ⟨⟨xs,q,Nat.le_refl _⟩,hd H p⟩
def blkC(N:List Str)(sc scope:Scope)(own:List (Str×Nat)):Bool:=
 (match scope.kind with | .function=>true | _=>false)&&(scope.names.all fun y=>decide (scope.names.lookup y.1=some y.2))&&(own.all fun p=>decide (N[p.2]? =some p.1))&&
  (scope.names.all fun y=>match y.2 with
   |.free=>(match sc.names.lookup y.1 with | some .cell=>true | some .free=>true | _=>false)
   |.local=>decide (y.1∈own.map (·.1)) || decide (y.1∉N)
   |.cell=>decide (y.1∈own.map (·.1)) || decide (y.1∉N)
   |_=>true)
theorem blkOk_by{N:List Str}{sc scope:Scope}{own:List (Str×Nat)}(h:blkC N sc scope own=true):BlkOk N sc scope own:=by
 unfold blkC at h
 simp only[Bool.and_eq_true,List.all_eq_true,decide_eq_true_eq]at h
 obtain⟨⟨⟨h1,h2⟩,h3⟩,h4⟩:=h
 refine⟨?_,h2,h3,fun y hy e=>?_,fun y hy e=>?_⟩
 ·split at h1
  ·assumption
  ·cases h1
 ·have q:=h4 y hy
  simp only[e]at q
  split at q<;>first | exact .inl (by assumption) | exact .inr (by assumption) | cases q
 ·have q:=h4 y hy
  rcases e with e | e<;>(simp only[e,Bool.or_eq_true,decide_eq_true_eq]at q;exact q)
end L2
namespace L2
open PySem PySem.Spec PyProof.Rows
section
variable {prog:Program}{w:World}{A:Around}{R:Result→Shared→Prop}{s:Shared}{elt t0 i0 t1 i1:Expr}{ifs0 ifs1:List Expr}{scope:Scope}{pos:Pos}{it acc:Value}{env:Env}
end
section
variable {X:Cx}
end
end L2
namespace L2
open PySem PySem.Spec PyProof.Rows
section
variable {κ:Type} [DecidableEq κ]
def valV(kvs:List (κ×V))(k:κ):Option V:=(kvs.find? fun kv=>decide (kv.1=k)).map (·.2)
def putK(kvs:List (κ×V))(k:κ)(v:V):List (κ×V):=
 if(kvs.any fun kv=>decide (kv.1=k))=true then kvs.map (fun kv=>if kv.1=k then(kv.1,v)else kv)else kvs++[(k,v)]
theorem yM{p:κ×V}{r:List (κ×V)}{k:κ}(e:p.1=k):valV (p::r) k=some p.2:=by simp[valV,List.find?_cons,e]
theorem yN{p:κ×V}{r:List (κ×V)}{k:κ}(e:¬p.1=k):valV (p::r) k=valV r k:=by simp[valV,List.find?_cons,e]
theorem valV_any(k:κ):∀kvs:List (κ×V),(kvs.any fun kv=>decide (kv.1=k))=(valV kvs k).isSome
 |[]=>rfl
 |p::r=>by
  rw[List.any_cons]
  by_cases e:p.1=k
  ·simp only[yM e,decide_eq_true e,Bool.true_or,Option.isSome_some]
  ·rw[yN e,decide_eq_false e,Bool.false_or];exact valV_any k r
theorem valV_map(k j:κ)(y:V):∀kvs:List (κ×V),valV (kvs.map fun kv=>if kv.1=k then(kv.1,y)else kv) j=(valV kvs j).map fun x=>if j=k then y else x
 |[]=>rfl
 |p::r=>by
  have ih:=valV_map k j y r
  rw[List.map_cons]
  by_cases h:p.1=k
  ·rw[if_pos h]
   by_cases e:p.1=j
   ·rw[yM (p:=(p.1,y)) e,yM e,Option.map_some,if_pos (e.symm.trans h)]
   ·rw[yN (p:=(p.1,y)) e,yN e,ih]
  ·rw[if_neg h]
   by_cases e:p.1=j
   ·rw[yM (p:=p) e,yM e,Option.map_some,if_neg (fun z=>h (e.trans z))]
   ·rw[yN (p:=p) e,yN e,ih]
theorem valV_snoc(k j:κ)(y:V):∀kvs:List (κ×V),valV kvs k=none→valV (kvs++[(k,y)]) j=if j=k then some y else valV kvs j
 |[],_=>by
  by_cases e:k=j
  ·rw[if_pos e.symm];exact yM (p:=(k,y)) e
  ·rw[if_neg (fun z=>e z.symm)];exact yN (p:=(k,y)) e
 |p::r,hn=>by
  rw[List.cons_append]
  have hk:¬p.1=k:=fun z=>by rw[yM z]at hn;cases hn
  rw[yN hk]at hn
  have ih:=valV_snoc k j y r hn
  by_cases e:p.1=j
  ·rw[yM e,yM e,if_neg (fun z=>hk (e.trans z))]
  ·rw[yN e,yN e,ih]
theorem valV_put(kvs:List (κ×V))(k j:κ)(y:V):valV (putK kvs k y) j=if j=k then some y else valV kvs j:=by
 unfold putK
 by_cases a:(kvs.any fun kv=>decide (kv.1=k))=true
 ·rw[if_pos a,valV_map]
  rw[valV_any]at a
  by_cases e:j=k
  ·obtain⟨x,hx⟩:=Option.isSome_iff_exists.mp a
   rw[if_pos e,e,hx,Option.map_some,if_pos rfl]
  ·rw[if_neg e]
   cases valV kvs j with
   |none=>rfl
   |some x=>rw[Option.map_some,if_neg e]
 ·rw[if_neg a]
  refine valV_snoc k j y kvs ?_
  rw[valV_any]at a
  cases q:valV kvs k with
  |none=>rfl
  |some x=>rw[q]at a;exact(a rfl).elim
theorem length_putK(kvs:List (κ×V))(k:κ)(v:V):(putK kvs k v).length≤kvs.length+1:=by
 unfold putK
 split
 ·rw[List.length_map];omega
 ·rw[List.length_append,List.length_cons,List.length_nil];omega
theorem putK_new{kvs:List (κ×V)}{k:κ}(v:V)(h:valV kvs k=none):putK kvs k v=kvs++[(k,v)]:=by
 unfold putK
 rw[valV_any,h]
 exact if_neg (by decide)
theorem RelO.isSome_eq{o:Option V}{u:Option Value}(r:RelO o u):o.isSome=u.isSome:=by
 cases o with
 |none=>cases u with
  |none=>rfl
  |some _=>exact(show False from r).elim
 |some _=>cases u with
  |none=>exact(show False from r).elim
  |some _=>rfl
theorem RelO.getD{o:Option V}{u:Option Value}{d:V}{d':Value}(r:RelO o u)(rd:RelV d d'):RelV (o.getD d) (u.getD d'):=by
 cases o with
 |none=>cases u with
  |none=>exact rd
  |some _=>exact(show False from r).elim
 |some _=>cases u with
  |none=>exact(show False from r).elim
  |some _=>exact r
theorem KV.val{kvs:List (κ×V)}{vs:List (κ×Value)}(r:KV kvs vs)(k:κ):RelO (valV kvs k) (valueAt vs k):=by
 unfold KV at r
 induction r with
 |nil=>exact True.intro
 |@cons p q ps qs h t ih=>
  obtain⟨h1,h2⟩:=h
  by_cases e:p.1=k
  ·have e':q.1=k:=h1.symm.trans e
   have b:valueAt (q::qs) k=some q.2:=by simp[valueAt,List.find?_cons,e']
   rw[yM e,b];exact h2
  ·have e':¬q.1=k:=fun z=>e (h1.trans z)
   have b:valueAt (q::qs) k=valueAt qs k:=by simp[valueAt,List.find?_cons,e']
   rw[yN e,b];exact ih
theorem KV.any{kvs:List (κ×V)}{vs:List (κ×Value)}(r:KV kvs vs)(k:κ):(kvs.any fun kv=>decide (kv.1=k))=vs.any fun kv=>decide (kv.1=k):=by
 unfold KV at r
 induction r with
 |nil=>rfl
 |cons h t ih=>rw[List.any_cons,List.any_cons,ih,h.1]
theorem KV.repl{kvs:List (κ×V)}{vs:List (κ×Value)}(r:KV kvs vs)(k:κ){y:V}{u:Value}(ry:RelV y u):
  KV (kvs.map fun kv=>if kv.1=k then(kv.1,y)else kv) (vs.map fun kv=>if kv.1=k then(kv.1,u)else kv):=by
 unfold KV at r ⊢
 induction r with
 |nil=>exact .nil
 |@cons p q ps qs h t ih=>
  rw[List.map_cons,List.map_cons]
  refine .cons ?_ ih
  obtain⟨h1,h2⟩:=h
  by_cases e:p.1=k
  ·rw[if_pos e,if_pos (h1.symm.trans e)];exact⟨h1,ry⟩
  ·rw[if_neg e,if_neg (fun z=>e (h1.trans z))];exact⟨h1,h2⟩
theorem KV.put{kvs:List (κ×V)}{vs:List (κ×Value)}(r:KV kvs vs)(k:κ){y:V}{u:Value}(ry:RelV y u):KV (putK kvs k y) (stored vs k u):=by
 unfold putK stored
 rw[r.any k]
 by_cases e:(vs.any fun kv=>decide (kv.1=k))=true
 ·rw[if_pos e,if_pos e];exact r.repl k ry
 ·rw[if_neg e,if_neg e];exact Paired.snoc r ⟨rfl,ry⟩
theorem KV.length{kvs:List (κ×V)}{vs:List (κ×Value)}(r:KV kvs vs):kvs.length=vs.length:=Paired.length r
end
theorem kV_is{P:Program}{w:World}{k:Key}{u:Value}(r:RelV (kV k) u):(mixKind P w).is k u=true:=by
 cases k with
 |inl i=>obtain⟨t,e⟩:=(show∃t,u=Value.int i t from r);subst e;exact mixKind_int P w i t
 |inr x=>obtain⟨t,e⟩:=(show∃t,u=Value.str x t from r);subst e;exact mixKind_str P w x t
theorem items_are{P:Program}{w:World}:∀{ks:List Key} {us:List Value},Vals (ks.map kV) us→ItemsAre (mixKind P w) ks us
 |[],_,r=>by rw[List.map_nil]at r;cases r;exact .nil
 |k::ks,_,r=>by
  rw[List.map_cons]at r
  cases r with
  |cons h t=>exact .cons (kV_is h) (items_are t)
abbrev KT(H:Hp):List (List Key×V)→List (List Key×Addr×Value)→Prop:=Paired fun p q=>p.1=q.1∧H q.2.1=some (.tup (p.1.map kV))∧RelV p.2 q.2.2
theorem KT.val{H:Hp}{kvs:List (List Key×V)}{xs:List (List Key×Addr×Value)}(r:KT H kvs xs)(k:List Key):RelO (valV kvs k) ((atKey xs k).map (·.2)):=by
 induction r with
 |nil=>exact True.intro
 |@cons p q ps qs h t ih=>
  obtain⟨h1,_,h2⟩:=h
  by_cases e:p.1=k
  ·have e':q.1=k:=h1.symm.trans e
   have b:atKey (q::qs) k=some q.2:=by simp[atKey,List.find?_cons,e']
   rw[yM e,b];exact h2
  ·have e':¬q.1=k:=fun z=>e (h1.trans z)
   have b:atKey (q::qs) k=atKey qs k:=by simp[atKey,List.find?_cons,e']
   rw[yN e,b];exact ih
theorem KT.repl{H:Hp}{kvs:List (List Key×V)}{xs:List (List Key×Addr×Value)}(r:KT H kvs xs)(k:List Key){y:V}{u:Value}(ry:RelV y u):
  KT H (kvs.map fun kv=>if kv.1=k then(kv.1,y)else kv) (xs.map (putAt k u)):=by
 induction r with
 |nil=>exact .nil
 |@cons p q ps qs h t ih=>
  rw[List.map_cons,List.map_cons]
  refine .cons ?_ ih
  obtain⟨h1,h2,h3⟩:=h
  unfold putAt
  by_cases e:p.1=k
  ·rw[if_pos e,if_pos (h1.symm.trans e)];exact⟨h1,h2,ry⟩
  ·rw[if_neg e,if_neg (fun z=>e (h1.trans z))];exact⟨h1,h2,h3⟩
theorem KT.put{H:Hp}{kvs:List (List Key×V)}{xs:List (List Key×Addr×Value)}(r:KT H kvs xs)(k:List Key){b:Addr}{y:V}{u:Value}(hb:H b=some (.tup (k.map kV)))(ry:RelV y u):
  KT H (putK kvs k y) (storedH xs k b u):=by
 have e:(kvs.any fun kv=>decide (kv.1=k))=(atKey xs k).isSome:=by
  rw[valV_any,(r.val k).isSome_eq,Option.isSome_map]
 unfold putK storedH
 rw[e]
 by_cases q:(atKey xs k).isSome=true
 ·rw[if_pos q,if_pos q];exact r.repl k ry
 ·rw[if_neg q,if_neg q];exact Paired.snoc r ⟨rfl,hb,ry⟩
theorem KT.keeps{H H':Hp}{kvs:List (List Key×V)}{xs:List (List Key×Addr×Value)}(r:KT H kvs xs)(ht:∀b ys,H b=some (.tup ys)→H' b=some (.tup ys)):KT H' kvs xs:=
 Paired.mapP r fun _ _ z=>⟨z.1,ht _ _ z.2.1,z.2.2⟩
section
variable {P:Program}{w:World}{H:Hp}{h:Heap}{a:Addr}
theorem rd_of{u:HO}(ok:HOk P w H h)(e:Rd H a u):ObjOk P w H h a u:=e.ok ok
theorem dk_rd{kvs:List (Key×V)}(ok:HOk P w H h)(e:Rd H a (.dK kvs)):kvs.length≤sizeLine∧(a==sysModules)=false∧∃vs,KV kvs vs∧h.DictOf (mixKind P w) a vs:=
 show ObjOk P w H h a (.dK kvs) from rd_of ok e
theorem dk_of{kvs:List (Key×V)}(ok:HOk P w H h)(e:H a=some (.dK kvs)):kvs.length≤sizeLine∧(a==sysModules)=false∧∃vs,KV kvs vs∧h.DictOf (mixKind P w) a vs:=dk_rd ok (.inl e)
theorem key_of{ks:List Key}(ok:HOk P w H h)(e:H a=some (.tup (ks.map kV))):(tupleKind (mixKind P w)).is h ks a:=by
 obtain⟨_,its,r,o,h1,h2,n,h3⟩:=(show ObjOk P w H h a (.tup (ks.map kV)) from ok a _ e)
 exact⟨o,its.toArray,n,h1,h2,h3,by simpa using items_are r⟩
theorem dt_rd{kvs:List (List Key×V)}(ok:HOk P w H h)(e:Rd H a (.dT kvs)):kvs.length≤sizeLine∧(a==sysModules)=false∧
  ∃xs,KT H kvs xs∧h.DictOfH (tupleKind (mixKind P w)) a xs:=by
 obtain⟨z,y,xs,r,o,es,ep,h1,h2,h3,h4,h5⟩:=(show ObjOk P w H h a (.dT kvs) from rd_of ok e)
 refine⟨z,y,xs,r,o,es,ep,h1,h2,h3,h4,fun x hx=>?_,h5⟩
 have all:∀{l:List (List Key×V)} {m:List (List Key×Addr×Value)},KT H l m→∀x∈m,(tupleKind (mixKind P w)).is h x.1 x.2.1:=by
  intro l m q
  induction q with
  |nil=>intro x hx;exact nomatch hx
  |@cons p q ps qs hq t ih=>
   intro x hx
   rcases List.mem_cons.mp hx with e | hx
   ·subst e
    exact key_of ok (by rw[←hq.1];exact hq.2.1)
   ·exact ih x hx
 exact all r x hx
theorem dt_of{kvs:List (List Key×V)}(ok:HOk P w H h)(e:H a=some (.dT kvs)):kvs.length≤sizeLine∧(a==sysModules)=false∧
  ∃xs,KT H kvs xs∧h.DictOfH (tupleKind (mixKind P w)) a xs:=dt_rd ok (.inl e)
end
def DGet(H:Hp)(a:Addr)(y:V)(r:Option V):Prop:=
 (∃kvs k,Rd H a (.dK kvs)∧y=kV k∧r=valV kvs k)∨∃kvs k b,Rd H a (.dT kvs)∧y=.ref b∧H b=some (.tup (k.map kV))∧r=valV kvs k
def DPut(H:Hp)(a:Addr)(y v:V)(H':Hp):Prop:=
 (∃kvs k,H a=some (.dK kvs)∧y=kV k∧kvs.length<sizeLine∧H'=upd H a (.dK (putK kvs k v)))∨
 ∃kvs k b,H a=some (.dT kvs)∧y=.ref b∧H b=some (.tup (k.map kV))∧kvs.length<sizeLine∧H'=upd H a (.dT (putK kvs k v))
section
variable {X:Cx}{pins:List (Addr×Obj)}{σ:St}{H:Hp}{s:Shared}{a:Addr}{y v:V}{u r:Value}{o:Option V}{A:Around}{E:Value→Shared→Prop}
theorem Inv.big(I:Inv X pins σ H s):sysModules<s.heap.objs.size:=by
 have h:mainGlobals<s.heap.objs.size:=(I.mod.glob.keeps I.bk).lt
 exact Nat.lt_trans (by decide) h
theorem d_getItem{Q:Value→Shared→Prop}(hu:A.units+1<cLine)(I:Inv X pins σ H s)(g:DGet H a y (some v))(ry:RelV y u)(h:∀w' s',Inv X pins σ H s'→RelV v w'→Q w' s'):
  wpAny (model X.prog X.w) A (getItem (.ref a) u) Q E s:=by
 rcases g with⟨kvs,k,e,ey,l⟩ | ⟨kvs,k,b,e,ey,eb,l⟩
 ·subst ey
  obtain⟨z,hd,vs,rel,dd⟩:=dk_rd I.hok e
  obtain⟨w',hw,rw'⟩:=RelO.some_of (v:=v) (o:=valueAt vs k) (by rw[l];exact rel.val k)
  exact wpAny_getItem_of (kV_is ry) dd.mapOf hw (h w' _ (I.tok _) rw')
 ·subst ey
  cases (show u=Value.ref b from ry)
  obtain⟨z,hd,xs,rel,dd⟩:=dt_rd I.hok e
  obtain⟨w',hw,rw'⟩:=RelO.some_of (v:=v) (o:=(atKey xs k).map (·.2)) (by rw[l];exact rel.val k)
  obtain⟨p,hp,hp2⟩:=Option.map_eq_some_iff.mp hw
  refine wpAny_getItem_heap (tupleKind_room_in1 hu) (key_of I.hok eb) dd hp ?_
  rw[hp2]
  exact h w' _ (I.tok _) rw'
theorem d_in{Q:Value→Shared→Prop}(hu:A.units+1<cLine)(I:Inv X pins σ H s)(g:DGet H a y o)(ry:RelV y u)(h:∀s',Inv X pins σ H s'→Q (.bool o.isSome) s'):
  wpAny (model X.prog X.w) A (compareOp .In u (.ref a)) Q E s:=by
 rcases g with⟨kvs,k,e,ey,l⟩ | ⟨kvs,k,b,e,ey,eb,l⟩
 ·subst ey
  obtain⟨z,hd,vs,rel,dd⟩:=dk_rd I.hok e
  refine wpAny_in_of (kV_is ry) hd dd.mapOf ?_
  rw[←(rel.val k).isSome_eq,←l]
  exact h _ (I.tok _)
 ·subst ey
  cases (show u=Value.ref b from ry)
  obtain⟨z,hd,xs,rel,dd⟩:=dt_rd I.hok e
  refine wpAny_in_heap (tupleKind_room_in1 hu) (key_of I.hok eb) hd dd ?_
  have q:=(rel.val k).isSome_eq
  rw[Option.isSome_map]at q
  rw[←q,←l]
  exact h _ (I.tok _)
theorem d_notIn{Q:Value→Shared→Prop}(hu:A.units+1<cLine)(I:Inv X pins σ H s)(g:DGet H a y o)(ry:RelV y u)(h:∀s',Inv X pins σ H s'→Q (.bool (!o.isSome)) s'):
  wpAny (model X.prog X.w) A (compareOp .NotIn u (.ref a)) Q E s:=by
 rcases g with⟨kvs,k,e,ey,l⟩ | ⟨kvs,k,b,e,ey,eb,l⟩
 ·subst ey
  obtain⟨z,hd,vs,rel,dd⟩:=dk_rd I.hok e
  refine wpAny_notIn_of (kV_is ry) hd dd.mapOf ?_
  rw[←(rel.val k).isSome_eq,←l]
  exact h _ (I.tok _)
 ·subst ey
  cases (show u=Value.ref b from ry)
  obtain⟨z,hd,xs,rel,dd⟩:=dt_rd I.hok e
  refine wpAny_notIn_heap (tupleKind_room_in1 hu) (key_of I.hok eb) hd dd ?_
  have q:=(rel.val k).isSome_eq
  rw[Option.isSome_map]at q
  rw[←q,←l]
  exact h _ (I.tok _)
theorem d_write{h':Heap}{t':Nat}{ob:HO}(I:Inv X pins σ H s)(mu:Mut (H a))(hs:Heap.SameBut a s.heap h')(he:∃q,h'.get? a=some q)(new:ObjOk X.prog X.w (upd H a ob) h' a ob):
  Inv X pins σ (upd H a ob) { s with heap:=h',toks:=t' }:=
 I.write (x:=a) (e:=a) mu (.inl rfl) (fun b q hb z=>(hs.2 b hb).trans z) he new
theorem dk_new{P:Program}{w:World}{H':Hp}{h':Heap}{kvs:List (Key×V)}{vs:List (Key×Value)}(z:kvs.length≤sizeLine)(hd:(a==sysModules)=false)(rel:KV kvs vs)(dd:h'.DictOf (mixKind P w) a vs):
  ObjOk P w H' h' a (.dK kvs):=⟨z,hd,vs,rel,dd⟩
theorem d_setItem{H':Hp}{Q:Unit→Shared→Prop}(hu:A.units+1<cLine)(I:Inv X pins σ H s)(g:DPut H a y v H')(ry:RelV y u)(rv:RelV v r)(h:∀s',Inv X pins σ H' s'→Q () s'):
  wpAny (model X.prog X.w) A (setItem (.ref a) u r) Q E s:=by
 rcases g with⟨kvs,k,e,ey,l,eH⟩ | ⟨kvs,k,b,e,ey,eb,l,eH⟩
 ·subst ey eH
  obtain⟨z,hd,vs,rel,dd⟩:=dk_of I.hok e
  have hz:vs.length≤sizeLine:=by rw[←rel.length];exact z
  have hl:(putK kvs k v).length≤sizeLine:=by have:=length_putK kvs k v;omega
  refine wpAny_setItem_pairs (hsz:=hz) (kV_is ry) dd fun h' dd' hs=>h _ ?_
  have he:∃q,h'.get? a=some q:=let ⟨q,_,_,hq,_⟩:=dd';⟨q,hq⟩
  exact d_write I (by rw[e];exact True.intro) hs he (dk_new hl hd (rel.put k rv) dd')
 ·subst ey eH
  cases (show u=Value.ref b from ry)
  obtain⟨z,hd,xs,rel,dd⟩:=dt_of I.hok e
  have hz:xs.length≤sizeLine:=by rw[←Paired.length rel];exact z
  have hl:(putK kvs k v).length≤sizeLine:=by have:=length_putK kvs k v;omega
  refine wpAny_setItem_heap (hsz:=hz) (tupleKind_room_in1 hu) (key_of I.hok eb) dd fun h' dd' hs=>h _ ?_
  obtain⟨q,es,ep,hq,h2,h3,h4,_,h5⟩:=dd'
  refine d_write I (by rw[e];exact True.intro) hs ⟨q,hq⟩ ⟨hl,hd,_,(rel.put k eb rv).keeps fun c ys ec=>?_,q,es,ep,hq,h2,h3,h4,h5⟩
  rw[zF (ne_of ec e (fun z=>nomatch z))]
  exact ec
end
section
variable {X:Cx}{pins:List (Addr×Obj)}{σ:St}{H:Hp}{s:Shared}{a:Addr}{kvs:List (Key×V)}{k:Key}{u:Value}{A:Around}{E:Value→Shared→Prop}
end
def NoSl(i:Expr):Prop:=∀ov iv,subscripted i false ov iv=operate [ov,iv] (getItem ov iv)
theorem subD_of{prog:Program}{w:World}{A:Around}{E:Value→Shared→Prop}{s:Shared}{env:Env}{value slice:Expr}{pos:Pos}{T id:String}{Q:Value→Shared→Prop}
  (hl:typeLookup (.type T) "__getitem__"=pure (some (.builtin id)))(hs:NoSl slice)
  (h:wpAny (model prog w) A (eval value env) (fun o s₁=>wpAny (model prog w) A (eval slice env) (fun i s₂=>s₂.TypeIs o T∧wpAny (model prog w) A (getItem o i) Q E s₂) E s₁) E s):
  wpAny (model prog w) A (eval (.Subscript value slice pos) env) Q E s:=by
 refine Subscript_ (wpAny_mono h (fun o s₁ h₁=>wpAny_mono h₁ (fun i s₂ h₂=>?_) fun _ _ x=>x) fun _ _ x=>x)
 obtain⟨hT,h₂⟩:=h₂
 unfold subscriptTail
 refine wpAny_bind ?_
 rw[getitemInPython_of_ne hT.not_modules]
 refine wpAny_bind (wpAny_specialOf hT hl ?_)
 have fin:wpAny (model prog w) A (subscripted slice false o i) (fun r s₃=>wpAny (model prog w) A (letTemporaryGo value o r >>=fun _=>pure r) Q E s₃) E s₂:=by
  rw[hs o i]
  exact wpAny_operating (wpAny_mono h₂ (fun r s₃ h₃=>wpAny_bind (wpAny_letTemporaryGo (wpAny_pure h₃))) fun _ _ x=>x)
 first
  |exact wpAny_pure (wpAny_bind fin)
  |exact wpAny_bind (wpAny_pure (wpAny_bind fin))
  |exact wpAny_bind fin
theorem dict_typeIs{X:Cx}{pins:List (Addr×Obj)}{σ:St}{H:Hp}{s:Shared}{a:Addr}{y:V}{o:Option V}(I:Inv X pins σ H s)(g:DGet H a y o):s.TypeIs (.ref a) "dict":=by
 rcases g with⟨kvs,k,e,_,_⟩ | ⟨kvs,k,b,e,_,_,_⟩
 ·obtain⟨_,_,vs,_,dd⟩:=dk_rd I.hok e
  exact dd.typeIs
 ·obtain⟨_,_,xs,_,dd⟩:=dt_rd I.hok e
  exact dd.typeIs
def tDGet(td ty:TE):TE:=fun σ H Q=>td σ H fun x H1=>ty σ H1 fun y H2=>∃a v,x=.ref a∧DGet H2 a y (some v)∧Q v H2
def tDIn(ty td:TE):TE:=fun σ H Q=>ty σ H fun y H1=>td σ H1 fun x H2=>∃a o,x=.ref a∧DGet H2 a y o∧Q (.bl o.isSome) H2
def tDNotIn(ty td:TE):TE:=fun σ H Q=>ty σ H fun y H1=>td σ H1 fun x H2=>∃a o,x=.ref a∧DGet H2 a y o∧Q (.bl (!o.isSome)) H2
def sDPut(td ty tv:TE):TS:=fun D σ H=>tv σ H fun v H1=>td σ H1 fun x H2=>ty σ H2 fun y H3=>∃a H4,x=.ref a∧DPut H3 a y v H4∧D.nx σ H4
section
variable {X:Cx}{o i e value:Expr}{pos pos' tpos:Pos}{td ty tv:TE}
theorem pe_dget(hu:X.A.units+1<cLine)(ho:PE X o td)(hi:PE X i ty)(hs:NoSl i):PE X (.Subscript o i pos) (tDGet td ty):=by
 intro pins s σ H Q I h
 refine subD_of PySem.F.slot_dict_getitem.lookup hs (thn (ho pins s σ H _ I h) fun u s1 ⟨x,H1,I1,rx,q1⟩=>thn (hi pins s1 σ H1 _ I1 q1) fun iv s2 ⟨y,H2,I2,ry,a,v,ex,g,q2⟩=>?_)
 subst ex
 obtain rfl:u=Value.ref a:=rx
 exact⟨dict_typeIs I2 g,d_getItem hu I2 g ry fun w' s3 I3 rw'=>⟨v,H2,I3,rw',q2⟩⟩
theorem pc_din(hu:X.A.units+1<cLine)(hi:PE X i ty)(ho:PE X o td):PC X .In i o (tDIn ty td):=by
 intro pins s σ H Q I h
 refine thn (hi pins s σ H _ I h) fun iv s1 ⟨y,H1,I1,ry,q1⟩=>thn (ho pins s1 σ H1 _ I1 q1) fun u s2 ⟨x,H2,I2,rx,a,ov,ex,g,q2⟩=>?_
 subst ex
 obtain rfl:u=Value.ref a:=rx
 exact d_in hu I2 g ry fun s3 I3=>⟨.bl ov.isSome,H2,I3,rfl,q2⟩
theorem pc_dnotin(hu:X.A.units+1<cLine)(hi:PE X i ty)(ho:PE X o td):PC X .NotIn i o (tDNotIn ty td):=by
 intro pins s σ H Q I h
 refine thn (hi pins s σ H _ I h) fun iv s1 ⟨y,H1,I1,ry,q1⟩=>thn (ho pins s1 σ H1 _ I1 q1) fun u s2 ⟨x,H2,I2,rx,a,ov,ex,g,q2⟩=>?_
 subst ex
 obtain rfl:u=Value.ref a:=rx
 exact d_notIn hu I2 g ry fun s3 I3=>⟨.bl (!ov.isSome),H2,I3,rfl,q2⟩
theorem ps_dput(hu:X.A.units+1<cLine)(ho:PE X o td)(hi:PE X i ty)(hv:PE X value tv)(hs:swapsWith value (some (.Subscript o i pos')) pos.line X.env=pure false):
  PS X (.Assign [.Subscript o i pos'] value pos) (sDPut td ty tv):=by
 intro pins s σ H D I h
 refine wpAny_Assign_Subscript (thn (hv pins s σ H _ I h) fun r s1 ⟨v,H1,I1,rv,q1⟩=>thn (ho pins s1 σ H1 _ I1 q1) fun u s2 ⟨x,H2,I2,rx,q2⟩=>thn (hi pins s2 σ H2 _ I2 q2) fun iv s3 ⟨y,H3,I3,ry,a,H4,ex,g,q3⟩=>?_) hs
 subst ex
 obtain rfl:u=Value.ref a:=rx
 exact d_setItem hu I3 g ry rv fun s4 I4=>⟨σ,H4,I4,q3⟩
end
theorem dt_empty{P:Program}{w:World}{H:Hp}(h:Heap)(hb:sysModules<h.objs.size):ObjOk P w H (h.push { cls:=.type "dict",data:=.dict #[] }) h.objs.size (.dT []):=
 ⟨Nat.zero_le _,beq_eq_false_iff_ne.mpr (Ne.symm (Nat.ne_of_lt hb)),[],.nil,_,#[],0,Heap.get?_push_size _ rfl,⟨rfl,rfl,rfl⟩,rfl,rfl,List.nodup_nil⟩
def tDNewT:TE:=fun _ H Q=>∀p,H p=none→Q (.ref p) (upd H p (.dT []))
section
variable {X:Cx}{pos:Pos}
theorem pe_dnewT:PE X (.Dict [] [] pos) tDNewT:=fun pins s σ H Q I h=>
 wpAny_Dict_empty ⟨.ref s.heap.objs.size,_,I.laid (a:=s.heap.objs.size) (o:=.dT []) (t':=s.toks) (fun _ _ q=>Heap.get?_push_of_some _ q) (Nat.le_refl _) (dt_empty s.heap I.big),rfl,h _ (I.hok.fresh (Nat.le_refl _))⟩
end
structure M2 (X:Cx) (o:Expr) (m:Str) (apos:Pos) (e f:Expr) (cpos:Pos):Prop where
 base:attributeBase o m X.env (eval o X.env)=eval o X.env
 few:((backTo cpos (starEach [e,f] X.env)).all (fun x=>!x.1)&&(backToKw cpos (keywordEach [] X.env)).all (fun x=>x.1.isSome)
  &&decide (([e,f]:List Expr).length + ([]:List Keyword).length + (if([]:List Keyword).isEmpty then 0 else 1) <30))=true
 line:(apos.endLine==cpos.line)=true
 trees:backTo cpos (starEach [e,f] X.env)=[(false,eval e X.env),(false,eval f X.env)]
def IsD(H:Hp)(a:Addr):Prop:=(∃kvs,Rd H a (.dK kvs))∨∃kvs,Rd H a (.dT kvs)
theorem isD_at{X:Cx}{pins:List (Addr×Obj)}{σ:St}{H:Hp}{s:Shared}{a:Addr}(I:Inv X pins σ H s)(d:IsD H a):
  s.TypeIs (.ref a) "dict"∧(∀b,Value.ref a=.ref b→∃ob,s.heap.get? b=some ob∧ob.dict=none)∧(a==sysModules)=false:=by
 rcases d with⟨kvs,e⟩ | ⟨kvs,e⟩
 ·obtain⟨_,hd,vs,_,dd⟩:=dk_rd I.hok e
  refine⟨dd.typeIs,fun b q=>?_,hd⟩
  cases q
  obtain⟨ob,_,_,h1,h2,_⟩:=dd
  exact⟨ob,h1,h2.2.1⟩
 ·obtain⟨_,hd,xs,_,dd⟩:=dt_rd I.hok e
  refine⟨dd.typeIs,fun b q=>?_,hd⟩
  cases q
  obtain⟨ob,_,_,h1,h2,_⟩:=dd
  exact⟨ob,h1,h2.2.1⟩
section
variable {X:Cx}{pins:List (Addr×Obj)}{σ:St}{H:Hp}{s:Shared}{a:Addr}{y d:V}{u r:Value}{o:Option V}{A:Around}{E:Value→Shared→Prop}
end
section
variable {X:Cx}{o e f:Expr}{apos cpos:Pos}{td ty tx:TE}
end
section
variable {X:Cx}{pins:List (Addr×Obj)}{σ:St}{H:Hp}{s:Shared}{a:Addr}{kvs:List (Key×V)}{A:Around}{E:Value→Shared→Prop}
end
section
variable {X:Cx}{pins:List (Addr×Obj)}{σ:St}{H:Hp}{s:Shared}{a:Addr}{y:V}{u:Value}{A:Around}{E:Value→Shared→Prop}
end
end L2
namespace L2
open PySem PySem.Spec PyProof.Rows
section
variable {prog:Program}{w:World}{A:Around}{E:Value→Shared→Prop}
end
section
variable {X:Cx}
theorem refs_at:∀{ps:List Addr} {us:List Value},Vals (ps.map V.ref) us→us=ps.map Value.ref
 |[],us,r=>by
  rw[List.map_nil]at r
  cases r
  rfl
 |p::ps,us,r=>by
  rw[List.map_cons]at r
  cases r with
  |cons h t=>
   cases h
   rw[List.map_cons,←refs_at t]
end
end L2
namespace L2
open PySem PySem.Spec PyProof.Rows
theorem boot_reversed5:bootBuiltins "reversed"=some (.type "reversed"):=by decide +kernel
section
variable {X:Cx}{pins:List (Addr×Obj)}{σ:St}{H:Hp}{s:Shared}{h':Heap}
theorem Inv.turnedNew{t':Nat}{ch:List Addr}{T:Addr}{ob:HO}(I:Inv X pins σ H s)(k:∀b o,b∉ch→s.heap.get? b=some o→h'.get? b=some o)(hf:∀b∈ch,FpOk X pins H b)(hT:s.heap.objs.size≤T)
  (new:ObjOk X.prog X.w (upd H T ob) h' T ob):Inv X pins σ (upd H T ob) { s with heap:=h',toks:=t' }:=by
 have hn:H T=none:=I.hok.fresh hT
 have nit:∀b u,H b=some u→b∉ch:=fun b u e z=>by
  have q:=(hf b z).1
  rw[q]at e;cases e
 refine I.step (g':=s.gens) (d':=s.drawn) (ch:=ch) (fun b hb=>⟨(hf b hb).2.2.2.1,(hf b hb).2.1,(hf b hb).2.2.2.2.1,(hf b hb).2.2.2.2.2⟩) (fun b o _ _ hc e _=>k b o hc e) (fun b o _ _ hc e _=>⟨o.slots,k b o hc e⟩)
  (fun b o _ e n=>?_) (fun b o hc e=>⟨o,k b o hc e⟩) (fun b xs e=>?_) (fun b o u e=>?_) (fun b ps e=>⟨#[],?_⟩) (fun m hm=>?_) (fun b u e=>?_) I.bare
 ·rw[zF (Nat.ne_of_lt (Nat.lt_of_lt_of_le (Heap.lt_size e) hT))];exact n
 ·rw[zF (zH e hn)];exact e
 ·rw[zF (zH e hn)];exact e
 ·rw[zF (zH e hn),e];simp
 ·obtain⟨o,es,ep,ho,r⟩:=hm
  exact⟨o,es,ep,k _ o (fun z=>(hf _ z).2.1 rfl) ho,r⟩
 ·by_cases hb:b=T
  ·subst hb
   rw[zB]at e
   cases e
   exact new
  ·rw[zF hb]at e
   refine(I.hok b u e).stay (fun c v hc q=>k c v ?_ q) (fun c q=>by rw[zF (zH q hn)];exact q) fun c xs q=>by rw[zF (zH q hn)];exact q
   rcases hc with z | z
   ·rw[z];exact nit b u e
   ·exact nit c _ z
end
section
variable {X:Cx}
theorem pi_one{tg:Expr}{pins:List (Addr×Obj)}{σ:St}{H:Hp}{s:Shared}{R:It→Hp→Prop}{J:It}{tn:Nat→Heap→Prop}{tk:Nat}(I:Inv X pins σ H s)(o:Obj)
  (T:Turn X.prog X.w X.K tg J [s.heap.objs.size] s.heap.objs.size tn)(st:tn 0 (s.heap.push o))(q:R J H):PIE X pins σ tg R (.ref s.heap.objs.size) { s with heap:=s.heap.push o,toks:=tk }:=by
 refine⟨s.heap.objs.size,[s.heap.objs.size],tn,J,H,rfl,I.kept fun b ob e=>Heap.get?_push_of_some _ e,T,st,fun b hb=>?_,q⟩
 have e:b=s.heap.objs.size:=by simpa using hb
 subst e
 exact I.fpOk (Nat.le_refl _) (I.hok.fresh (Nat.le_refl _))
end
section
variable {X:Cx}{tg:Expr}
end
def Itv(K:PySem.W.Frag)(a:Addr)(n:Nat):It:=
 ⟨fun i H=>i<n∧∃(xs:List V) (x:V),SqL K H a xs∧xs[n-1-i]? =some x,fun i H x H'=>H'=H∧∀xs,SqL K H a xs→xs[n-1-i]? =some x,fun i _=>n≤i⟩
theorem turn_rev{P:Program}{w:World}{K:PySem.W.Frag}{tg:Expr}(a it:Addr)(n:Nat):Turn P w K tg (Itv K a n) [it] it (fun i h=>i≤n∧h.IsRevIter it a ((n:Int) -1- (i:Nat))) where
 mem:=by simp
 obj:=fun i h st b hb=>by
  have e:b=it:=by simpa using hb
  subst e
  obtain⟨_,o,e,c,d⟩:=st
  exact⟨o,e,fun v z=>by rw[d]at z;cases z⟩
 keep:=fun i h h' st k=>⟨st.1,st.2.at fun o e=>k it (by simp) o e⟩
 item:=by
  intro X hP hw hK hc i pins s σ H E I hf st hg
  subst hP hw hK
  obtain⟨hin,xs,x,hq,hx⟩:=hg
  obtain⟨its,rv,p,hz⟩:=I.list hq
  obtain⟨u,hu,ru⟩:=rv.get hx
  obtain⟨f0,f1,f2,f3,f4,f5⟩:=hf it (by simp)
  obtain⟨_,hit⟩:=st
  have e1:(n:Int) -1- ((i:Nat):Int)=((n-1-i:Nat):Int):=by omega
  rw[e1]at hit
  refine wpAny_pyNext_rev_item hit p.isList (x:=u) (by simpa using hu) fun h' st' sb=>?_
  have e2:((n-1-i:Nat):Int) -1=(n:Int) -1- ((i+1:Nat):Int):=by omega
  rw[e2]at st'
  have I1:Inv X pins σ H { s with heap:=h' }:=I.turned (t':=s.toks) (fun b o hb e=>(sb.2 b hb).trans e) f0 f1 f3 f4 f5
  obtain⟨o,e,c,d⟩:=id st'
  exact⟨u,rfl,go_of (s:={ s with heap:=h' }) e c d (by decide) ⟨x,H,I1,ru,⟨rfl,fun ys hy=>by rw[I.list_inj hy hq];exact hx⟩,⟨hin,st'⟩,fun b hb=>(hf b hb).1⟩⟩
 done:=by
  intro X hP hw hK hc i pins s σ H E I hf st hg
  subst hP hw hK
  obtain⟨f0,f1,f2,f3,f4,f5⟩:=hf it (by simp)
  obtain⟨hin,hit⟩:=st
  have hge:n≤i:=hg
  have e1:(n:Int) -1- ((i:Nat):Int)= -1:=by omega
  rw[e1]at hit
  exact wpAny_pyNext_rev_end (I.ok.hd hc) hit fun h' eb=>⟨rfl,I.turned (t':=s.toks) (fun b o hb e=>eb b o hb e) f0 f1 f3 f4 f5⟩
 self:=fun A i s Q E st h=>wpAny_pyIter_revIter st.2 h
def iRev(K:PySem.W.Frag)(ta:TA):TI:=fun σ H R=>ta σ H fun vs H1=>∃(a:Addr) (xs:List V),vs=[.ref a]∧SqL K H1 a xs∧R (Itv K a xs.length) H1
section
variable {X:Cx}{tg:Expr}
theorem pi_reversed{e:Expr}{ta:TA}{p pos:Pos}(hg:Gl X "reversed")(hm:X.mg "reversed"=none)(ha:PA X [e] ta)(hs:starEach [e] X.env=[(false,eval e X.env)]:=by rfl):PI X tg (.Call (.Name "reversed" p) [e] [] pos) (iRev X.K ta):=by
 intro pins s σ H R I h
 refine Call_ (ld_blt I hg hm boot_reversed5 (PyProof.Rows.callWith_type1 (thn (ha pos pins s σ H _ I h) fun us s1 ⟨vs,H1,I1,r1,q1⟩=>?_) hs rfl))
 obtain⟨a,xs,e,hq,q⟩:=q1
 subst e
 cases r1 with
 |cons r rr=>
  cases rr
  cases r
  obtain⟨its,rv,p',hz⟩:=I1.list hq
  have hl:=rv.length
  have e1:((its.toArray.size:Nat):Int) -1=(xs.length:Int) -1- ((0:Nat):Int):=by simp only[List.size_toArray];omega
  refine call_reversed_list p'.isList (wpAny_pyIter_revIter (l:=a) (i:=((its.toArray.size:Nat):Int) -1) ⟨_,Heap.get?_push_size _ rfl,rfl,rfl⟩ ?_)
  refine pi_one (tk:=s1.toks) I1 _ (turn_rev a _ xs.length) ⟨Nat.zero_le _,?_⟩ q
  rw[←e1]
  exact⟨_,Heap.get?_push_size _ rfl,rfl,rfl⟩
end
section
variable {prog:Program}{w:World}{A:Around}{E:Value→Shared→Prop}{s:Shared}
end
section
variable {X:Cx}{pins:List (Addr×Obj)}{σ:St}{H:Hp}{s:Shared}{d:Addr}{o:Obj}
end
section
variable {P:Program}{w:World}{K:PySem.W.Frag}{tg:Expr}{d:Addr}{o:Obj}{es:Array DictEntry}{ep:Nat}
end
section
variable {X:Cx}{tg e:Expr}{td:TE}{apos cpos:Pos}
end
def Ite(K:PySem.W.Frag)(a:Addr):It:=
 ⟨fun i H=>∃(xs:List V) (x:V),SqL K H a xs∧xs[i]? =some x,fun i H v H'=>∃T x,v=.ref T∧H T=none∧H'=upd H T (.tup [.int (i:Nat),x])∧∀xs,SqL K H a xs→xs[i]? =some x,fun i H=>∃xs:List V,SqL K H a xs∧xs.length≤i⟩
theorem turn_enum{P:Program}{w:World}{K:PySem.W.Frag}{elts:List Expr}{kk:Nat}{tpos:Pos}(a e it:Addr):
  Turn P w K (.Tuple elts kk tpos) (Ite K a) [e,it] e (fun i h=>(∃old,IsEnum h e it ((i:Nat):Int) old)∧h.IsListIter it a i∧e≠it) where
 mem:=by simp
 obj:=fun i h st b hb=>by
  obtain⟨⟨old,he⟩,⟨o,ho,hc,hd⟩,_⟩:=st
  have e':b=e∨b=it:=by simpa using hb
  rcases e' with z | z
  ·rw[z];exact⟨_,he,fun v q=>nomatch q⟩
  ·rw[z];exact⟨o,ho,fun v q=>by rw[hd]at q;cases q⟩
 keep:=fun i h h' st k=>let ⟨⟨old,he⟩,hi,hne⟩:=st;⟨⟨old,k e (by simp) _ he⟩,hi.at fun o q=>k it (by simp) o q,hne⟩
 item:=by
  intro X hP hw hK hc i pins s σ H E I hf st hg
  subst hP hw hK
  obtain⟨⟨old,he⟩,hit,hne⟩:=st
  obtain⟨xs,x,hq,hx⟩:=hg
  obtain⟨its,rv,p,hz⟩:=I.list hq
  obtain⟨u,hu,ru⟩:=rv.get hx
  have hel:e<s.heap.objs.size:=Heap.lt_size he
  have hil:it<s.heap.objs.size:=by obtain⟨_,q,_⟩:=hit;exact Heap.lt_size q
  refine wpAny_pyNext_enum_item he hit p.isList (x:=u) (by simpa using hu) hne fun h' ho hit' hT hsz hk=>?_
  refine⟨_,rfl,wpAny_letOwnedTupleGo_enum (s:={ s with heap:=h',toks:=s.toks+1 }) ho fun h'' he' sb=>?_⟩
  have hT2:h''.get? s.heap.objs.size=some { cls:=.type "tuple",data:=.seq #[.int i s.toks,u] }:=(sb.2 _ (Nat.ne_of_gt hel)).trans hT
  have new:ObjOk X.prog X.w (upd H s.heap.objs.size (.tup [.int (i:Nat),x])) h'' s.heap.objs.size (.tup [.int (i:Nat),x]):=
   ⟨by show 2≤sizeLine;decide,[.int i s.toks,u],.cons ⟨_,rfl⟩ (.cons ru .nil),⟨_,hT2,rfl,_,rfl⟩⟩
  have I1:Inv X pins σ (upd H s.heap.objs.size (.tup [.int (i:Nat),x])) { s with heap:=h'',toks:=s.toks+1 }:=
   I.turnedNew (ch:=[e,it]) (fun b ob hb q=>(sb.2 b (fun z=>hb (by simp[z]))).trans (hk b ob (fun z=>hb (by simp[z])) (fun z=>hb (by simp[z])) q)) hf (Nat.le_refl _) new
  refine⟨.ref s.heap.objs.size,_,I1,rfl,⟨_,x,rfl,I.hok.fresh (Nat.le_refl _),rfl,fun ys hy=>by rw[I.list_inj hy hq];exact hx⟩,⟨⟨u,?_⟩,hit'.at fun o q=>(sb.2 it (Ne.symm hne)).trans q,hne⟩,fun b hb=>?_⟩
  ·have e1:((i+1:Nat):Int)=(i:Int) +1:=by omega
   rw[e1];exact he'
  ·have hb':b<s.heap.objs.size:=by
    have e':b=e∨b=it:=by simpa using hb
    rcases e' with z | z
    ·rw[z];exact hel
    ·rw[z];exact hil
   rw[zF (Nat.ne_of_lt hb')]
   exact(hf b hb).1
 done:=by
  intro X hP hw hK hc i pins s σ H E I hf st hg
  subst hP hw hK
  obtain⟨⟨old,he⟩,hit,hne⟩:=st
  obtain⟨xs,hq,hx⟩:=hg
  obtain⟨its,rv,p,hz⟩:=I.list hq
  obtain⟨f0,f1,f2,f3,f4,f5⟩:=hf it (by simp)
  have hl:=rv.length
  exact wpAny_pyNext_enum_end (I.ok.hd hc) he hit p.isList (by simp;omega) fun h' eb=>⟨rfl,I.turned (t':=s.toks) (fun b o hb q=>eb b o hb q) f0 f1 f3 f4 f5⟩
 self:=fun A i s Q E st h=>let ⟨⟨_,he⟩,_⟩:=st;wpAny_pyIter_enum he h
def iEnum(K:PySem.W.Frag)(ta:TA):TI:=fun σ H R=>ta σ H fun vs H1=>∃a xs,vs=[.ref a]∧SqL K H1 a xs∧R (Ite K a) H1
theorem pi_enum{X:Cx}{e:Expr}{ta:TA}{p pos tpos:Pos}{elts:List Expr}{kk:Nat}(hg:Gl X "enumerate")(hm:X.mg "enumerate"=none)(ha:PA X [e] ta)(hs:starEach [e] X.env=[(false,eval e X.env)]:=by rfl):
  PI X (.Tuple elts kk tpos) (.Call (.Name "enumerate" p) [e] [] pos) (iEnum X.K ta):=by
 intro pins s σ H R I h
 refine Call_ (ld_blt I hg hm boot_enumerate (PyProof.Rows.callWith_type1 (thn (ha pos pins s σ H _ I h) fun us s1 ⟨vs,H1,I1,r1,q1⟩=>?_) hs rfl))
 obtain⟨a,xs,ex,hq,q⟩:=q1
 subst ex
 cases r1 with
 |cons r rr=>
  cases rr
  cases r
  obtain⟨its,rv,p',hz⟩:=I1.list hq
  refine call_enumerate_list p'.isList fun h' he hit hsz hk=>wpAny_pyIter_enum he ?_
  have I2:Inv X pins σ H1 { s1 with heap:=h' }:=I1.kept (t':=s1.toks) hk
  refine⟨s1.heap.objs.size+1,[s1.heap.objs.size+1,s1.heap.objs.size],_,_,H1,rfl,I2,turn_enum a (s1.heap.objs.size+1) s1.heap.objs.size,⟨⟨.none,he⟩,hit,Nat.succ_ne_self _⟩,fun b hb=>?_,q⟩
  have e':b=s1.heap.objs.size+1∨b=s1.heap.objs.size:=by simpa using hb
  have hle:s1.heap.objs.size≤b:=by
   rcases e' with z | z
   ·rw[z];exact Nat.le_add_right _ _
   ·rw[z];exact Nat.le_refl _
  exact I1.fpOk hle (I1.hok.fresh hle)
end L2
section
namespace Bits
open PySem PyProof.Rows
end Bits
end
section
namespace TL
open PySem PySem.Builtin PySem.Builtin.Str PySem.StrLaws
end TL
end
namespace L2
open PySem PySem.Spec PyProof.Rows
section
variable {X:Cx}{pins:List (Addr×Obj)}{σ:St}{H:Hp}{s:Shared}{Q:VK}
end
section
variable {X:Cx}
end
section
variable {X:Cx}{o e:Expr}{to te:TE}
end
end L2
namespace L2
open PySem PySem.Spec PyProof.Rows
section
variable {X:Cx}
end
end L2
namespace Att
open PySem PySem.W PySem.Calls PyProof.Rows
theorem ints_of_wellAll{P:Params}{h:Heap}:∀(ns:List Int) (vs:List Value),WellAll P h vs (ns.map WData.int)→IntsAre vs ns:=by
 intro ns
 induction ns with
 |nil=>
  intro vs w
  rw[List.map_nil]at w
  cases w
  exact .nil
 |cons n ns ih=>
  intro vs w
  rw[List.map_cons]at w
  cases w with
  |cons a b=>
   cases a
   exact .cons _ _ (ih _ b)
section
variable {prog:Program}{w:World}{A:Around}{E:Value→Shared→Prop}{s:Shared}{K:Frag}
end
end Att
namespace L2
open PySem PySem.Spec PyProof.Rows
theorem vals_ints:∀{vs:List Value} {ns:List Int},IntsAre vs ns→Vals (ns.map V.int) vs
 |_,_,.nil=>.nil
 |_,_,.cons n t h=>.cons ⟨t,rfl⟩ (vals_ints h)
end L2
namespace L2
open PySem PySem.Spec PyProof.Rows
abbrev KOf{K:PySem.W.Frag}{h:Heap}(_:K.In h):PySem.W.Frag:=K
end L2
namespace L2
open PySem PySem.Spec PyProof.Rows
def inClass(s:Stmt)(j:Nat):Stmt:=match s with
 |.ClassDef _ _ _ body _ _ _ _ _ _ _=>body.getD j (.Pass ⟨0,0,0,0⟩)
 |_=>.Pass ⟨0,0,0,0⟩
def defArgs(s:Stmt):Arguments:=match s with
 |.FunctionDef _ a _ _ _ _ _ _ _ _=>a
 |_=>{ posonlyargs:=[],args:=[],vararg:=none,kwonlyargs:=[],kw_defaults:=[],kwarg:=none,defaults:=[] }
def defBody(s:Stmt):List Stmt:=match s with
 |.FunctionDef _ _ b _ _ _ _ _ _ _=>b
 |_=>[]
def defScope(s:Stmt):Scope:=match s with
 |.FunctionDef _ _ _ _ _ _ sc _ _ _=>sc
 |_=>{ kind:=.function,names:=[],isGenerator:=false,isCoroutine:=false }
abbrev CX0:CXT:=fun _ _ _ _ _ _=>False
abbrev E0:XK:=fun _ _ _=>False
theorem pass0{X:Cx}:Passes CX0 X E0:=fun _ _ _ _ _ _ _ h=>h.elim
structure Fun (K:PySem.W.Frag) (x qual:Str) (st:Stmt) (f:Addr) (fd:FuncData):Prop where
 ex:∃(oc:Value) (od:Option Addr) (kV doc pm:Value) (an:Option Addr) (cdv ct:Value) (osl:Array (Option Value)),
  fd=PySem.W.fnOf x qual (defArgs st) (defBody st) (defScope st) .none kV doc pm an cdv ct∧K.lookup f=some ⟨oc,od,.func fd,osl⟩∧PySem.W.codeIn K cdv qual=true
 kp:PySem.W.keepIn K (.ref f)=true
section
variable {P:Program}{w:World}{K:PySem.W.Frag}{mg:Str→Option Value}{base:Heap}
theorem Fun.ok{x qual:Str}{st:Stmt}{f:Addr}{fd:FuncData}{N ps:List Str}{k:Nat}{sp:Sp}(F:Fun K x qual st f fd)(S:FnScope N ps (defScope st))(len:∀vs H Q E,sp vs H Q E→vs.length=ps.length)
  (hbody:∀(cdv:Value) (A:Around) (outer:List Env) (s:Shared) (H:Hp) (vs:List V) (Q:VK) (E:XK),Room k (A.deeper (envOfC qual (defScope st) s.heap.objs.size f cdv))→sp vs H Q E→
   ∃t,PSs (cxOf CX0 P w K mg base N qual (defScope st) f cdv A outer s H E).nox (defBody st) t∧t { nx:=fun _ H'=>Q .non H',rt:=Q } (start N vs) H):FnOk P w K mg base CX0 (k+1) f fd ps sp:=by
 obtain⟨oc,od,kV,doc,pm,an,cdv,ct,osl,rfl,lk,hcd⟩:=F.ex
 refine fn_of lk hcd S len fun A outer s H vs Q E hr hsp=>?_
 obtain⟨t,h,q⟩:=hbody cdv A outer s H vs Q E hr hsp
 exact⟨t,h.nox,q⟩
theorem Fun.binds{x qual:Str}{st:Stmt}{f:Addr}{fd:FuncData}{ps:List Str}(F:Fun K x qual st f fd)
  (h:∀(kV doc pm:Value) (an:Option Addr) (cdv ct:Value) (us:List Value),us.length=ps.length→bindArgs (PySem.W.fnOf x qual (defArgs st) (defBody st) (defScope st) .none kV doc pm an cdv ct) ⟨us,[]⟩=pure (ps.zip us)):Binds K fd ps []:=by
 obtain⟨oc,od,kV,doc,pm,an,cdv,ct,osl,rfl,lk,hcd⟩:=F.ex
 exact .all (h kV doc pm an cdv ct)
theorem fun_mk{x qual:Str}{st:Stmt}{f:Addr}{oc:Value}{od an:Option Addr}{osl:Array (Option Value)}{kV doc pm cdv ct:Value}(l:K.lookup f=some ⟨oc,od,.func (PySem.W.fnOf x qual (defArgs st) (defBody st) (defScope st) .none kV doc pm an cdv ct),osl⟩)
  (c:PySem.W.codeIn K cdv qual=true)(k:PySem.W.keepIn K (.ref f)=true):Fun K x qual st f (PySem.W.fnOf x qual (defArgs st) (defBody st) (defScope st) .none kV doc pm an cdv ct):=⟨⟨oc,od,kV,doc,pm,an,cdv,ct,osl,rfl,l,c⟩,k⟩
end
theorem hu_of{A:Around}{k:Nat}(hr:Room k A):A.units+1<cLine:=Nat.lt_of_le_of_lt (Nat.add_le_add_left (by decide:1≤64) _) hr.units
section
variable {X:Cx}
theorem pv(i:Nat){x:Str}{pos:Pos}(hN:X.N[i]? =some x:=by rfl)(hv:Vis X.env.scope x:=by first | exact Or.inl rfl | exact Or.inr (Or.inl rfl) | exact Or.inr (Or.inr rfl))(hd:(x==("__debug__":Str))=false:=by decide)
  (hcd:(x==("__classdict__":Str))=false:=by decide):PE X (.Name x pos) (tVar i):=pe_var hN hv hd hcd
end
theorem iteF{A B:Prop}(h:B):if false=true then A else B:=by
 rw[if_neg Bool.false_ne_true]
 exact h
theorem iteT{A B:Prop}(h:A):if true=true then A else B:=by
 rw[if_pos rfl]
 exact h
theorem ite2{c A B:Prop} [Decidable c](h1:c→A)(h2:¬c→B):if c then A else B:=by
 by_cases h:c
 ·rw[if_pos h]
  exact h1 h
 ·rw[if_neg h]
  exact h2 h
def Same(H H':Hp):Prop:=∀b o,H b=some o→H' b=some o
theorem Same.refl(H:Hp):Same H H:=fun _ _ h=>h
theorem Same.trans{H H1 H2:Hp}(a:Same H H1)(b:Same H1 H2):Same H H2:=fun c o h=>b c o (a c o h)
theorem Same.free{H H':Hp}(e:Same H H'){l:Addr}(h:H' l=Option.none):H l=Option.none:=by
 cases q:H l with
 |none=>rfl
 |some o=>
  rw[e l o q]at h
  cases h
theorem Same.seq{K:PySem.W.Frag}{H H':Hp}{a:Addr}{xs:List V}(e:Same H H')(h:SqL K H a xs):SqL K H' a xs:=by
 rcases h with(h | ⟨o,h⟩) | h
 ·exact .inl (.inl (e _ _ h))
 ·exact .inl (.inr ⟨o,e _ _ h⟩)
 ·exact .inr h
section
variable {κ:Type} [DecidableEq κ]
end
theorem Same.made{H H1:Hp}{x dx C:Addr}(nx:H x=Option.none)(nd:H dx=Option.none)(k:∀b o,(upd (upd H dx (.own x)) x (.ins C dx [])) b=some o→b≠x→H1 b=some o):Same H H1:=fun b o e=>
 k b o (by rw[zF (zH e nx),zF (zH e nd)];exact e) (zH e nx)
end L2
namespace L2
open PySem PySem.Spec PyProof.Rows
section
variable {X:Cx}
def rSumT(K:PySem.W.Frag):List V→Hp→VK→Prop:=fun vs H Q=>∃(a:Addr) (ns:List Int),vs=[V.ref a]∧SqT K H a (ns.map V.int)∧Q (.int ns.sum) H
theorem cr_sumT(hc:X.calm=true):CallR X (.builtin "sum") (rSumT X.K):=by
 intro pins s σ H vs us Q I r h
 obtain⟨a,ns,rfl,hs,q⟩:=h
 obtain⟨its,rv,hl,_⟩:=I.tuple hs
 rw[Vals.ref1 r]
 have hi:=rv.ints
 obtain⟨xs,e⟩:=hi.allInts.items
 have hn:numsOf (intItems xs).toList=ns:=by rw[←e];exact hi.numsOf
 rw[nums_intItems]at hn
 have hl':s.heap.IsTuple a (intItems xs):=by
  rw[←e]
  obtain⟨o,h1,h2,n,h3⟩:=hl
  exact⟨o,h1,h2,n,h3⟩
 refine PySem.W.ktm_sumG (I.ok.hd hc) hl' fun h' tk t' hk=>?_
 rw[preSum_eq,List.take_of_length_le (by simp),hn]
 exact⟨.int _,H,I.kept hk,⟨_,rfl⟩,q⟩
end
theorem for_rev{K:PySem.W.Frag}{a:Addr}{xs:List V}{g:TG}{tb:TS}{D:Ends}{σ:St}{H:Hp}(Pv:Nat→St→Hp→Prop)(h0:Pv 0 σ H)(hl:∀i σ H,i≤xs.length→Pv i σ H→SqL K H a xs)
  (hs:∀i x σ H,xs.reverse[i]? =some x→Pv i σ H→g x σ H fun σ2 H2=>tb { D with nx:=Pv (i+1),ct:=Pv (i+1),bk:=D.nx } σ2 H2)(hd:∀σ H,Pv xs.length σ H→D.nx σ H):
  ∃W:Nat→Nat→St→Hp→Prop,(∃m,W 0 m σ H)∧∀i m σ H,W i m σ H→
   ((Itv K a xs.length).stop i H∧D.nx σ H)∨((Itv K a xs.length).go i H∧∃N:St→Hp→Prop,(∀σ' H',N σ' H'→∃m',m'<m∧W (i+1) m' σ' H')∧∀x H',(Itv K a xs.length).yld i H x H'→g x σ H' fun σ2 H2=>tb { D with nx:=N,ct:=N,bk:=D.nx } σ2 H2):=by
 refine⟨fun i m σ H=>m=xs.length-i∧i≤xs.length∧Pv i σ H,⟨xs.length,by simp,Nat.zero_le _,h0⟩,?_⟩
 rintro i m σ H ⟨rfl,hi,p⟩
 have q:=hl i σ H hi p
 by_cases hlt:i<xs.length
 ·have e0:xs[xs.length-1-i]? =some xs[xs.length-1-i]:=List.getElem?_eq_getElem (by omega)
  refine .inr ⟨⟨hlt,xs,_,q,e0⟩,Pv (i+1),fun σ' H' p'=>⟨xs.length- (i+1),by omega,rfl,hlt,p'⟩,fun x H' y=>?_⟩
  obtain⟨e,y⟩:=y
  subst e
  refine hs i x σ _ ?_ p
  rw[List.getElem?_reverse hlt]
  exact y xs q
 ·have e:i=xs.length:=by omega
  subst e
  exact .inl ⟨Nat.le_refl _,hd σ H p⟩
theorem Same.upd'{H H':Hp}{a:Addr}{o:HO}(s:Same H H')(h:H a=none):Same H (upd H' a o):=fun b u e=>by
 rw[zF (zH e h)];exact s b u e
theorem cut_from'(xs:List V)(k:Nat):cutV xs (some (k:Int)) none=xs.drop k:=by
 unfold cutV
 rw[HT.sIx_none,HT.sIx_nat]
 by_cases h:k≤xs.length
 ·rw[Nat.min_eq_left h,List.take_of_length_le (by rw[List.length_drop];omega)]
 ·rw[Nat.min_eq_right (by omega),List.drop_of_length_le (Nat.le_refl _),List.drop_of_length_le (by omega)]
  simp
theorem cut_mid'(xs:List V)(i j:Nat):cutV xs (some (i:Int)) (some (j:Int))=(xs.drop i).take (j-i):=by
 unfold cutV
 rw[HT.sIx_nat,HT.sIx_nat]
 by_cases hj:j≤xs.length
 ·rw[Nat.min_eq_left hj]
  by_cases hi:i≤xs.length
  ·rw[Nat.min_eq_left hi]
  ·rw[Nat.min_eq_right (by omega),List.drop_of_length_le (Nat.le_refl _),List.drop_of_length_le (by omega:xs.length≤i)];simp
 ·rw[Nat.min_eq_right (by omega:xs.length≤j)]
  by_cases hi:i≤xs.length
  ·rw[Nat.min_eq_left hi,List.take_of_length_le (by rw[List.length_drop];omega),List.take_of_length_le (by rw[List.length_drop];omega)]
  ·rw[Nat.min_eq_right (by omega),List.drop_of_length_le (Nat.le_refl _),List.drop_of_length_le (by omega:xs.length≤i)];simp
theorem decV{i j:Int}:decide (V.int i=V.int j)=decide (i=j):=by
 by_cases h:i=j
 ·subst h;simp
 ·rw[decide_eq_false h,decide_eq_false (fun e=>h (V.int.inj e))]
theorem tYes_if'{σ:St}{H:Hp}{A B:Hp→Prop}(h:A H):tYes σ H fun b H3=>if b=true then A H3 else B H3:=by
 show if true=true then A H else B H
 exact iteT h
theorem zP:300000<sizeLine:=by rw[sizeLine_eq];decide
structure Dn (K:PySem.W.Frag) (mg:Str→Option Value) (x:Str) (st:Stmt) (f:Addr) (fd:FuncData) (ps:List Str):Prop where
 fn:Fun K x x st f fd
 at_:mg x=some (.ref f)
 bd:Binds K fd ps []
end L2
namespace PySem
section
variable {prog:Program}{w:World}{A:Around}{E:Value→Shared→Prop}{s:Shared}
end
end PySem
namespace PySem
section
variable {prog:Program}{w:World}{A:Around}{E:Value→Shared→Prop}{s:Shared}{Z TI TO i1 i2:Addr}{f1 f2:List Addr}{n1 n2 k:Nat}{P1 P2:Nat→Value→Prop}{S1 S2:Nat→Heap→Prop}{a b:Value}
end
end PySem
namespace PySem
open AutoSeq1 (wpAny_loadPart')
end PySem
namespace L2
open PySem PySem.Spec PyProof.Rows
end L2
namespace CkT
open PySem PySem.SetTable
def placeM(m:Nat):Array Nat:=((List.range 8).filter fun j=>m.testBit j).toArray
def cntM(m j:Nat):Nat:=((List.range j).filter fun i=>m.testBit i).length
theorem below_all:∀m,m<256→∀j,j<8→below (placeM m) j=cntM m j∧((placeM m)[cntM m j]? ==some j)=m.testBit j∧
  (m.testBit j=false→insertAt (placeM m) (cntM m j) j=placeM (m+2 ^ j)∧m+2 ^ j<256∧(placeM (m+2 ^ j)).size=(placeM m).size +1∧∀i,i<8→(m+2 ^ j).testBit i=(m.testBit i || decide (i=j))):=by
 decide +kernel
end CkT
namespace CkT
open PySem PySem.SetTable
variable {α:Type}
structure Tab (t:SetTable) (es:Array α) (m:Nat) (cells:List (Option α)):Prop where
 mask:t.mask=7
 place:t.place=placeM m
 dum:t.dummies=#[]
 lt:m<256
 len:cells.length=8
 bit:∀j,j<8→m.testBit j=((cells[j]?).bind id).isSome
 els:es.toList=cells.filterMap id
theorem cnt_succ(m j:Nat):cntM m (j+1)=cntM m j+if m.testBit j=true then 1 else 0:=by
 unfold cntM
 rw[List.range_succ,List.filter_append]
 by_cases h:m.testBit j=true
 ·simp[h]
 ·simp[h]
theorem cnt_take{t:SetTable}{es:Array α}{m:Nat}{cells:List (Option α)}(T:Tab t es m cells):∀j,j≤8→cntM m j=((cells.take j).filterMap id).length
 |0,_=>rfl
 |j+1,h=>by
  rw[cnt_succ,cnt_take T j (by omega)]
  have hl:j<cells.length:=by rw[T.len];omega
  rw[T.bit j (by omega),List.take_succ,List.filterMap_append,List.length_append]
  rw[List.getElem?_eq_getElem hl]
  cases cells[j]with
  |none=>simp
  |some e=>simp
theorem els_split{t:SetTable}{es:Array α}{m:Nat}{cells:List (Option α)}(T:Tab t es m cells)(j:Nat)(h:j≤8):
  es.toList=(cells.take j).filterMap id++(cells.drop j).filterMap id:=by
 rw[T.els,←List.filterMap_append,List.take_append_drop]
theorem at_live{t:SetTable}{es:Array α}{m:Nat}{cells:List (Option α)}(T:Tab t es m cells){j:Nat}{e:α}(hj:j<8)(h:cells[j]? =some (some e)):es[cntM m j]? =some e:=by
 rw[←Array.getElem?_toList,els_split T j (by omega),cnt_take T j (by omega),List.getElem?_append_right (Nat.le_refl _),Nat.sub_self]
 have hl:j<cells.length:=by rw[T.len];exact hj
 rw[List.drop_eq_getElem_cons hl]
 have e1:cells[j]=some e:=by
  rw[List.getElem?_eq_getElem hl]at h
  exact Option.some.inj h
 rw[e1]
 rfl
theorem slot_eq{t:SetTable}{es:Array α}{m:Nat}{cells:List (Option α)}(T:Tab t es m cells){j:Nat}(hj:j<8):t.slot j=if m.testBit j=true then .live (cntM m j)else .empty:=by
 obtain⟨h1,h2,_⟩:=below_all m T.lt j hj
 unfold slot
 rw[T.place,T.dum]
 simp only[h1]
 rw[h2]
 by_cases h:m.testBit j=true
 ·simp[h]
 ·simp only[h,if_false]
  have:has #[] j=false:=rfl
  rw[this]
  simp
theorem Tab.put{t:SetTable}{es:Array α}{m:Nat}{cells:List (Option α)}(T:Tab t es m cells){j:Nat}(hj:j<8)(hf:m.testBit j=false)(x:α):
  (t.put j).2=cntM m j∧(t.put j).1.moves=t.moves∧(t.put j).1.plain=t.plain∧(t.put j).1.led=t.led∧Tab (t.put j).1 (insertAt es (cntM m j) x) (m+2 ^ j) (cells.set j (some x)):=by
 obtain⟨h1,_,h3⟩:=below_all m T.lt j hj
 obtain⟨h3,h4,_,h5⟩:=h3 hf
 have e1:(t.put j).2=cntM m j:=by unfold SetTable.put;rw[T.place];exact h1
 refine⟨e1,rfl,rfl,rfl,T.mask,?_,?_,h4,by rw[List.length_set];exact T.len,fun i hi=>?_,?_⟩
 ·show insertAt t.place (below t.place j) j=_
  rw[T.place,h1,h3]
 ·show(if has t.dummies j=true then _ else t.dummies)=#[]
  rw[T.dum];rfl
 ·rw[h5 i hi,T.bit i hi]
  by_cases e:i=j
  ·subst e
   rw[List.getElem?_set_self (by rw[T.len];exact hi)]
   simp
  ·rw[List.getElem?_set_ne (fun z=>e z.symm)]
   simp[e]
 ·have hp:cntM m j=((cells.take j).filterMap id).length:=cnt_take T j (by omega)
  have hl:j<cells.length:=by rw[T.len];exact hj
  have hc:cells[j]=none:=by
   have:=T.bit j hj
   rw[hf,List.getElem?_eq_getElem hl]at this
   cases q:cells[j]with
   |none=>rfl
   |some e=>rw[q]at this;simp at this
  have e2:(cells.drop j).filterMap id=(cells.drop (j+1)).filterMap id:=by
   rw[List.drop_eq_getElem_cons hl,hc]
   rfl
  unfold insertAt
  have hs:=els_split T j (by omega)
  have hsz:es.size=es.toList.length:=by simp
  simp only[Array.toList_append,Array.toList_push,Array.toList_extract]
  rw[List.extract_eq_drop_take,List.extract_eq_drop_take,hsz,hs,hp]
  rw[List.set_eq_take_append_cons_drop,if_pos hl,List.filterMap_append]
  have e3:List.filterMap id (some x::cells.drop (j+1))=x::(cells.drop (j+1)).filterMap id:=rfl
  rw[e3,←e2]
  generalize (cells.take j).filterMap id=A
  generalize (cells.drop j).filterMap id=B
  simp
def stp(p:Nat×Nat):Nat×Nat:=((p.1*5+1+p.2 / 32) % 8,p.2 / 32)
def pth(h:Int):Nat→Nat×Nat
 |0=>(bits h % 8,bits h)
 |n+1=>stp (pth h n)
def prb(h:Int)(n:Nat):Probe:={ j:=(pth h n).1,more:=0,i:=(pth h n).1,perturb:=(pth h n).2,dummy:=none }
theorem xD(h:Int):∀n,(pth h n).1<8
 |0=>Nat.mod_lt _ (by decide)
 |n+1=>Nat.mod_lt _ (by decide)
theorem run7{i:Nat}:runEnd 7 i-i=0:=by
 unfold runEnd
 rw[if_neg (by omega)]
 omega
theorem start_eq{t:SetTable}(hm:t.mask=7)(h:Int):t.probeStart h=prb h 0:=by
 unfold probeStart prb pth
 rw[hm]
 simp only[run7]
theorem adv_eq{t:SetTable}(hm:t.mask=7)(h:Int)(n:Nat):t.advance (prb h n)=prb h (n+1):=by
 unfold advance
 rw[if_neg (show¬(prb h n).more > 0 from Nat.lt_irrefl 0)]
 unfold leap
 rw[hm]
 simp only[run7]
 rfl
theorem per_eq(h:Int):∀n,(pth h n).2=bits h / 32 ^ n
 |0=>by simp[pth]
 |n+1=>by
  show(pth h n).2 / 32=_
  rw[per_eq h n,Nat.div_div_eq_div_mul,Nat.pow_succ]
theorem bits_lt(h:Int):bits h<2 ^ 64:=by
 unfold bits
 have h1:0≤h % (2 ^ 64:Int):=Int.emod_nonneg _ (by decide)
 have h2:h % (2 ^ 64:Int) <2 ^ 64:=Int.emod_lt_of_pos _ (by decide)
 omega
theorem per_zero(h:Int){n:Nat}(hn:13≤n):(pth h n).2=0:=by
 rw[per_eq]
 have h1:=bits_lt h
 have h2:2 ^ 64≤32 ^ n:=Nat.le_trans (by decide:2 ^ 64≤32 ^ 13) (Nat.pow_le_pow_right (by decide) hn)
 exact Nat.div_eq_of_lt (by omega)
def cyc:Nat→Nat→Nat
 |0,i=>i
 |k+1,i=>(cyc k i*5+1) % 8
theorem cyc_all:∀i,i<8→∀j,j<8→∃k,k<8∧cyc k i=j:=by decide
theorem pth_cyc(h:Int):∀k,(pth h (13+k)).1=cyc k (pth h 13).1
 |0=>rfl
 |k+1=>by
  show((pth h (13+k)).1*5+1+ (pth h (13+k)).2 / 32) % 8=(cyc k (pth h 13).1*5+1) % 8
  rw[pth_cyc h k,per_zero h (n:=13+k) (by omega)]
theorem path_all(h:Int){j:Nat}(hj:j<8):∃n,n<21∧(pth h n).1=j:=by
 obtain⟨k,hk,e⟩:=cyc_all (pth h 13).1 (xD h 13) j hj
 exact⟨13+k,by omega,by rw[pth_cyc,e]⟩
theorem probe_go{t:SetTable}{es:Array α}{m:Nat}{cells:List (Option α)}(T:Tab t es m cells){hashAt:Nat→Int}{h:Int}{N:Nat}(hN:m.testBit (pth h N).1=false):
  ∀(d n F:Nat),N-n=d→n≤N→d<F→∃n1,n≤n1∧n1≤N∧(∀n2,n≤n2→n2<n1→m.testBit (pth h n2).1=true∧hashAt (cntM m (pth h n2).1)≠h)∧
   ((m.testBit (pth h n1).1=false∧probe.go t hashAt h F (prb h n)=some (.empty (pth h n1).1 none))∨
    (m.testBit (pth h n1).1=true∧hashAt (cntM m (pth h n1).1)=h∧probe.go t hashAt h F (prb h n)=some (.candidate (pth h n1).1 (cntM m (pth h n1).1) (prb h (n1+1))))):=by
 intro d
 induction d with
 |zero=>
  intro n F hd hn hF
  have e:n=N:=by omega
  subst e
  refine⟨n,Nat.le_refl _,Nat.le_refl _,fun n2 h1 h2=>absurd h2 (by omega),.inl ⟨hN,?_⟩⟩
  obtain⟨F,rfl⟩:∃G,F=G+1:=⟨F-1,by omega⟩
  unfold probe.go
  have hs:t.slot (prb h n).j=.empty:=by
   show t.slot (pth h n).1=_
   rw[slot_eq T (xD h n),if_neg (by rw[hN];decide)]
  rw[hs]
  rfl
 |succ d ih=>
  intro n F hd hn hF
  obtain⟨F,rfl⟩:∃G,F=G+1:=⟨F-1,by omega⟩
  by_cases hb:m.testBit (pth h n).1=true
  ·have hs:t.slot (prb h n).j=.live (cntM m (pth h n).1):=by
    show t.slot (pth h n).1=_
    rw[slot_eq T (xD h n),if_pos hb]
   by_cases hh:hashAt (cntM m (pth h n).1)=h
   ·refine⟨n,Nat.le_refl _,hn,fun n2 h1 h2=>absurd h2 (by omega),.inr ⟨hb,hh,?_⟩⟩
    unfold probe.go
    rw[hs]
    simp only[hh,beq_self_eq_true,if_true,adv_eq T.mask]
    rfl
   ·obtain⟨n1,a1,a2,a3,a4⟩:=ih (n+1) F (by omega) (by omega) (by omega)
    have hgo:probe.go t hashAt h (F+1) (prb h n)=probe.go t hashAt h F (prb h (n+1)):=by
     rw[probe.go.eq_def]
     simp only
     rw[hs]
     have:(hashAt (cntM m (pth h n).1)==h)=false:=by simpa using hh
     simp only[this,adv_eq T.mask]
     simp
    refine⟨n1,by omega,a2,fun n2 h1 h2=>?_,by rw[hgo];exact a4⟩
    by_cases e:n2=n
    ·subst e;exact⟨hb,hh⟩
    ·exact a3 n2 (by omega) h2
  ·refine⟨n,Nat.le_refl _,hn,fun n2 h1 h2=>absurd h2 (by omega),.inl ⟨by simpa using hb,?_⟩⟩
   unfold probe.go
   have hs:t.slot (prb h n).j=.empty:=by
    show t.slot (pth h n).1=_
    rw[slot_eq T (xD h n),if_neg hb]
   rw[hs]
   rfl
end CkT
namespace CkT
open PySem PySem.SetTable
section
variable {prog:Program}{w:World}{K:Type} [DecidableEq K]{knd:KeyKind prog w K}{A:Around}{E:Value→Shared→Prop}{s:Shared}
theorem hbv_pure(n:Nat){v:Value}(h:carriedByValue v=true):∃b,hashByValue n v=pure b:=by
 cases v with
 |ref a=>simp[carriedByValue]at h
 |_=>cases n<;>exact⟨_,rfl⟩
theorem cls_pure(n:Nat){v:Value}(h:carriedByValue v=true):ofAClassStatement n v=pure false:=by
 cases v with
 |ref a=>simp[carriedByValue]at h
 |_=>cases n<;>rfl
theorem wp_hbv{ks:List K}{a:Addr}{Q:Bool→Shared→Prop}(hk:IsTupleKey knd s.heap ks a)(h:∀b,Q b s):wpAny (model prog w) A (hashByValue 8 (.ref a)) Q E s:=by
 have hT:=hk.typeIs
 obtain⟨o,items,n,ho,_,hd,hi⟩:=hk
 unfold hashByValue
 refine wpAny_bind (wpAny_specialOf hT F.slot_tuple_hash.lookup ?_)
 dsimp only
 refine wpAny_bind (wpAny_seqItems ho hd ?_)
 dsimp only[Option.getD_some]
 refine wpAny_bind ?_
 rw[←Array.forIn_toList]
 refine wpAny_forIn_list _ (fun rest r s'=>r.1=none∧s'=s∧∀v∈rest,carriedByValue v=true) _ ?_ ?_ _ _ ⟨rfl,rfl,hi.byValue⟩
 ·rintro v rest r s' ⟨hr,rfl,hall⟩
  obtain⟨b,hb⟩:=hbv_pure 7 (hall v List.mem_cons_self)
  rw[hb]
  refine wpAny_bind (wpAny_pure ?_)
  cases b with
  |true=>
   simp only[Bool.not_true,Bool.false_eq_true,if_false]
   exact wpAny_pure ⟨rfl,rfl,fun u hu'=>hall u (List.mem_cons_of_mem _ hu')⟩
  |false=>
   simp only[Bool.not_false,if_true]
   exact wpAny_pure (wpAny_pure (h _))
 ·rintro⟨r1,r2⟩ s' ⟨hr,rfl,_⟩
  simp only at hr
  subst hr
  exact wpAny_pure (h _)
theorem wp_cls{ks:List K}{a:Addr}{Q:Bool→Shared→Prop}(hk:IsTupleKey knd s.heap ks a)(h:Q false s):wpAny (model prog w) A (ofAClassStatement 8 (.ref a)) Q E s:=by
 have hT:=hk.typeIs
 obtain⟨o,items,n,ho,_,hd,hi⟩:=hk
 unfold ofAClassStatement
 refine wpAny_bind (wpAny_typeOf hT ?_)
 dsimp only
 refine wpAny_bind ?_
 refine wpAny_pure ?_
 simp only[Bool.not_true,Bool.false_eq_true,if_false]
 refine wpAny_bind (wpAny_seqItems ho hd ?_)
 dsimp only
 refine wpAny_bind ?_
 rw[←Array.forIn_toList]
 refine wpAny_forIn_list _ (fun rest r s'=>r.1=none∧s'=s∧∀v∈rest,carriedByValue v=true) _ ?_ ?_ _ _ ⟨rfl,rfl,hi.byValue⟩
 ·rintro v rest r s' ⟨hr,rfl,hall⟩
  rw[cls_pure 7 (hall v List.mem_cons_self)]
  refine wpAny_bind (wpAny_pure ?_)
  simp only[Bool.false_eq_true,if_false]
  exact wpAny_pure ⟨rfl,rfl,fun u hu'=>hall u (List.mem_cons_of_mem _ hu')⟩
 ·rintro⟨r1,r2⟩ s' ⟨hr,rfl,_⟩
  simp only at hr
  subst hr
  exact wpAny_pure h
theorem wp_seen{ks:List K}{a:Addr}{stored:List Value}{Q:Bool→Shared→Prop}(hk:IsTupleKey knd s.heap ks a)(hs:∀v∈stored,∃b k,v=.ref b∧IsTupleKey knd s.heap k b)(h:Q false s):
  wpAny (model prog w) A (searchCouldBeSeen (.ref a) stored) Q E s:=by
 unfold searchCouldBeSeen
 refine wpAny_bind ?_
 refine wpAny_forIn_list _ (fun rest r s'=>r.1=none∧s'=s∧∀v∈rest,∃b k,v=.ref b∧IsTupleKey knd s.heap k b) _ ?_ ?_ _ _ ⟨rfl,rfl,hs⟩
 ·rintro v rest r s' ⟨hr,rfl,hall⟩
  obtain⟨b,k,rfl,hb⟩:=hall v List.mem_cons_self
  have again:r.1=none∧s'=s'∧∀v∈rest,∃b k,v=.ref b∧IsTupleKey knd s'.heap k b:=⟨hr,rfl,fun u hu'=>hall u (List.mem_cons_of_mem _ hu')⟩
  dsimp only
  by_cases e:(a==b || carriedByValue (.ref a)&&carriedByValue (.ref b))=true
  ·rw[if_pos e]
   exact wpAny_pure ⟨rfl,again.2⟩
  ·rw[if_neg e]
   refine wpAny_bind (wpAny_eqIsQuiet_tuple hk ?_)
   simp only[Bool.not_true,Bool.false_eq_true,if_false]
   refine wpAny_bind (wpAny_eqIsQuiet_tuple hb ?_)
   simp only[Bool.not_true,Bool.false_eq_true,if_false]
   refine wpAny_bind (wp_cls hk ?_)
   simp only[Bool.false_eq_true,if_false]
   refine wpAny_bind (wp_cls hb ?_)
   simp only[Bool.false_eq_true,if_false]
   exact wpAny_pure ⟨rfl,again.2⟩
 ·rintro⟨r1,r2⟩ s' ⟨hr,rfl,_⟩
  simp only at hr
  subst hr
  exact wpAny_pure h
end
end CkT
namespace CkT
open PySem PySem.SetTable
section
variable {prog:Program}{w:World}{K:Type} [DecidableEq K](knd:KeyKind prog w K)
structure TS (h:Heap) (S:Addr) (ks:List (List K)) (es:Array (Int×Value)) (ep:Nat) (t:SetTable) (m:Nat) (cells:List (Option (Int×Value))):Prop where
 obj:h.get? S=some { cls:=.type "set",dict:=none,data:=.set es ep t,slots:=#[] }
 tab:Tab t es m cells
 els:∀j e,cells[j]? =some (some e)→∃k b,e=(tupleKeyHash knd k,.ref b)∧IsTupleKey knd h k b∧k∈ks∧∃n,(pth (tupleKeyHash knd k) n).1=j∧∀n2,n2<n→m.testBit (pth (tupleKeyHash knd k) n2).1=true
 all:∀k∈ks,∃j b:Nat,cells[j]? =some (some (tupleKeyHash knd k,.ref b))∧IsTupleKey knd h k b
 nd:ks.Nodup
 cnt:es.size=ks.length
variable {knd}{A:Around}{E:Value→Shared→Prop}{s:Shared}
theorem tab_size{α:Type}{t:SetTable}{es:Array α}{m:Nat}{cells:List (Option α)}(T:Tab t es m cells):t.place.size=es.size:=by
 have h1:=cnt_take T 8 (Nat.le_refl _)
 have h2:(placeM m).size=cntM m 8:=by simp[placeM,cntM]
 rw[T.place,h2,h1,←Array.length_toList,T.els,List.take_of_length_le (by rw[T.len];exact Nat.le_refl _)]
theorem tab_fits{α:Type}{t:SetTable}{es:Array α}{m:Nat}{cells:List (Option α)}(T:Tab t es m cells)(h:es.size≤7):t.fits es.size=true:=by
 unfold SetTable.fits fill
 rw[tab_size T,T.dum,T.mask]
 simp[h]
theorem free_cell{α:Type}{t:SetTable}{es:Array α}{m:Nat}{cells:List (Option α)}(T:Tab t es m cells)(h:es.size≤7):∃j,j<8∧m.testBit j=false:=by
 have h1:(placeM m).size=es.size:=by rw[←T.place];exact tab_size T
 have key:∀m,m<256→(placeM m).size≤7→∃j,j<8∧m.testBit j=false:=by decide +kernel
 exact key m T.lt (by omega)
variable {S a:Addr}{ks:List (List K)}{es:Array (Int×Value)}{ep:Nat}{t:SetTable}{m:Nat}{cells:List (Option (Int×Value))}{k:List K}
theorem cell_live(T:TS knd s.heap S ks es ep t m cells){j:Nat}(hj:j<8)(hb:m.testBit j=true):∃e,cells[j]? =some (some e):=by
 rw[T.tab.bit j hj]at hb
 cases q:cells[j]? with
 |none=>rw[q]at hb;simp at hb
 |some o=>
  cases o with
  |none=>rw[q]at hb;simp at hb
  |some e=>exact⟨e,rfl⟩
theorem wp_search(T:TS knd s.heap S ks es ep t m cells)(h7:es.size≤7)(hu:A.units<cLine)(hk:IsTupleKey knd s.heap k a){N:Nat}(hN:m.testBit (pth (tupleKeyHash knd k) N).1=false)
  {Q:SetFound→Shared→Prop}(hyes:k∈ks→Q (.there none) s)
  (hno:∀n1,m.testBit (pth (tupleKeyHash knd k) n1).1=false→(∀n2,n2<n1→m.testBit (pth (tupleKeyHash knd k) n2).1=true)→k∉ks→Q (.free (pth (tupleKeyHash knd k) n1).1 false) s):
  ∀(d n F:Nat) (stand:Option Probe),N-n=d→n≤N→d<F→d≤30→stand.getD (t.probeStart (tupleKeyHash knd k))=prb (tupleKeyHash knd k) n→
   (∀n2,n2<n→m.testBit (pth (tupleKeyHash knd k) n2).1=true∧∀b,cells[(pth (tupleKeyHash knd k) n2).1]? =some (some (tupleKeyHash knd k,.ref b))→¬IsTupleKey knd s.heap k b)→
   wpAny (model prog w) A (setSearchFrom S (.ref a) (tupleKeyHash knd k) true F stand) Q E s:=by
 intro d
 induction d using Nat.strongRecOn with
 |_ d ih=>
  intro n F stand hd hn hF h30 hst hbefore
  obtain⟨F,rfl⟩:∃G,F=G+1:=⟨F-1,by omega⟩
  unfold setSearchFrom
  refine wpAny_bind (wpAny_setState_of T.obj rfl (tab_fits T.tab h7) ?_)
  dsimp only
  have hgw:t.gaveWay=false:=by unfold SetTable.gaveWay;rw[T.tab.mask];rfl
  rw[hgw]
  simp only[Bool.false_eq_true,if_false]
  rw[hst]
  unfold probe
  have ht:turns t.mask=22:=by rw[T.tab.mask];rfl
  rw[ht]
  obtain⟨n1,a1,a2,a3,a4⟩:=probe_go T.tab (hashAt:=fun i=>(es[i]?.map (·.1)).getD 0) (h:=tupleKeyHash knd k) hN d n (10*22) hd hn (by omega)
  have hat:∀j e,j<8→cells[j]? =some (some e)→(es[cntM m j]?.map (·.1)).getD 0=e.1:=fun j e hj he=>by rw[at_live T.tab hj he];rfl
  have hup:∀n2,n2<n1→m.testBit (pth (tupleKeyHash knd k) n2).1=true∧∀b,cells[(pth (tupleKeyHash knd k) n2).1]? =some (some (tupleKeyHash knd k,.ref b))→¬IsTupleKey knd s.heap k b:=fun n2 h2=>by
   by_cases hl:n2<n
   ·exact hbefore n2 hl
   ·obtain⟨b1,b2⟩:=a3 n2 (by omega) h2
    refine⟨b1,fun b hb=>?_⟩
    exact absurd (hat _ _ (xD _ _) hb) b2
  generalize hPg:probe.go t _ (tupleKeyHash knd k) (10*22) (prb (tupleKeyHash knd k) n)=pg
  rcases a4 with⟨b1,b2⟩ | ⟨b1,b2,b3⟩
  ·-- a free slot
   have b2':pg=_:=hPg.symm.trans b2
   rw[b2']
   dsimp only
   refine wpAny_pure (hno n1 b1 (fun n2 h2=>(hup n2 h2).1) fun hm=>?_)
   obtain⟨j,b,c1,c2⟩:=T.all k hm
   obtain⟨k',b',e1,_,_,n2,e2,e3⟩:=T.els j _ c1
   have e4:tupleKeyHash knd k'=tupleKeyHash knd k:=(congrArg Prod.fst e1).symm
   rw[e4]at e2 e3
   have hj:m.testBit j=true:=by
    have hj8:j<8:=by rw[←e2];exact xD _ _
    rw[T.tab.bit j hj8,c1];rfl
   have h21:n2<n1:=by
    rcases Nat.lt_trichotomy n2 n1 with q | q | q
    ·exact q
    ·subst q;rw[e2,hj]at b1;cases b1
    ·have:=e3 n1 q;rw[b1]at this;cases this
   exact(hup n2 h21).2 b (by rw[e2];exact c1) c2
  ·-- an element of this hash
   have b3':pg=_:=hPg.symm.trans b3
   rw[b3']
   dsimp only
   obtain⟨e,he⟩:=cell_live T (xD _ n1) b1
   obtain⟨k',b,e1,e2,e3,_⟩:=T.els _ _ he
   have hh:tupleKeyHash knd k'=tupleKeyHash knd k:=by
    have:=hat _ _ (xD _ n1) he
    rw[e1]at this
    exact this.symm.trans b2
   have hes:es[cntM m (pth (tupleKeyHash knd k) n1).1]? =some e:=at_live T.tab (xD _ n1) he
   have hslot:t.slot (pth (tupleKeyHash knd k) n1).1=.live (cntM m (pth (tupleKeyHash knd k) n1).1):=by rw[slot_eq T.tab (xD _ n1),if_pos b1]
   have hseen:∀v∈((es.filter (fun x=>x.1==tupleKeyHash knd k)).toList.map (fun x=>x.2)),∃b k,v=.ref b∧IsTupleKey knd s.heap k b:=fun v hv=>by
    obtain⟨x,hx,rfl⟩:=List.mem_map.mp hv
    have hx2:x∈es.toList:=by
     rw[Array.toList_filter]at hx
     exact(List.mem_filter.mp hx).1
    rw[T.tab.els]at hx2
    obtain⟨o,ho,hoe⟩:=List.mem_filterMap.mp hx2
    obtain⟨j,hj⟩:=List.mem_iff_getElem?.mp ho
    have:o=some x:=hoe
    subst this
    obtain⟨k'',b'',q1,q2,_⟩:=T.els j x hj
    exact⟨b'',k'',by rw[q1],q2⟩
   cases hled:t.led
   all_goals simp only[Bool.not_false,Bool.not_true,if_true,Bool.false_eq_true,if_false]
   rotate_left
   rotate_right
   case' false=>
    refine wpAny_bind (wp_seen hk hseen ?_)
    simp only[Bool.false_eq_true,if_false]
   all_goals
    rw[hes,e1]
    dsimp only
    refine wpAny_bind (wpAny_holding (wpAny_eqBool_tuple hu e2 hk ?_))
    refine wpAny_bind (wpAny_setState_of T.obj rfl (tab_fits T.tab h7) ?_)
    by_cases hkk:k'=k
    ·rw[decide_eq_true hkk]
     simp only[Bool.and_self,if_true]
     exact wpAny_pure (hyes (by rw[←hkk];exact e3))
    ·rw[decide_eq_false hkk]
     simp only[Bool.and_false,Bool.false_eq_true,if_false]
     have hsm:t.sameMemory t.moves t.mask=some true:=by unfold SetTable.sameMemory;simp
     rw[hsm]
     simp only[if_true]
     rw[hslot]
     dsimp only
     rw[hes,e1]
     dsimp only
     have hsame:isSame (.ref b) (.ref b)=pure true:=by unfold isSame;simp
     rw[hsame]
     refine wpAny_bind (wpAny_pure (wpAny_bind (wpAny_pure ?_)))
     skip
     simp only[if_true]
     have hlt:n1<N:=by
      rcases Nat.lt_or_eq_of_le a2 with q | q
      ·exact q
      ·subst q;rw[hN]at b1;cases b1
     refine ih (N- (n1+1)) (by omega) (n1+1) F _ rfl (by omega) (by omega) (by omega) rfl fun n2 h2=>?_
     ·by_cases q:n2=n1
      ·subst q
       refine⟨b1,fun b' hb' hk'=>?_⟩
       rw[he,e1]at hb'
       have:b=b':=by simpa using (congrArg (fun x:Option (Option (Int×Value))=>(x.bind id).map (·.2)) hb')
       subst this
       exact hkk (e2.inj hk')
      ·exact hup n2 (by omega)
theorem TS.keep{h h':Heap}(hs:Heap.SameBut S h h'){k:List K}{b:Addr}(ho:∃o es ep t,h.get? S=some o∧o.data=.set es ep t)(hk:IsTupleKey knd h k b):IsTupleKey knd h' k b:=by
 obtain⟨o,items,n,h1,h2,h3,h4⟩:=hk
 have hne:b≠S:=by
  rintro rfl
  obtain⟨o',es,ep,t,q1,q2⟩:=ho
  rw[h1]at q1;cases q1
  rw[h3]at q2;cases q2
 exact⟨o,items,n,(hs.2 b hne).trans h1,h2,h3,h4⟩
theorem wp_add(T:TS knd s.heap S ks es ep t m cells)(h3:ks.length≤3)(hu:A.units<cLine)(hk:IsTupleKey knd s.heap k a){Q:Bool→Shared→Prop}
  (h:∀h' tk es' ep' t' m' cells' b,Heap.SameBut S s.heap h'→TS knd h' S (if k∈ks then ks else ks++[k]) es' ep' t' m' cells'→Q b { s with heap:=h',toks:=tk }):
  wpAny (model prog w) A (setAdd S (.ref a)) Q E s:=by
 have h7:es.size≤7:=by rw[T.cnt];omega
 unfold setAdd
 refine wpAny_holding (wpAny_bind (wpAny_pyHash_tuple hu hk ?_))
 unfold setAddHashed
 refine wpAny_holding ?_
 unfold setAddHashedIn
 refine wpAny_bind (wpAny_setState_of (s:={ s with toks:=s.toks+ (k.length+1) }) T.obj rfl (tab_fits T.tab h7) ?_)
 dsimp only
 have hbs:byScan (.ref a) es=false:=rfl
 rw[hbs]
 simp only[Bool.false_eq_true,if_false]
 unfold setSearch
 obtain⟨j,hj,hfj⟩:=free_cell T.tab h7
 obtain⟨N,hN21,eN⟩:=path_all (tupleKeyHash knd k) hj
 have hN:m.testBit (pth (tupleKeyHash knd k) N).1=false:=by rw[eN];exact hfj
 refine wpAny_bind (wp_search (s:={ s with toks:=s.toks+ (k.length+1) }) T h7 hu hk hN ?_ ?_ (N-0) 0 100000 none rfl (Nat.zero_le _) (by omega) (by omega) (start_eq T.tab.mask _) fun n2 h2=>absurd h2 (Nat.not_lt_zero _))
 ·intro hm
  dsimp only
  have:=h s.heap (s.toks+ (k.length+1)) es ep t m cells false (Heap.SameBut.refl S s.heap)
  rw[if_pos hm]at this
  exact wpAny_pure (this T)
 ·intro n1 hf hb hnm
  dsimp only
  refine wpAny_bind (wpAny_setState_of (s:={ s with toks:=s.toks+ (k.length+1) }) T.obj rfl (tab_fits T.tab h7) ?_)
  dsimp only
  obtain⟨p1,p2,p3,p4,PT⟩:=T.tab.put (xD (tupleKeyHash knd k) n1) hf (tupleKeyHash knd k,Value.ref a)
  rw[p1]
  have hj8:=xD (tupleKeyHash knd k) n1
  generalize hJ:(pth (tupleKeyHash knd k) n1).1=J at *
  have hsz:(insertAt es (cntM m J) (tupleKeyHash knd k,Value.ref a)).size=es.size+1:=by
   rw[←tab_size PT,PT.place,(below_all m T.tab.lt J hj8).2.2 hf |>.2.2.1,←T.tab.place,tab_size T.tab]
  have tail:∀t2,Tab t2 (insertAt es (cntM m J) (tupleKeyHash knd k,Value.ref a)) (m+2 ^ J) (cells.set J (some (tupleKeyHash knd k,Value.ref a)))→
    wpAny (model prog w) A (do
     storeSet S (insertAt es (cntM m J) (tupleKeyHash knd k,Value.ref a)) t2
     if(!false&&t2.tooFull)=true then do
      setRelay S (grown (es.size+1))
      pure true
     else pure true) Q E { s with toks:=s.toks+ (k.length+1) }:=by
   intro t2 PT2
   refine wpAny_bind (wpAny_storeSet_of (s:={ s with toks:=s.toks+ (k.length+1) }) T.obj rfl ?_ (by rw[hsz,T.cnt,sizeLine_eq];omega))
   have htf:t2.tooFull=false:=by
    unfold SetTable.tooFull SetTable.fill
    rw[tab_size PT2,hsz,PT2.dum,PT2.mask,T.cnt]
    simp
    omega
   rw[htf]
   simp only[Bool.and_false,Bool.false_eq_true,if_false]
   have hsb:=Heap.SameBut.update s.heap S (Obj.putSet (insertAt es (cntM m J) (tupleKeyHash knd k,Value.ref a)) t2)
   have hg:(s.heap.update S (Obj.putSet (insertAt es (cntM m J) (tupleKeyHash knd k,Value.ref a)) t2)).get? S=some { cls:=.type "set",dict:=none,data:=.set (insertAt es (cntM m J) (tupleKeyHash knd k,Value.ref a)) (ep+1) t2,slots:=#[] }:=by
    have:=Heap.get?_update_self (Obj.putSet (insertAt es (cntM m J) (tupleKeyHash knd k,Value.ref a)) t2) T.obj (by rw[putSet_of (es:=es) (ep:=ep) (t:=t) _ _ rfl];rfl)
    rw[putSet_of (es:=es) (ep:=ep) (t:=t) _ _ rfl]at this
    exact this
   have hset:∃o es ep t,s.heap.get? S=some o∧o.data=.set es ep t:=⟨_,_,_,_,T.obj,rfl⟩
   have hbit:∀i,i<8→m.testBit i=true→(m+2 ^ J).testBit i=true:=fun i hi hb=>by
    rw[((below_all m T.tab.lt J hj8).2.2 hf).2.2.2 i hi,hb];rfl
   refine wpAny_pure (h _ _ (insertAt es (cntM m J) (tupleKeyHash knd k,Value.ref a)) (ep+1) t2 (m+2 ^ J) (cells.set J (some (tupleKeyHash knd k,Value.ref a))) _ hsb ?_)
   rw[if_neg hnm]
   refine⟨hg,PT2,fun j' e he=>?_,fun k' hk'=>?_,?_,by rw[hsz,T.cnt,List.length_append];rfl⟩
   ·by_cases q:j'=J
    ·subst q
     rw[List.getElem?_set_self (by rw[T.tab.len];exact hj8)]at he
     have e1:e=(tupleKeyHash knd k,Value.ref a):=by simpa using he.symm
     exact⟨k,a,e1,TS.keep hsb hset hk,by simp,n1,hJ,fun n2 h2=>hbit _ (xD _ _) (hb n2 h2)⟩
    ·rw[List.getElem?_set_ne (fun z=>q z.symm)]at he
     obtain⟨k',b,c1,c2,c3,n2,c4,c5⟩:=T.els j' e he
     exact⟨k',b,c1,TS.keep hsb hset c2,by simp[c3],n2,c4,fun n3 h3=>hbit _ (xD _ _) (c5 n3 h3)⟩
   ·rcases List.mem_append.mp hk' with q | q
    ·obtain⟨j',b,c1,c2⟩:=T.all k' q
     refine⟨j',b,?_,TS.keep hsb hset c2⟩
     have hne:J≠j':=fun z=>by
      subst z
      have:=T.tab.bit J hj8
      rw[hf,c1]at this
      simp at this
     rw[List.getElem?_set_ne hne]
     exact c1
    ·have:k'=k:=by simpa using q
     subst this
     exact⟨J,a,List.getElem?_set_self (by rw[T.tab.len];exact hj8),TS.keep hsb hset hk⟩
   ·exact List.nodup_append.mpr ⟨T.nd,by simp,fun x hx y hy=>by
     have:y=k:=by simpa using hy
     subst this
     exact fun z=>hnm (z▸hx)⟩
  have PT':Tab { (t.put J).1 with plain:=false } (insertAt es (cntM m J) (tupleKeyHash knd k,Value.ref a)) (m+2 ^ J) (cells.set J (some (tupleKeyHash knd k,Value.ref a))):=⟨PT.mask,PT.place,PT.dum,PT.lt,PT.len,PT.bit,PT.els⟩
  by_cases hpl:(t.put J).1.plain=true
  ·rw[if_pos hpl]
   refine wpAny_bind (wp_hbv (s:={ s with toks:=s.toks+ (k.length+1) }) hk fun b=>?_)
   cases b with
   |true=>exact tail _ PT
   |false=>exact tail _ PT'
  ·rw[if_neg hpl]
   exact wpAny_bind (wpAny_pure (tail _ PT))
end
end CkT
namespace CkT
open PySem PySem.SetTable
section
variable {prog:Program}{w:World}{K:Type} [DecidableEq K]{knd:KeyKind prog w K}{A:Around}{E:Value→Shared→Prop}
def dd(ks:List (List K)):List (List K):=ks.foldl (fun acc k=>if k∈acc then acc else acc++[k]) []
theorem dd_snoc(ks:List (List K))(k:List K):dd (ks++[k])=if k∈dd ks then dd ks else dd ks++[k]:=by
 unfold dd
 rw[List.foldl_append]
 rfl
theorem dd_le:∀(n:Nat) (ks:List (List K)),ks.length=n→(dd ks).length≤ks.length:=by
 intro n
 induction n with
 |zero=>intro ks h;rw[List.length_eq_zero_iff.mp h];exact Nat.le_refl _
 |succ n ih=>
  intro ks h
  rcases List.eq_nil_or_concat ks with e | ⟨l,x,e⟩
  ·subst e;simp at h
  ·rw[List.concat_eq_append]at e
   subst e
   have:=ih l (by simpa using h)
   rw[dd_snoc]
   split
   ·simp;omega
   ·simp;omega
def Keyed(knd:KeyKind prog w K)(h:Heap)(items:Array Value)(kk:List (List K)):Prop:=items.size=kk.length∧∀(i:Nat) v,items[i]? =some v→∃b k,v=.ref b∧kk[i]? =some k∧IsTupleKey knd h k b
theorem tk_ne_iter{h:Heap}{I l i:Nat}{k:List K}{b:Addr}(hi:h.IsListIter I l i)(hk:IsTupleKey knd h k b):b≠I:=by
 rintro rfl
 obtain⟨o,h1,h2,h3⟩:=hi
 obtain⟨o',items,n,q1,q2,q3,_⟩:=hk
 rw[h1]at q1;cases q1
 rw[h3]at q3;cases q3
theorem tk_keep{h h':Heap}{k:List K}{b:Addr}(hk:IsTupleKey knd h k b)(e:∀o,h.get? b=some o→h'.get? b=some o):IsTupleKey knd h' k b:=by
 obtain⟨o',items,n,q1,q2⟩:=hk
 exact⟨o',items,n,e _ q1,q2⟩
theorem tk_ne_set{h:Heap}{S:Addr}{k:List K}{b:Addr}(ho:∃o es ep t,h.get? S=some o∧o.data=.set es ep t)(hk:IsTupleKey knd h k b):b≠S:=by
 rintro rfl
 obtain⟨o,es,ep,t,h1,h3⟩:=ho
 obtain⟨o',items,n,q1,q2,q3,_⟩:=hk
 rw[h1]at q1;cases q1
 rw[h3]at q3;cases q3
theorem TS.stay{h h':Heap}{S I l i:Nat}{ks:List (List K)}{es:Array (Int×Value)}{ep:Nat}{t:SetTable}{m:Nat}{cells:List (Option (Int×Value))}(T:TS knd h S ks es ep t m cells)
  (hi:h.IsListIter I l i)(hSI:S≠I)(e:∀b o,b≠I→h.get? b=some o→h'.get? b=some o):TS knd h' S ks es ep t m cells:=
 ⟨e _ _ hSI T.obj,T.tab,fun j x hx=>let ⟨k,b,c1,c2,c3⟩:=T.els j x hx;⟨k,b,c1,tk_keep c2 fun o q=>e b o (tk_ne_iter hi c2) q,c3⟩,
  fun k hk=>let ⟨j,b,c1,c2⟩:=T.all k hk;⟨j,b,c1,tk_keep c2 fun o q=>e b o (tk_ne_iter hi c2) q⟩,T.nd,T.cnt⟩
theorem code_loop{R:Result→Shared→Prop}{S I l:Addr}{items:Array Value}{kk:List (List K)}(hh:A.in1.handled=none)(hu:A.in1.units<cLine)(hSI:S≠I)(hlI:l≠I)(hSl:l≠S)(h4:items.size≤4):
  ∀(r i:Nat) (s:Shared),items.size-i=r→i≤items.size→s.heap.IsListIter I l i→s.heap.IsList l items→Keyed knd s.heap items kk→
   (∃es ep t m cells,TS knd s.heap S (dd (kk.take i)) es ep t m cells)→
   (∀h' tk es ep t m cells,(∀b o,b≠S→b≠I→s.heap.get? b=some o→h'.get? b=some o)→TS knd h' S (dd kk) es ep t m cells→R (.ok (.ret .none)) { s with heap:=h',toks:=tk })→
   codeAny (model prog w) A (.builtin "set.update.loop" ⟨[.ref S,.ref I],[]⟩) R s:=by
 intro r
 induction r with
 |zero=>
  rintro i s hr hi hit hl hK ⟨es,ep,t,m,cells,T⟩ hR
  have hin:i=items.size:=by omega
  refine codeAny_builtin PyProof.Rows.F.entry_set_update_loop ?_
  rw[Around.under_plainId PyProof.Rows.F.plain_set_update_loop _]
  show wpAny _ A.in1 (pyNext (.ref I) >>=_) _ _ s
  refine wpAny_bind (wpAny_pyNext_list_end hh hit hl (by simp[hin]) fun h' he'=>?_)
  show wpAny _ A.in1 (ret Value.none) _ _ _
  have e1:kk.take i=kk:=by rw[List.take_of_length_le];rw[hin,hK.1];exact Nat.le_refl _
  rw[e1]at T
  exact wpAny_pure (hR h' s.toks es ep t m cells (fun b o _ hb q=>he' b o hb q) (T.stay hit hSI fun b o hb q=>he' b o hb q))
 |succ r ih=>
  rintro i s hr hi hit hl hK ⟨es,ep,t,m,cells,T⟩ hR
  have hlt:i<items.size:=by omega
  refine codeAny_builtin PyProof.Rows.F.entry_set_update_loop ?_
  rw[Around.under_plainId PyProof.Rows.F.plain_set_update_loop _]
  show wpAny _ A.in1 (pyNext (.ref I) >>=_) _ _ s
  have hx:items[i]? =some items[i]:=by simp[hlt]
  refine wpAny_bind (wpAny_pyNext_list_item hit hl hx fun h' hit' hs'=>?_)
  obtain⟨b,k,ev,ek,hk⟩:=hK.2 i _ hx
  rw[ev]
  have hext:∀b o,b≠I→s.heap.get? b=some o→h'.get? b=some o:=fun b o hb q=>hs'.extBut b o hb q
  have T':=T.stay hit hSI hext
  have hk':IsTupleKey knd h' k b:=tk_keep hk fun o q=>hext b o (tk_ne_iter hit hk) q
  show wpAny _ A.in1 (holding [Value.ref b] (setAdd S (.ref b)) >>=_) _ _ { s with heap:=h' }
  have hlen:(dd (kk.take i)).length≤3:=by
   have:=dd_le _ (kk.take i) rfl
   have h2:(kk.take i).length≤i:=by rw[List.length_take];omega
   omega
  refine wpAny_bind (wpAny_holding (wp_add (s:={ s with heap:=h' }) T' hlen hu hk' fun h'' tk es' ep' t' m' cells' bb hsb T''=>?_))
  have e1:kk.take (i+1)=kk.take i++[k]:=by rw[List.take_succ,ek];rfl
  rw[←dd_snoc,←e1]at T''
  have hset:∃o es ep t,h'.get? S=some o∧o.data=.set es ep t:=⟨_,_,_,_,T'.obj,rfl⟩
  refine wpAny_pure ⟨plainId_quiet PyProof.Rows.F.plain_set_update_loop _,ih (i+1) { s with heap:=h'',toks:=tk } (by omega) hlt ?_ ?_ ?_ ⟨es',ep',t',m',cells',T''⟩ ?_⟩
  ·exact hit'.at fun o q=>(hsb.2 I (fun z=>hSI z.symm)).trans q
  ·exact(hl.extBut (fun b o hb q=>hext b o hb q) hlI).at fun o q=>(hsb.2 l hSl).trans q
  ·refine⟨hK.1,fun j v hv=>?_⟩
   obtain⟨b2,k2,c1,c2,c3⟩:=hK.2 j v hv
   refine⟨b2,k2,c1,c2,tk_keep c3 fun o q=>?_⟩
   have q2:=hext b2 o (tk_ne_iter hit c3) q
   have c3':IsTupleKey knd h' k2 b2:=tk_keep c3 fun o q=>hext b2 o (tk_ne_iter hit c3) q
   exact(hsb.2 b2 (tk_ne_set hset c3')).trans q2
  ·intro h3 tk3 es3 ep3 t3 m3 cells3 k3 T3
   exact hR h3 tk3 es3 ep3 t3 m3 cells3 (fun b o h1 h2 q=>k3 b o h1 h2 ((hsb.2 b h1).trans (hext b o h2 q))) T3
theorem tab_fresh(led:Bool):Tab (α:=Int×Value) (SetTable.fresh 0 0 led) #[] 0 (List.replicate 8 none):=⟨rfl,(by show(#[]:Array Nat)=placeM 0;decide),rfl,by decide,rfl,by decide,rfl⟩
theorem TS.fresh{h:Heap}{S:Addr}{led:Bool}(ho:h.get? S=some { cls:=.type "set",dict:=none,data:=.set #[] 0 (.fresh 0 0 led) }):TS knd h S [] #[] 0 (SetTable.fresh 0 0 led) 0 (List.replicate 8 none):=
 ⟨ho,tab_fresh led,fun j e he=>by
  have:(List.replicate 8 (none:Option (Int×Value)))[j]? =some (some e):=he
  rw[List.getElem?_replicate]at this
  split at this<;>simp at this,fun k hk=>absurd hk (by simp),List.nodup_nil,rfl⟩
end
end CkT
namespace PySem
section
variable {prog:Program}{w:World}{K:Type} [DecidableEq K]{knd:KeyKind prog w K}{A:Around}{E:Value→Shared→Prop}{s:Shared}
set_option maxRecDepth 100000 in
set_option maxHeartbeats 3200000 in
theorem call_set_tuples{l:Addr}{items:Array Value}{kk:List (List K)}{Q:Value→Shared→Prop}
  (hh:A.handled=none)(hu:A.units+16<cLine)(hl:s.heap.IsList l items)(hK:CkT.Keyed knd s.heap items kk)(h4:items.size≤4)
  (h:∀(h':Heap) (tk:Nat) es ep t m cells,CkT.TS knd h' s.heap.objs.size (CkT.dd kk) es ep t m cells→
   (∀b o,b<s.heap.objs.size→s.heap.get? b=some o→h'.get? b=some o)→Q (.ref s.heap.objs.size) { s with heap:=h',toks:=tk }):
  wpAny (model prog w) A (call (.type "set") [.ref l]) Q E s:=by
 obtain⟨c,tl,hmro⟩:=F.called_set.mro
 have hmade:=F.called_set.made
 have hsub:=F.called_set.sub
 refine wpAny_call (codeAny_of_tree ?_)
 show wpAny _ _ (callAny (.type "set") _) _ _ _
 refine wpAny_pure ⟨Code.quiet_builtin _ (by decide +kernel),codeAny_builtin F.entry_type_call ?_⟩
 rw[Around.under_plain (weight_type_call_type "set" [.ref l] []) rfl]
 have h1:=F.called_set.notType
 have h2:=F.called_set.canCreate
 have hct:=F.typeCall_set_1 (.ref l)
 repeat (any_goals (first | assumption | wp_step))
 refine codeAny_mono (code_set_new_1 (.ref l) (E:=E) (Q₁:=fun obj s₁=>∃led:Bool,obj=.ref s.heap.objs.size∧s₁={ s with heap:=s.heap.push { cls:=.type "set",dict:=none,data:=.set #[] 0 (.fresh 0 0 led) } }) fun led=>⟨led,rfl,rfl⟩) fun r s₁ hr=>?_
 cases r with
 |error e=>exact hr
 |ok fl=>
  cases fl with
  |ret obj=>
   obtain⟨led,rfl,rfl⟩:=hr
   have hS:(s.heap.push { cls:=.type "set",dict:=none,data:=.set #[] 0 (.fresh 0 0 led) }).get? s.heap.objs.size=some { cls:=.type "set",dict:=none,data:=.set #[] 0 (.fresh 0 0 led) }:=Heap.get?_push_size _ rfl
   have hT:Shared.TypeIs { s with heap:=s.heap.push { cls:=.type "set",dict:=none,data:=.set #[] 0 (.fresh 0 0 led) } } (.ref s.heap.objs.size) "set":=⟨_,hS,rfl⟩
   have hli:=F.called_set.init.lookup
   have hbi:=F.called_set.init.bind (.ref s.heap.objs.size)
   repeat (any_goals (first | assumption | wp_step))
   refine codeAny_mono (codeAny_call_builtin (R:=wants (fun r s₂=>r=.none∧∃h' tk es ep t m cells,s₂={ s with heap:=h',toks:=tk }∧
     CkT.TS knd h' s.heap.objs.size (CkT.dd kk) es ep t m cells∧
     (∀b o,b<s.heap.objs.size→s.heap.get? b=some o→h'.get? b=some o)) E) F.called_set.init.plain F.entry_set_init (check_set_init_1 hT ?_)) fun r₂ s₂ hr₂=>?_
   ·obtain⟨ol,hol,hcl,nl,hdl⟩:=hl
    obtain⟨ocls,odict,odata,oslots⟩:=ol
    simp only at hcl hdl
    subst hcl;subst hdl
    have hol':(s.heap.push { cls:=.type "set",dict:=none,data:=.set #[] 0 (.fresh 0 0 led) }).get? l=some { cls:=.type "list",dict:=odict,data:=.seq items nl,slots:=oslots }:=Heap.get?_push_of_some _ hol
    have hsls:=F.sub_list_set
    have hslf:=F.sub_list_frozenset
    have hne:(Value.type "list"==Value.type "dict")=false:=by decide
    have hl1:(s.heap.push { cls:=.type "set",dict:=none,data:=.set #[] 0 (.fresh 0 0 led) }).IsList l items:=⟨_,hol',rfl,nl,rfl⟩
    unfold Builtin.«set.__init__» noKeywords Builtin.Frozenset.updateFrom
    generalize hPI:pyIter=PI
    wp_walk
    subst hPI
    refine wpAny_pyIter_list hl1 ?_
    refine wpAny_bind (wpAny_runValue ?_)
    have hlS:l<s.heap.objs.size:=Heap.lt_size hol
    have hh3:A.in1.in1.in1.handled=none:=by simp[hh]
    have hu3:A.in1.in1.in1.units<cLine:=by show A.units+1+1+1<cLine;omega
    have hsz1:(s.heap.push { cls:=.type "set",dict:=none,data:=.set #[] 0 (.fresh 0 0 led) }).objs.size=s.heap.objs.size+1:=Heap.size_push ..
    have hneI:l≠(s.heap.push { cls:=.type "set",dict:=none,data:=.set #[] 0 (.fresh 0 0 led) }).objs.size:=by
     rw[Heap.size_push];exact Nat.ne_of_lt (Nat.lt_succ_of_lt hlS)
    have hget:((s.heap.push { cls:=.type "set",dict:=none,data:=.set #[] 0 (.fresh 0 0 led) }).push { cls:=.type "list_iterator",data:=.fields #[.ref l,.int 0 0] }).get? s.heap.objs.size
       =some { cls:=.type "set",dict:=none,data:=.set #[] 0 (.fresh 0 0 led) }:=Heap.get?_push_of_some _ hS
    refine CkT.code_loop (knd:=knd) (kk:=kk) hh3 hu3 (by rw[hsz1];exact Nat.ne_of_lt (Nat.lt_succ_self _)) hneI (Nat.ne_of_lt hlS) h4 (items.size-0) 0 _ (by omega) (Nat.zero_le _)
     ⟨_,Heap.get?_push_size _ rfl,rfl,rfl⟩ (hl1.push _) ⟨hK.1,fun i v hv=>?_⟩ ⟨_,_,_,_,_,CkT.TS.fresh hget⟩ ?_
    ·obtain⟨b,k,c1,c2,c3⟩:=hK.2 i v hv
     exact⟨b,k,c1,c2,CkT.tk_keep c3 fun o q=>Heap.get?_push_of_some _ (Heap.get?_push_of_some _ q)⟩
    ·intro h' tk es ep t m cells hkeep TT
     refine wpAny_pure ?_
     show wpAny _ _ (ret Value.none) _ _ _
     refine wpAny_pure ⟨rfl,h',tk,es,ep,t,m,cells,rfl,TT,fun b o hb e=>?_⟩
     exact hkeep b o (Nat.ne_of_lt hb) (by rw[hsz1];exact Nat.ne_of_lt (Nat.lt_succ_of_lt hb)) (Heap.get?_push_of_some _ (Heap.get?_push_of_some _ e))
   ·cases r₂ with
    |error e=>exact hr₂
    |ok fl₂=>
     cases fl₂ with
     |ret r=>
      obtain⟨rfl,h',tk,es,ep,t,m,cells,rfl,hS',hk'⟩:=hr₂
      repeat (any_goals (first | assumption | wp_step))
      exact h _ _ _ _ _ _ _ hS' hk'
     |_=>exact hr₂.elim
  |_=>exact hr.elim
end
end PySem
namespace PySem
section
variable {prog:Program}{w:World}{K:Type} [DecidableEq K]{knd:HeapKind prog w K}{A:Around}{E:Value→Shared→Prop}{s:Shared}
theorem ck_setDefault_heap{d a:Addr}{xs:List (K×Addr×Value)}{k:K}{v:Value}{Q:Value→Shared→Prop}(hu:knd.room A)(hkey:knd.is s.heap k a)(hm:s.heap.DictOfH knd d xs)
  (h1:∀p,atKey xs k=some p→Q p.2 { s with toks:=s.toks+knd.draws k })
  (h2:atKey xs k=none→∀h',h'.DictOfH knd d (storedH xs k a v)→Heap.SameBut d s.heap h'→Q v { s with heap:=h',toks:=s.toks+knd.draws k })
  (hsz:xs.length≤sizeLine):
  wpAny (model prog w) A (dictSetDefault d (.ref a) v) Q E s:=by
 obtain⟨o,es,ep,ho,hc,hd,he,his,hn⟩:=hm
 unfold dictSetDefault
 try with_reducible refine wpAny_holding ?_
 refine wpAny_bind (knd.pyHash hu hkey ?_)
 refine wpAny_bind (wpAny_dictFind_heap (s:={ s with toks:=s.toks+knd.draws k }) hu hkey ho hd he his hn ?_ ?_)
 ·intro hno
  have hnot:k∉xs.map (·.1):=not_mem_keys_of_get hno
  refine wpAny_bind (wpAny_rule (wpAny_bind (wpAny_updateDictKeys (hz:=by have e:=size_of_entries he;omega) (s:={ s with toks:=s.toks+knd.draws k }) ho hd (wpAny_pure (h2 (atKey_none_of_get hno) _ ⟨_,_,ep+1,Heap.get?_update_self _ ho (Obj.isFreed_of_dict (Obj.data_mapDictKeys hd _)),
   hc.mapDictKeys _,Obj.data_mapDictKeys hd _,?_,?_,?_⟩ (Heap.SameBut.update ..))))))
  ·rw[storedH_new (atKey_none_of_get hno)]
   simp[he,entryOfKey]
  ·rw[storedH_new (atKey_none_of_get hno)]
   intro x hx
   rcases List.mem_append.mp hx with hx | hx
   ·exact knd.keeps (his x hx) ho hd (Heap.SameBut.update ..)
   ·simp only[List.mem_singleton]at hx
    subst hx
    exact knd.keeps hkey ho hd (Heap.SameBut.update ..)
  ·rw[storedH_new (atKey_none_of_get hno)]
   rw[List.map_append,List.nodup_append]
   refine⟨hn,by simp,?_⟩
   intro x hx y hy
   simp only[List.map_cons,List.map_nil,List.mem_singleton]at hy
   subst hy
   exact fun e=>hnot (e▸hx)
 ·intro j p hj
  have h1':=h1 p (atKey_of_get hn hj)
  refine wpAny_bind (wpAny_dictEntries (s:={ s with toks:=s.toks+knd.draws k }) ho hd ?_)
  rw[entry_at he j,hj]
  exact wpAny_bind (wpAny_rule (wpAny_pure h1'))
theorem ck_meetsH_setdefault(d a:Addr)(hd:(d==sysModules)=false)(dflt:Value):
  MeetsIn prog w (Builtin.«dict.setdefault» ⟨[.ref d,.ref a,dflt],[]⟩) (fun A R s=>knd.room A.in1∧∃k xs,knd.is s.heap k a∧s.heap.DictOfH knd d xs∧xs.length≤sizeLine∧
   (∀p,atKey xs k=some p→R (.ok (.ret p.2)) { s with toks:=s.toks+knd.draws k })∧
   (atKey xs k=none→∀h',h'.DictOfH knd d (storedH xs k a dflt)→Heap.SameBut d s.heap h'→R (.ok (.ret dflt)) { s with heap:=h',toks:=s.toks+knd.draws k })):=
 .of_wp fun A R s ⟨hu,k,xs,hkey,hm,hz,h1,h2⟩=>by
  unfold Builtin.«dict.setdefault»
  refine wpAny_bind ?_
  unfold Builtin.Dict.keyAndDefault
  refine wpAny_bind (wpAny_notOrdered_dict hm.typeIs ?_)
  show wpAny _ _ (pure (d,Value.ref a,some dflt)) _ _ s
  refine wpAny_pure ?_
  show wpAny _ _ (if(d==sysModules)=true then _ else(dictSetDefault d (.ref a) dflt >>=_)) _ _ s
  rw[if_neg (by rw[hd];exact Bool.false_ne_true)]
  exact wpAny_bind (ck_setDefault_heap hu hkey hm (fun p hp=>wpAny_pure ⟨p.2,rfl,h1 p hp⟩) (fun hn h' hm' hs'=>wpAny_pure ⟨dflt,rfl,h2 hn h' hm' hs'⟩) hz)
end
end PySem
namespace PySem
namespace F
theorem ck_typeCall_enum(a b:Value):checkTypeCall "enumerate" ⟨[a],[("start",b)]⟩=pure ():=by kernel_rfl
theorem ck_newCall_enum(a b:Value):checkBuiltinCall "enumerate.__new__" ⟨[.type "enumerate",a],[("start",b)]⟩=pure ():=by kernel_rfl
theorem ck_args_init(a b c:Value):argsOk "object.__init__" ⟨[a,b],[("start",c)]⟩:=by
 unfold argsOk;rw[signature?_of (id:= "object.__init__") (n:=['_','_','t','i','n','i','_','_']) (o:=['t','c','e','j','b','o']) (by kernel_rfl) owner_object];kernel_rfl
end F
section
variable {prog:Program}{w:World}{A:Around}{E:Value→Shared→Prop}{s:Shared}
open AutoSeq1 (wpAny_loadPart')
theorem ck_meets_enum(l:Addr)(items:Array Value)(n:Nat)(dct:Option Addr)(sl:Array (Option Value))(i:Int)(tk0:Tok)(hf:Builtin.SmallTypes.fitsIndex i=true):
  Meets (Builtin.«enumerate.__new__» ⟨[.type "enumerate",.ref l],[("start",.int i tk0)]⟩) (fun _ R s=>s.heap.get? l=some { cls:=.type "list",dict:=dct,data:=.seq items n,slots:=sl }∧
   R (.ok (.ret (.ref (s.heap.push { cls:=.type "list_iterator",data:=.fields #[.ref l,.int 0 0] }).objs.size)))
    { s with heap:=(s.heap.push { cls:=.type "list_iterator",data:=.fields #[.ref l,.int 0 0] }).push { cls:=.type "enumerate",data:=.fields #[.none,.bool false,.ref s.heap.objs.size,rawInt i,.none,.none] } }):=
 .of_wp fun prog w A R s h=>by
  obtain⟨hp,g,d,tk,os⟩:=s;obtain⟨hl,h⟩:=h
  have hsub:=sub_enumerate
  have hL:Heap.IsList (Shared.heap ⟨hp,g,d,tk,os⟩) l items:=⟨_,hl,rfl,n,rfl⟩
  wp_walk using wpAny_loadPart' hl
  refine wpAny_stack_any fun st=>wpAny_pure ?_
  have hnf:(!Builtin.SmallTypes.fitsIndex i)=false:=by rw[hf];rfl
  split
  ·rename_i c _ _ _ _ _
   cases (c==Value.type "enumerate")
   ·wp_walk using wpAny_loadPart' hl,wpAny_pyIter_list hL
    exact⟨_,rfl,h⟩
   ·wp_walk using wpAny_loadPart' hl,wpAny_pyIter_list hL
    exact⟨_,rfl,h⟩
  ·wp_walk using wpAny_loadPart' hl,wpAny_pyIter_list hL
   exact⟨_,rfl,h⟩
theorem ck_init_meets{T newId:String}{self a:Value}{kw:List (Str×Value)}(hl:typeLookup (.type T) "__init__"=pure (some (.builtin "object.__init__")))
  (hm:Bind.madeBy (.type T)=pure (some newId))(hne:(some newId != some "object.__new__")=true):
  Meets (Builtin.«object.__init__» ⟨[self,a],kw⟩) (fun _ R s=>s.TypeIs self T∧R (.ok (.ret .none)) s):=by
 refine Meets.of_wp fun prog w A R s hs=>?_
 obtain⟨hT,hq⟩:=hs
 repeat (any_goals (first | assumption | wp_step))
 exact⟨_,rfl,hq⟩
theorem ck_callType_kw{T newId initId:String}{Bn Bi:Builtin}{args:List Value}{kw:List (Str×Value)}{S:Spec}{Q Q₁:Value→Shared→Prop}(ft:TypeCalled T newId initId)
  (hct:checkTypeCall T ⟨args,kw⟩=pure ())(hcn:checkBuiltinCall newId ⟨.type T::args,kw⟩=pure ())
  (entryN:entryFor table newId=some Bn)(entryI:entryFor table initId=some Bi)(g:Meets (Bn ⟨.type T::args,kw⟩) S)
  (h:S A.in1 (wants Q₁ E) s)
  (hnext:∀obj s₁,Q₁ obj s₁→s₁.TypeIs obj T∧argsOk initId ⟨obj::args,kw⟩∧∃Si,Meets (Bi ⟨obj::args,kw⟩) Si∧Si A.in1 (wants (fun r s₂=>r=.none∧Q obj s₂) E) s₁):
  wpAny (model prog w) A (call (.type T) args kw) Q E s:=by
 obtain⟨c,tl,hmro⟩:=ft.mro
 have hmade:=ft.made
 have hsub:=ft.sub
 refine wpAny_call (codeAny_of_tree ?_)
 show wpAny _ _ (callAny (.type T) _) _ _ _
 refine wpAny_pure ⟨Code.quiet_builtin _ (by decide +kernel),codeAny_builtin F.entry_type_call ?_⟩
 rw[Around.under_plain (weight_type_call_type T args kw) (units_type_call_type T args kw)]
 have h1:=ft.notType
 have h2:=ft.canCreate
 repeat (any_goals (first | assumption | wp_step))
 refine codeAny_mono (codeAny_call_builtin ft.plain entryN (wpAny_of_eq hcn (g prog w A.in1 _ s h))) fun r s₁ hr=>?_
 cases r with
 |error e=>exact hr
 |ok fl=>
  cases fl with
  |ret obj=>
   obtain⟨hT,hok,Si,gi,hsi⟩:=hnext _ _ hr
   have hli:=ft.init.lookup
   have hbi:=ft.init.bind obj
   repeat (any_goals (first | assumption | wp_step))
   refine codeAny_mono (codeAny_call_builtin ft.init.plain entryI (ft.init.check _ _ _ _ _ _ _ _ hT hok (gi prog w A.in1 _ s₁ hsi))) fun r₂ s₂ hr₂=>?_
   cases r₂ with
   |error e=>exact hr₂
   |ok fl₂=>
    cases fl₂ with
    |ret r=>
     obtain⟨rfl,hq⟩:=hr₂
     repeat (any_goals (first | assumption | wp_step))
    |_=>exact hr₂.elim
  |_=>exact hr.elim
theorem ck_call_enum{l:Addr}{items:Array Value}{i:Int}{tk0:Tok}{Q:Value→Shared→Prop}(hL:s.heap.IsList l items)(hf:Builtin.SmallTypes.fitsIndex i=true)
  (h:∀h',IsEnum h' (s.heap.objs.size+1) s.heap.objs.size i .none→h'.IsListIter s.heap.objs.size l 0→h'.objs.size=s.heap.objs.size+2→
   (∀b o,s.heap.get? b=some o→h'.get? b=some o)→Q (.ref (s.heap.objs.size+1)) { s with heap:=h' }):
  wpAny (model prog w) A (call (.type "enumerate") [.ref l] [("start",.int i tk0)]) Q E s:=by
 obtain⟨⟨c,dct,dt,sl⟩,hl,hc,n,hd⟩:=hL
 replace hc:c=.type "list":=hc
 replace hd:dt=.seq items n:=hd
 subst hc hd
 refine ck_callType_kw (Q₁:=fun obj s₁=>s₁.TypeIs obj "enumerate"∧Q obj s₁) F.called_enumerate (F.ck_typeCall_enum _ _) (F.ck_newCall_enum _ _) F.entry_enumerate_new F.entry_object_init
  (ck_meets_enum l items n dct sl i tk0 hf) ⟨hl,?_⟩ fun obj _ hq=>⟨hq.1,F.ck_args_init obj _ _,_,ck_init_meets F.called_enumerate.init.lookup F.called_enumerate.made (by decide),hq.1,rfl,hq.2⟩
 have hz:(s.heap.push { cls:=.type "list_iterator",data:=.fields #[.ref l,.int 0 0] }).objs.size=s.heap.objs.size+1:=Heap.size_push ..
 show _∧_
 rw[hz]
 have he:IsEnum ((s.heap.push { cls:=.type "list_iterator",data:=.fields #[.ref l,.int 0 0] }).push
   { cls:=.type "enumerate",data:=.fields #[.none,.bool false,.ref s.heap.objs.size,rawInt i,.none,.none] }) (s.heap.objs.size+1) s.heap.objs.size i .none:=by
  have:=Heap.get?_push_size (s.heap.push { cls:=.type "list_iterator",data:=.fields #[.ref l,.int 0 0] })
   (o:={ cls:=.type "enumerate",data:=.fields #[.none,.bool false,.ref s.heap.objs.size,rawInt i,.none,.none] }) rfl
  rw[hz]at this;exact this
 refine⟨⟨_,he,rfl⟩,h _ he ⟨_,Heap.get?_push_of_some _ (Heap.get?_push_size _ rfl),rfl,rfl⟩ (by rw[Heap.size_push,hz]) fun b o x=>Heap.get?_push_of_some _ (Heap.get?_push_of_some _ x)⟩
end
end PySem
namespace L2
open PySem PySem.Spec PyProof.Rows
def KTup(K:PySem.W.Frag)(ks:List Key)(b:Addr):Prop:=∃(o:Obj) (its:Array Value) (n:Nat),K.lookup b=some o∧o.cls=.type "tuple"∧o.data=.seq its n∧Vals (ks.map kV) its.toList
def MKT(K:PySem.W.Frag):List (List Key×V)→List (List Key×Addr×Value)→Prop:=Paired fun p q=>p.1=q.1∧KTup K p.1 q.2.1∧RelV p.2 q.2.2
def ModD(P:Program)(w:World)(K:PySem.W.Frag)(a:Addr)(kvs:List (List Key×V)):Prop:=
 (a==sysModules)=false∧∃xs,MKT K kvs xs∧∃o es ep,K.lookup a=some o∧o.ExactDict∧o.data=.dict es ep∧es.toList=xs.map (entryOfKey (tupleKind (mixKind P w)))∧(xs.map (·.1)).Nodup
theorem MKT.val{K:PySem.W.Frag}{kvs:List (List Key×V)}{xs:List (List Key×Addr×Value)}(r:MKT K kvs xs)(k:List Key):RelO (valV kvs k) ((atKey xs k).map (·.2)):=by
 unfold MKT at r
 induction r with
 |nil=>exact True.intro
 |@cons p q ps qs h t ih=>
  obtain⟨h1,_,h2⟩:=h
  by_cases e:p.1=k
  ·have e':q.1=k:=h1.symm.trans e
   have b:atKey (q::qs) k=some q.2:=by simp[atKey,List.find?_cons,e']
   rw[yM e,b];exact h2
  ·have e':¬q.1=k:=fun z=>e (h1.trans z)
   have b:atKey (q::qs) k=atKey qs k:=by simp[atKey,List.find?_cons,e']
   rw[yN e,b];exact ih
theorem KTup.is{P:Program}{w:World}{K:PySem.W.Frag}{h:Heap}{ks:List Key}{b:Addr}(t:KTup K ks b)(X:K.In h):(tupleKind (mixKind P w)).is h ks b:=by
 obtain⟨o,its,n,h1,h2,h3,h4⟩:=t
 exact⟨o,its,n,X _ _ h1,h2,h3,items_are h4⟩
theorem ModD.at{P:Program}{w:World}{K:PySem.W.Frag}{h:Heap}{a:Addr}{kvs:List (List Key×V)}(D:ModD P w K a kvs)(X:K.In h):(a==sysModules)=false∧∃xs,(∀k,RelO (valV kvs k) ((atKey xs k).map (·.2)))∧h.DictOfH (tupleKind (mixKind P w)) a xs:=by
 obtain⟨z,xs,r,o,es,ep,h1,h2,h3,h4,h5⟩:=D
 refine⟨z,xs,r.val,o,es,ep,X _ _ h1,h2,h3,h4,fun x hx=>?_,h5⟩
 have all:∀{l:List (List Key×V)} {m:List (List Key×Addr×Value)},MKT K l m→∀x∈m,(tupleKind (mixKind P w)).is h x.1 x.2.1:=by
  intro l m q
  unfold MKT at q
  induction q with
  |nil=>intro x hx;exact nomatch hx
  |@cons p q ps qs hq t ih=>
   intro x hx
   rcases List.mem_cons.mp hx with e | hx
   ·subst e
    exact KTup.is (by rw[←hq.1];exact hq.2.1) X
   ·exact ih x hx
 exact all r x hx
section
variable {X:Cx}{pins:List (Addr×Obj)}{σ:St}{H:Hp}{s:Shared}{a b:Addr}{kvs:List (List Key×V)}{k:List Key}{A:Around}{E:Value→Shared→Prop}
theorem m_getItem{v:V}{Q:Value→Shared→Prop}(hu:A.units+1<cLine)(I:Inv X pins σ H s)(D:ModD X.prog X.w X.K a kvs)(eb:H b=some (.tup (k.map kV)))(l:valV kvs k=some v)(h:∀w' s',Inv X pins σ H s'→RelV v w'→Q w' s'):
  wpAny (model X.prog X.w) A (getItem (.ref a) (.ref b)) Q E s:=by
 obtain⟨hd,xs,rel,dd⟩:=D.at I.kIn
 obtain⟨w',hw,rw'⟩:=RelO.some_of (v:=v) (o:=(atKey xs k).map (·.2)) (by rw[←l];exact rel k)
 obtain⟨p,hp,hp2⟩:=Option.map_eq_some_iff.mp hw
 refine wpAny_getItem_heap (tupleKind_room_in1 hu) (key_of I.hok eb) dd hp ?_
 rw[hp2]
 exact h w' _ (I.tok _) rw'
theorem m_in{Q:Value→Shared→Prop}(hu:A.units+1<cLine)(I:Inv X pins σ H s)(D:ModD X.prog X.w X.K a kvs)(eb:H b=some (.tup (k.map kV)))(h:∀s',Inv X pins σ H s'→Q (.bool (valV kvs k).isSome) s'):
  wpAny (model X.prog X.w) A (compareOp .In (.ref b) (.ref a)) Q E s:=by
 obtain⟨hd,xs,rel,dd⟩:=D.at I.kIn
 refine wpAny_in_heap (tupleKind_room_in1 hu) (key_of I.hok eb) hd dd ?_
 have q:=(rel k).isSome_eq
 rw[Option.isSome_map]at q
 rw[←q]
 exact h _ (I.tok _)
theorem m_get2{d:V}{r:Value}{Q:Value→Shared→Prop}(hu:A.units+1<cLine)(I:Inv X pins σ H s)(D:ModD X.prog X.w X.K a kvs)(eb:H b=some (.tup (k.map kV)))(rd:RelV d r)(h:∀w' s',Inv X pins σ H s'→RelV ((valV kvs k).getD d) w'→Q w' s'):
  wpAny (model X.prog X.w) A (call (.builtin "dict.get") [.ref a,.ref b,r]) Q E s:=by
 obtain⟨hd,xs,rel,dd⟩:=D.at I.kIn
 refine call_meetsIn PySem.F.slot_dict_get dd.typeIs PySem.F.entry_dict_get (PySem.F.args_dict_get_3 _ _ _) (meetsH_dict_get_default (tupleKind (mixKind X.prog X.w)) a b hd r) ⟨tupleKind_room_in1 hu,k,xs,key_of I.hok eb,dd,h _ _ (I.tok _) ?_⟩
 exact(rel k).getD rd
end
def tMItem(a:Addr)(kvs:List (List Key×V))(ty:TE):TE:=fun σ H Q=>ty σ H fun y H1=>∃k b v,y=.ref b∧H1 b=some (.tup (k.map kV))∧valV kvs k=some v∧Q v H1
def tMIn(a:Addr)(kvs:List (List Key×V))(ty:TE):TE:=fun σ H Q=>ty σ H fun y H1=>∃k b,y=.ref b∧H1 b=some (.tup (k.map kV))∧Q (.bl (valV kvs k).isSome) H1
def tMGet2(a:Addr)(kvs:List (List Key×V))(ty tx:TE):TE:=fun σ H Q=>ty σ H fun y H1=>tx σ H1 fun z H2=>∃k b,y=.ref b∧H2 b=some (.tup (k.map kV))∧Q ((valV kvs k).getD z) H2
section
variable {X:Cx}{e f i:Expr}{apos cpos pos p:Pos}{ty tx:TE}{a:Addr}{kvs:List (List Key×V)}{x:Str}
theorem pe_mitem(hu:X.A.units+1<cLine)(D:ModD X.prog X.w X.K a kvs)(hg:Gl X x)(hm:X.mg x=some (.ref a))(hi:PE X i ty)(hs:NoSl i)(hd:(x==("__debug__":Str))=false:=by decide):PE X (.Subscript (.Name x p) i pos) (tMItem a kvs ty):=by
 intro pins s σ H Q I h
 refine subD_of PySem.F.slot_dict_getitem.lookup hs (ld_glob I hg hm (thn (hi pins s σ H _ I h) fun iv s2 ⟨y,H2,I2,ry,k,b,v,ey,eb,l,q2⟩=>?_) hd)
 subst ey
 obtain rfl:iv=Value.ref b:=ry
 obtain⟨_,xs,_,dd⟩:=D.at I2.kIn
 exact⟨dd.typeIs,m_getItem hu I2 D eb l fun w' s3 I3 rw'=>⟨v,H2,I3,rw',q2⟩⟩
theorem pc_min(hu:X.A.units+1<cLine)(D:ModD X.prog X.w X.K a kvs)(hg:Gl X x)(hm:X.mg x=some (.ref a))(hi:PE X i ty)(hd:(x==("__debug__":Str))=false:=by decide):PC X .In i (.Name x p) (tMIn a kvs ty):=by
 intro pins s σ H Q I h
 refine thn (hi pins s σ H _ I h) fun iv s1 ⟨y,H1,I1,ry,k,b,ey,eb,q1⟩=>?_
 subst ey
 obtain rfl:iv=Value.ref b:=ry
 refine ld_glob I1 hg hm ?_ hd
 exact m_in hu I1 D eb fun s3 I3=>⟨.bl (valV kvs k).isSome,H1,I3,rfl,q1⟩
theorem pe_mget2(hu:X.A.units+1<cLine)(D:ModD X.prog X.w X.K a kvs)(hg:Gl X x)(hm:X.mg x=some (.ref a))(he:PE X e ty)(hf:PE X f tx)(m:M2 X (.Name x p) "get" apos e f cpos)(hd:(x==("__debug__":Str))=false:=by decide):
  PE X (.Call (.Attribute (.Name x p) "get" apos) [e,f] [] cpos) (tMGet2 a kvs ty tx):=by
 intro pins s σ H Q I h
 refine wpAny_Call_method m.base m.few m.line PySem.F.plainAttrs_dict PySem.F.slot_dict_get PySem.F.type_dict_get (ld_glob I hg hm ?_ hd)
 obtain⟨_,xs,_,dd⟩:=D.at I.kIn
 refine⟨dd.typeIs,fun b q=>?_,?_⟩
 ·cases q
  obtain⟨ob,_,_,h1,h2,_⟩:=dd
  exact⟨ob,h1,h2.2.1⟩
 rw[m.trees]
 refine Calls.callWith_builtin rfl (Calls.evalArgs_plain (Calls.spliced_cons (thn (he pins s σ H _ I h) fun iv s2 ⟨y,H2,I2,ry,q2⟩=>
  Calls.spliced_cons (thn (hf pins s2 σ H2 _ I2 q2) fun fv s3 ⟨z,H3,I3,rz,k,b,ey,eb,q3⟩=>Calls.spliced_nil ?_))))
 subst ey
 obtain rfl:iv=Value.ref b:=ry
 exact m_get2 hu I3 D eb rz fun w' s4 I4 rw'=>⟨_,H3,I4,rw',q3⟩
end
theorem putK_new'{kvs:List (List Key×V)}{k:List Key}(v:V)(h:valV kvs k=none):putK kvs k v=kvs++[(k,v)]:=putK_new v h
def tDSet(td ty tx:TE):TE:=fun σ H Q=>td σ H fun x H1=>∃a,x=.ref a∧IsD H1 a∧ty σ H1 fun y H2=>tx σ H2 fun z H3=>∃kvs k b,H3 a=some (.dT kvs)∧y=.ref b∧H3 b=some (.tup (k.map kV))∧kvs.length<sizeLine∧
 (∀v,valV kvs k=some v→Q v H3)∧(valV kvs k=none→Q z (upd H3 a (.dT (putK kvs k z))))
section
variable {X:Cx}{o e f:Expr}{apos cpos:Pos}{td ty tx:TE}
theorem pe_dsetdef(hu:X.A.units+1<cLine)(ho:PE X o td)(he:PE X e ty)(hf:PE X f tx)(m:M2 X o "setdefault" apos e f cpos):PE X (.Call (.Attribute o "setdefault" apos) [e,f] [] cpos) (tDSet td ty tx):=by
 intro pins s σ H Q I h
 refine wpAny_Call_method m.base m.few m.line PySem.F.plainAttrs_dict PySem.F.slot_dict_setdefault PySem.F.type_dict_setdefault (thn (ho pins s σ H _ I h) fun u s1 ⟨x,H1,I1,rx,a,ex,d,q1⟩=>?_)
 subst ex
 obtain rfl:u=Value.ref a:=rx
 obtain⟨t1,t2,hsm⟩:=isD_at I1 d
 refine⟨t1,t2,?_⟩
 rw[m.trees]
 refine Calls.callWith_builtin rfl (Calls.evalArgs_plain (Calls.spliced_cons (thn (he pins s1 σ H1 _ I1 q1) fun iv s2 ⟨y,H2,I2,ry,q2⟩=>
  Calls.spliced_cons (thn (hf pins s2 σ H2 _ I2 q2) fun fv s3 ⟨z,H3,I3,rz,kvs,k,b,hd,ey,eb,hl,qo,qn⟩=>Calls.spliced_nil ?_))))
 subst ey
 obtain rfl:iv=Value.ref b:=ry
 obtain⟨zl,hdm,xs,rel,dd⟩:=dt_of I3.hok hd
 have hz:xs.length≤sizeLine:=by rw[←Paired.length rel];exact zl
 have hl2:(putK kvs k z).length≤sizeLine:=by have:=length_putK kvs k z;omega
 have rel':=rel
 refine call_meetsIn PySem.F.slot_dict_setdefault dd.typeIs PySem.F.entry_dict_setdefault (PySem.F.args_dict_setdefault_3 _ _ _) (ck_meetsH_setdefault (knd:=tupleKind (mixKind X.prog X.w)) a b hsm fv) ⟨tupleKind_room_in1 hu,k,xs,key_of I3.hok eb,dd,hz,fun p hp=>?_,fun hn h' dd' hs=>?_⟩
 ·have r:=rel.val k
  rw[hp]at r
  cases hv:valV kvs k with
  |none=>rw[hv]at r;exact False.elim r
  |some v=>
   rw[hv]at r
   exact⟨v,H3,I3.tok _,r,qo v hv⟩
 ·have r:=rel.val k
  rw[hn]at r
  have hv:valV kvs k=none:=by
   cases hv:valV kvs k with
   |none=>rfl
   |some v=>rw[hv]at r;exact False.elim r
  obtain⟨q,es,ep,hq,h2,h3,h4,_,h5⟩:=dd'
  refine⟨z,_,d_write (ob:=.dT (putK kvs k z)) I3 (by rw[hd];exact True.intro) hs ⟨q,hq⟩ ⟨hl2,hdm,_,(rel.put k eb rz).keeps fun c ys ec=>?_,q,es,ep,hq,h2,h3,h4,h5⟩,rz,qn hv⟩
  rw[zF (ne_of ec hd (fun z=>nomatch z))]
  exact ec
end
def SetN(p:Addr)(n:Nat):HO:=.ext fun h=>∃es ep t,h.get? p=some { cls:=.type "set",dict:=none,data:=.set es ep t,slots:=#[] }∧es.size=n∧SetTable.fits t es.size=true∧n≤7
section
variable {X:Cx}
theorem call_setT(hc:X.calm=true)(hu:X.A.units+16<cLine):CallR X (.type "set") (fun xs H Q=>∃(a:Addr) (ps:List Addr) (kk:List (List Key)),xs=[.ref a]∧SqL X.K H a (ps.map V.ref)∧Paired (fun(p:Addr) (k:List Key)=>H p=some (.tup (k.map kV))) ps kk∧kk.length≤4∧
  ∀l,H l=none→Q (.ref l) (upd H l (SetN l (CkT.dd kk).length))):=by
 intro pins s σ H xs us Q I r h
 obtain⟨a,ps,kk,rfl,hq,hp,h4,q⟩:=h
 cases r with
 |cons r rr=>
  cases rr
  cases r
  obtain⟨its,rv,p',hz⟩:=I.list hq
  have hlen:ps.length=kk.length:=Paired.length hp
  have hitl:its.length=ps.length:=by have:=rv.length;rw[List.length_map]at this;exact this.symm
  have hits:=refs_at rv
  have hpg:∀{ps:List Addr} {kk:List (List Key)},Paired (fun(p:Addr) (k:List Key)=>H p=some (.tup (k.map kV))) ps kk→∀(i:Nat) (b:Addr),ps[i]? =some b→∃k:List Key,kk[i]? =some k∧H b=some (.tup (k.map kV)):=by
   intro ps kk hp
   induction hp with
   |nil=>intro i b hb;simp at hb
   |cons h1 t ih=>
    intro i b hb
    cases i with
    |zero=>simp at hb;subst hb;exact⟨_,rfl,h1⟩
    |succ i=>simp at hb;obtain⟨k,e1,e2⟩:=ih i b hb;exact⟨k,by simpa using e1,e2⟩
  refine call_set_tuples (knd:=mixKind X.prog X.w) (kk:=kk) (I.ok.hd hc) hu p'.isList ⟨by simp;omega,fun i v hv=>?_⟩ (by simp;omega) fun h' tk es ep t m cells T hk=>?_
  ·rw[hits]at hv
   have hv':(ps.map Value.ref)[i]? =some v:=by simpa using hv
   rw[List.getElem?_map]at hv'
   cases e:ps[i]? with
   |none=>rw[e]at hv';cases hv'
   |some b=>
    rw[e]at hv'
    have:v=Value.ref b:=(Option.some.inj hv').symm
    subst this
    obtain⟨k,e1,e2⟩:=hpg hp i b e
    exact⟨b,k,rfl,e1,key_of I.hok e2⟩
  ·have hn:(CkT.dd kk).length≤4:=by have:=CkT.dd_le _ kk rfl;omega
   have hf:SetTable.fits t es.size=true:=CkT.tab_fits T.tab (by rw[T.cnt];omega)
   refine⟨.ref s.heap.objs.size,_,I.laid (a:=s.heap.objs.size) (o:=SetN s.heap.objs.size (CkT.dd kk).length) (t':=tk) (fun b u e=>hk b u (Heap.lt_size e) e) (Nat.le_refl _) ?_,rfl,q _ (I.hok.fresh (Nat.le_refl _))⟩
   refine⟨⟨es,ep,t,T.obj,T.cnt,hf,by omega⟩,⟨_,T.obj⟩,fun h1 h2 ⟨es,ep,t,c1,c2⟩ hx=>⟨es,ep,t,hx _ c1,c2⟩⟩
theorem call_lenS:CallR X (.builtin "len") (fun xs H Q=>∃p n,xs=[V.ref p]∧H p=some (SetN p n)∧Q (.int n) H):=by
 intro pins s σ H xs us Q I r h
 obtain⟨p,n,rfl,hp,q⟩:=h
 obtain⟨u,rfl,ru⟩:=vals1 r
 cases ru
 obtain⟨⟨es,ep,t,c1,c2,c3,c4⟩,_⟩:=I.hok p _ hp
 subst c2
 exact call_len_set c1 ⟨rfl,rfl,rfl⟩ rfl c3 (by omega) ⟨.int es.size,H,I.tok _,⟨_,rfl⟩,q⟩
end
theorem draws_from{prog:Program}{w:World}{A:Around}{it:Addr}{fp:List Addr}{n:Nat}{P:Nat→Value→Prop}{St:Nat→Heap→Prop}(D:Draws prog w A it fp n P St)(c:Nat):
  Draws prog w A it fp (n+c) (fun i v=>P (i-c) v) (fun i h=>c≤i∧St (i-c) h) where
 live:=fun i h st=>D.live _ _ st.2
 frame:=fun i h h' st k=>⟨st.1,D.frame _ _ _ st.2 k⟩
 item:=fun i s Q E hi st hQ=>D.item (i-c) s Q E (by have:=st.1;omega) st.2 fun x h' tk p st' sb=>hQ x h' tk p ⟨by have:=st.1;omega,by
  have e:i+1-c=i-c+1:=by have:=st.1;omega
  rw[e];exact st'⟩ sb
 done:=fun s Q E st hE=>D.done s Q E (by
  have e:n+c-c=n:=by omega
  have:=st.2
  rw[e]at this;exact this) hE
def IteS(K:PySem.W.Frag)(a:Addr)(c:Nat):It:=
 ⟨fun i H=>∃(xs:List V) (x:V),SqL K H a xs∧xs[i]? =some x,fun i H v H'=>∃T x,v=.ref T∧H T=none∧H'=upd H T (.tup [.int ((i+c:Nat):Int),x])∧∀xs,SqL K H a xs→xs[i]? =some x,fun i H=>∃xs:List V,SqL K H a xs∧xs.length≤i⟩
theorem enum_ne_list{h:Heap}{e it l:Addr}{i:Int}{old:Value}{items:Array Value}(he:IsEnum h e it i old)(hl:h.IsList l items):e≠l:=by
 rintro rfl
 obtain⟨o,h1,h2,_⟩:=hl
 rw[he]at h1;cases h1
 exact absurd (show Value.type "enumerate"=Value.type "list" from h2) (by decide)
theorem iter_ne_list{h:Heap}{it l:Addr}{i:Nat}{items:Array Value}(hi:h.IsListIter it l i)(hl:h.IsList l items):l≠it:=by
 rintro rfl
 obtain⟨o,h1,h2,_⟩:=hl
 obtain⟨o',q1,q2,_⟩:=hi
 rw[h1]at q1;cases q1
 rw[h2]at q2;exact absurd q2 (by decide)
theorem turn_enumS{P:Program}{w:World}{K:PySem.W.Frag}{elts:List Expr}{kk:Nat}{tpos:Pos}(a e it:Addr)(c:Nat):
  Turn P w K (.Tuple elts kk tpos) (IteS K a c) [e,it] e (fun i h=>(∃old,IsEnum h e it ((i+c:Nat):Int) old)∧h.IsListIter it a i∧e≠it) where
 mem:=by simp
 obj:=fun i h st b hb=>by
  obtain⟨⟨old,he⟩,⟨o,ho,hc,hd⟩,_⟩:=st
  rcases List.mem_cons.mp hb with z | z
  ·rw[z];exact⟨_,he,fun v q=>nomatch q⟩
  ·rw[List.mem_singleton.mp z];exact⟨o,ho,fun v q=>by rw[hd]at q;cases q⟩
 keep:=fun i h h' st k=>⟨⟨st.1.choose,k e (by simp) _ st.1.choose_spec⟩,st.2.1.at fun o q=>k it (by simp) o q,st.2.2⟩
 item:=by
  intro X hP hw hK hc i pins s σ H E I hf st hg
  subst hP hw hK
  obtain⟨⟨old,he⟩,hit,hne⟩:=st
  obtain⟨xs,x,hq,hx⟩:=hg
  obtain⟨its,rv,p,hz⟩:=I.list hq
  obtain⟨u,hu,ru⟩:=rv.get hx
  have hlen:=rv.length
  have hlt:i<its.length:=(List.getElem?_eq_some_iff.mp hu).1
  have hel:e<s.heap.objs.size:=Heap.lt_size he
  have hil:it<s.heap.objs.size:=hit.elim fun _ q=>Heap.lt_size q.1
  have hh:X.A.in1.handled=none:=I.ok.hd hc
  have DD:=draws_from (Draws.list (prog:=X.prog) (w:=X.w) (A:=X.A.in1) hh it a (iter_ne_list hit p.isList) its.toArray) c
  have hef:e∉[it,a]:=by
   simp only[List.mem_cons,List.not_mem_nil,or_false,not_or]
   exact⟨hne,enum_ne_list he p.isList⟩
  have ei:i+c-c=i:=by omega
  refine wpAny_pyNext_enum_itemD DD he ⟨by omega,by rw[ei];exact⟨hit,p.isList⟩⟩ (by simp;omega) hne hef fun x' h' tk hP ho hst' hT hsz hk=>?_
  have hx':x'=u:=by
   have h0:its.toArray[i+c-c]? =some x':=hP
   rw[ei]at h0
   have h1:its[i]? =some x':=by simpa using h0
   rw[hu]at h1
   exact(Option.some.inj h1).symm
  subst hx'
  have hit':h'.IsListIter it a (i+1):=by
   have e2:i+c+1-c=i+1:=by omega
   have:=hst'.2.1
   rw[e2]at this;exact this
  refine⟨_,rfl,wpAny_letOwnedTupleGo_enum (s:={ s with heap:=h',toks:=tk+1 }) ho fun h'' he' sb=>?_⟩
  have hT2:=(sb.2 _ (Nat.ne_of_gt hel)).trans hT
  have new:ObjOk X.prog X.w (upd H s.heap.objs.size (.tup [.int ((i+c:Nat):Int),x])) h'' s.heap.objs.size (.tup [.int ((i+c:Nat):Int),x]):=
   ⟨by show 2≤sizeLine;decide,[.int ((i+c:Nat):Int) tk,x'],.cons ⟨_,rfl⟩ (.cons ru .nil),⟨_,hT2,rfl,_,rfl⟩⟩
  have I1:=I.turnedNew (t':=tk+1) (ch:=[e,it]) (fun b ob hb q=>(sb.2 b (fun z=>hb (by simp[z]))).trans (hk b ob (fun z=>hb (by simp[z])) (fun z=>hb (by simp[z])) q)) hf (Nat.le_refl _) new
  refine⟨.ref s.heap.objs.size,_,I1,rfl,⟨_,x,rfl,I.hok.fresh (Nat.le_refl _),rfl,fun ys hy=>by rw[I.list_inj hy hq];exact hx⟩,⟨⟨x',?_⟩,hit'.at fun o q=>(sb.2 it (Ne.symm hne)).trans q,hne⟩,fun b hb=>?_⟩
  ·have e1:((i+1+c:Nat):Int)=((i+c:Nat):Int) +1:=by omega
   rw[e1];exact he'
  ·have hb':b<s.heap.objs.size:=by
    rcases List.mem_cons.mp hb with z | z
    ·rw[z];exact hel
    ·rw[List.mem_singleton.mp z];exact hil
   rw[zF (Nat.ne_of_lt hb')]
   exact(hf b hb).1
 done:=by
  intro X hP hw hK hc i pins s σ H E I hf st hg
  subst hP hw hK
  obtain⟨⟨old,he⟩,hit,hne⟩:=st
  obtain⟨xs,hq,hx⟩:=hg
  obtain⟨its,rv,p,hz⟩:=I.list hq
  obtain⟨f0,f1,f2,f3,f4,f5⟩:=hf it (by simp)
  have hl:=rv.length
  have hh:X.A.in1.handled=none:=I.ok.hd hc
  have DD:Draws X.prog X.w X.A.in1 it [it,a] 0 (fun _ _=>False) (fun _ h=>h.IsListIter it a i∧h.IsList a its.toArray):=
   ⟨fun _ h st=>st.1.elim fun o q=>⟨o,q.1⟩,fun _ _ _ st k=>⟨st.1.at fun o q=>k it (by simp) o q,st.2.at fun o q=>k a (by simp) o q⟩,
    fun _ _ _ _ hi _ _=>absurd hi (Nat.not_lt_zero _),fun s Q E st hE=>wpAny_nextOf_list_end hh st.1 st.2 (by simp;omega) hE⟩
  exact wpAny_pyNext_enum_endD DD he ⟨hit,p.isList⟩ fun h' eb=>⟨rfl,I.turned (t':=s.toks) (fun b o hb q=>eb b o hb q) f0 f1 f3 f4 f5⟩
 self:=fun A i s Q E st h=>st.1.elim fun _ he=>wpAny_pyIter_enum he h
theorem ck_callWith_typeKw{M:Model}{A:Around}{E:Value→Shared→Prop}{s:Shared}{pos:Pos}{T:String}{first:List Value}{args:List (Bool×Sem Value)}{kws:List (Option Str×Sem Value)}{Q:Value→Shared→Prop}
  (hplain:(args.any (·.1) || kws.any (·.1.isNone))=false)
  (h:wpAny M A (evalArgs (.type T) true args kws) (fun a s₁=>wpAny M A (call (.type T) (first++a.pos) a.kw) Q E s₁) E s):
  wpAny M A (callWith pos (.type T) first args kws) Q E s:=by
 unfold callWith
 refine wpAny_bind (wpAny_holding (wpAny_mono h (fun a s₁ h₁=>wpAny_bind (wpAny_standAt ?_)) fun _ _ x=>x))
 simp only[hplain]
 refine wpAny_bind (wpAny_pure ?_)
 exact wpAny_bind (wpAny_mono h₁ (fun r s₂ hr=>wpAny_bind (wpAny_holding (wpAny_point (wpAny_pure hr)))) fun _ _ x=>x)
def iEnumS(K:PySem.W.Frag)(c:Nat)(ta:TA):TI:=fun σ H R=>ta σ H fun vs H1=>∃a xs,vs=[.ref a]∧SqL K H1 a xs∧R (IteS K a c) H1
theorem pi_enumS{X:Cx}{e:Expr}{ta:TA}{p pos tpos p1 p2:Pos}{c:Nat}{j:Nat}{elts:List Expr}{kk:Nat}(hf:Builtin.SmallTypes.fitsIndex (c:Int)=true)(hg:Gl X "enumerate")(hm:X.mg "enumerate"=none)(ha:PA X [e] ta)(hs:starEach [e] X.env=[(false,eval e X.env)]:=by rfl):
  PI X (.Tuple elts kk tpos) (.Call (.Name "enumerate" p) [e] [⟨some "start",.Constant (.int (c:Int)) j p1,p2⟩] pos) (iEnumS X.K c ta):=by
 intro pins s σ H R I h
 refine wpAny_Call_Name_kw (ld_blt I hg hm boot_enumerate ?_)
 refine ck_callWith_typeKw (by rw[hs];rfl) (PyProof.Rows.evalArgs_kw2 rfl (thn (ha pos pins s σ H _ I h) fun us s1 ⟨vs,H1,I1,r1,q1⟩=>PyProof.Rows.kwAll_cons (wpAny_Constant_int (PyProof.Rows.kwAll_nil ?_))) hs)
 obtain⟨a,xs,ex,hq,q⟩:=q1
 subst ex
 cases r1 with
 |cons r rr=>
  cases rr
  cases r
  have I1:=I1.tok (s1.toks+1)
  obtain⟨its,rv,p',hz⟩:=I1.list hq
  refine ck_call_enum (s:={ s1 with toks:=s1.toks+1 }) p'.isList hf fun h' he hit hsz hk=>wpAny_pyIter_enum he ?_
  have I2:Inv X pins σ H1 { s1 with heap:=h',toks:=s1.toks+1 }:=I1.kept (t':=s1.toks+1) hk
  have he0:∃old,IsEnum h' (s1.heap.objs.size+1) s1.heap.objs.size ((0+c:Nat):Int) old:=⟨.none,by rw[Nat.zero_add];exact he⟩
  refine⟨s1.heap.objs.size+1,[s1.heap.objs.size+1,s1.heap.objs.size],_,_,H1,rfl,I2,turn_enumS a (s1.heap.objs.size+1) s1.heap.objs.size c,⟨he0,hit,Nat.succ_ne_self _⟩,fun b hb=>?_,q⟩
  have hle:s1.heap.objs.size≤b:=by
   rcases List.mem_cons.mp hb with z | z
   ·rw[z];exact Nat.le_add_right _ _
   ·rw[List.mem_singleton.mp z];exact Nat.le_refl _
  exact I1.fpOk hle (I1.hok.fresh hle)
theorem for_enum{K:PySem.W.Frag}{a:Addr}{J:It}{xs:List V}{g:TG}{tb:TS}{D:Ends}{σ:St}{H:Hp}{num:Nat→Int}
  (hgo:∀i H,(∃(xs:List V) (x:V),SqL K H a xs∧xs[i]? =some x)→J.go i H)(hstop:∀i H,(∃xs:List V,SqL K H a xs∧xs.length≤i)→J.stop i H)
  (hyld:∀i H v H',J.yld i H v H'→∃T x,v=.ref T∧H T=none∧H'=upd H T (.tup [.int (num i),x])∧∀xs,SqL K H a xs→xs[i]? =some x)
  (Pv:Nat→St→Hp→Prop)(h0:Pv 0 σ H)(hl:∀i σ H,i≤xs.length→Pv i σ H→SqL K H a xs)
  (hs:∀i x σ H T,xs[i]? =some x→H T=none→Pv i σ H→g (.ref T) σ (upd H T (.tup [.int (num i),x])) fun σ2 H2=>tb { D with nx:=Pv (i+1),ct:=Pv (i+1),bk:=D.nx } σ2 H2)(hd:∀σ H,Pv xs.length σ H→D.nx σ H):
  ∃W:Nat→Nat→St→Hp→Prop,(∃m,W 0 m σ H)∧∀i m σ H,W i m σ H→
   (J.stop i H∧D.nx σ H)∨(J.go i H∧∃N:St→Hp→Prop,(∀σ' H',N σ' H'→∃m',m'<m∧W (i+1) m' σ' H')∧∀x H',J.yld i H x H'→g x σ H' fun σ2 H2=>tb { D with nx:=N,ct:=N,bk:=D.nx } σ2 H2):=by
 refine⟨fun i m σ H=>m=xs.length-i∧i≤xs.length∧Pv i σ H,⟨xs.length,by simp,Nat.zero_le _,h0⟩,?_⟩
 rintro i m σ H ⟨rfl,hi,p⟩
 have q:=hl i σ H hi p
 by_cases hlt:i<xs.length
 ·refine .inr ⟨hgo i H ⟨xs,xs[i],q,by simp[hlt]⟩,Pv (i+1),fun σ' H' p'=>⟨xs.length- (i+1),by omega,rfl,hlt,p'⟩,fun v H' y=>?_⟩
  obtain⟨T,x,e1,e2,e3,e4⟩:=hyld i H v H' y
  subst e1 e3
  exact hs i x σ H T (e4 xs q) e2 p
 ·have e:i=xs.length:=by omega
  subst e
  exact .inl ⟨hstop _ H ⟨xs,q,Nat.le_refl _⟩,hd σ H p⟩
end L2
namespace HT
open PySem PyProof.Rows
section
variable {prog:Program}{w:World}{A:Around}{E:Value→Shared→Prop}{s:Shared}
end
end HT
namespace L2
open PySem PySem.Spec PyProof.Rows
section
variable {X:Cx}
end
section
variable {X:Cx}{e f i:Expr}{pos p:Pos}{ty:TE}{a:Addr}{kvs:List (Key×V)}{x:Str}
end
end L2
namespace Ck
open Ls
def blankP(c:UInt8):Bool:=c==32 || c==9 || c==13
def wordsP(acc:Bytes):Bytes→List Bytes
 |[]=>if acc=[]then []else [acc]
 |c::r=>if blankP c=true then(if acc=[]then wordsP [] r else acc::wordsP [] r)else wordsP (acc++[c]) r
theorem lines_no10:∀(s acc:Bytes),(10:UInt8)∉acc→∀l∈linesFrom acc s,(10:UInt8)∉l
 |[],acc,h,l,hl=>by
  unfold linesFrom at hl
  split at hl
  ·cases hl
  ·simp at hl;subst hl;exact h
 |c::r,acc,h,l,hl=>by
  unfold linesFrom at hl
  split at hl
  ·rcases List.mem_cons.mp hl with e | e
   ·subst e;exact h
   ·exact lines_no10 r [] (by simp) l e
  ·rename_i hc
   exact lines_no10 r (acc++[c]) (by simp[h];exact fun e=>hc e.symm) l hl
theorem words_eq:∀(s acc:Bytes),(10:UInt8)∉s→wordsP acc s=wordsFrom acc s
 |[],acc,_=>rfl
 |c::r,acc,h=>by
  have h1:¬(10:UInt8)=c:=fun e=>h (by simp[e])
  have h2:(10:UInt8)∉r:=fun e=>h (by simp[e])
  have hb:blankP c=isBlank c:=by
   unfold blankP isBlank
   have:(c==10)=false:=by simpa using fun e=>h1 e.symm
   simp[this]
  unfold wordsP wordsFrom
  rw[hb,words_eq r [] h2,words_eq r (acc++[c]) h2]
theorem words_ne:∀(s acc:Bytes),∀w∈wordsP acc s,w≠[]
 |[],acc,w,hw=>by
  unfold wordsP at hw
  split at hw
  ·cases hw
  ·simp at hw;subst hw;assumption
 |c::r,acc,w,hw=>by
  unfold wordsP at hw
  split at hw
  ·split at hw
   ·exact words_ne r [] w hw
   ·rcases List.mem_cons.mp hw with e | e
    ·subst e;assumption
    ·exact words_ne r [] w e
  ·exact words_ne r (acc++[c]) w hw
inductive Kd where
 |nothing | unknown | set | get | put | if_ | else_ | while_ | proc | end_ | do_ | stop
 deriving DecidableEq
def COMM:List (Bytes×Kd):=[([115,101,116],.set),([103,101,116],.get),([112,117,116],.put),([105,102],.if_),([101,108,115,101],.else_),
 ([119,104,105,108,101],.while_),([112,114,111,99],.proc),([101,110,100],.end_),([100,111],.do_),([115,116,111,112],.stop)]
def OPS:List (Bytes×Nat):=[([43],2),([45],2),([42],2),([47],2),([37],2),([60],2),([61],2),([33],1)]
def kindOf:List Bytes→Kd
 |[]=>.nothing
 |w::_=>if w.head? =some 35 then .nothing else(COMM.lookup w).getD .unknown
def isVar(w:Bytes):Bool:=match w with
 |[c]=>decide (97≤c.toNat)&&decide (c.toNat≤122)
 |_=>false
def isPro(w:Bytes):Bool:=match w with
 |[c]=>decide (65≤c.toNat)&&decide (c.toNat≤90)
 |_=>false
def digits(w:Bytes):Bytes:=if w.head? =some 45 then w.drop 1 else w
def isNum(w:Bytes):Bool:=decide (1≤(digits w).length)&&decide ((digits w).length≤18)&&(digits w).all isDigit
def opsW(w:Bytes):Int:=match OPS.lookup w with
 |some k=>(k:Int)
 |none=>if isVar w || isNum w then 0 else -1
def exprsP:Int→List Bytes→Bool
 |m,[]=>decide (m=0)
 |m,w::r=>if m=0∨opsW w<0 then false else exprsP (m-1+opsW w) r
def isProcL(ws:List Bytes):Bool:=decide (kindOf ws=.proc)&&decide (2≤ws.length)&&isPro (ws.getD 1 [])&&
 decide ((ws.drop 2).length≤4)&&decide ((ws.drop 2).Nodup)&&(ws.drop 2).all isVar
def put1(T:List (Bytes×Nat))(w:Bytes)(n:Nat):List (Bytes×Nat):=if(T.lookup w).isSome then T else T++[(w,n)]
def toldP:List (Bytes×Nat)→List (List Bytes)→List (Bytes×Nat)
 |T,[]=>T
 |T,ws::r=>toldP (if isProcL ws then put1 T (ws.getD 1 []) (ws.length-2)else T) r
def isDoL(T:List (Bytes×Nat))(ws:List Bytes):Bool:=decide (1<ws.length)&&(match T.lookup (ws.getD 1 [])with
 |some k=>exprsP k (ws.drop 2)
 |none=>false)
def isWr(T:List (Bytes×Nat))(ws:List Bytes):Bool:=
 if 60<ws.length then false else
 match kindOf ws with
 |.else_ | .end_ | .stop=>decide (ws.length=1)
 |.put | .if_ | .while_=>exprsP 1 (ws.drop 1)
 |.set=>decide (1<ws.length)&&isVar (ws.getD 1 [])&&exprsP 1 (ws.drop 2)
 |.get=>decide (ws.length=2)&&isVar (ws.getD 1 [])
 |.proc=>isProcL ws
 |.do_=>isDoL T ws
 |.nothing=>true
 |.unknown=>false
def allowsP(bl:List Kd)(bg:List Bytes)(ws:List Bytes):Bool:=match kindOf ws with
 |.if_ | .while_=>decide (bl.length<40)
 |.proc=>decide (bl.length=0)&& !bg.contains (ws.getD 1 [])
 |.else_=>decide (0<bl.length)&&decide (bl.getLast? =some .if_)
 |.end_=>decide (0<bl.length)
 |_=>true
def blAfter(bl:List Kd)(ws:List Bytes):List Kd:=match kindOf ws with
 |.if_=>bl++[.if_]
 |.while_=>bl++[.while_]
 |.proc=>bl++[.proc]
 |.else_=>bl.dropLast++[.else_]
 |.end_=>bl.dropLast
 |_=>bl
def bgAfter(bg:List Bytes)(ws:List Bytes):List Bytes:=match kindOf ws with
 |.proc=>bg++[ws.getD 1 []]
 |_=>bg
def scanP(T:List (Bytes×Nat)):Nat→List Kd→List Bytes→List (List Bytes)→Nat
 |n,bl,_,[]=>if bl=[]then 0 else n
 |n,bl,bg,ws::r=>if !isWr T ws || !allowsP bl bg ws then n else scanP T (n+1) (blAfter bl ws) (bgAfter bg ws) r
def linesW(b:Bytes):List (List Bytes):=(lines b).map (wordsP [])
def firstP(b:Bytes):Nat:=scanP (toldP [] (linesW b)) 1 [] [] (linesW b)
end Ck
namespace Ck
open PySem L2
abbrev Bytes:=Ls.Bytes
def vB(b:Bytes):List V:=b.map fun c=>V.int (c.toNat:Int)
def kB(b:Bytes):List Key:=b.map fun c=>(Sum.inl (c.toNat:Int):Key)
theorem kB_kV(b:Bytes):(kB b).map kV=vB b:=by
 unfold kB vB
 rw[List.map_map]
 rfl
theorem vB_len(b:Bytes):(vB b).length=b.length:=List.length_map ..
theorem vB_get{b:Bytes}{i:Nat}{v:V}(h:(vB b)[i]? =some v):∃c,b[i]? =some c∧v=V.int (c.toNat:Int):=by
 unfold vB at h
 rw[List.getElem?_map]at h
 cases e:b[i]? with
 |none=>rw[e]at h;cases h
 |some c=>rw[e]at h;exact⟨c,rfl,(Option.some.inj h).symm⟩
theorem vB_app(a b:Bytes):vB (a++b)=vB a++vB b:=List.map_append
theorem yY{a:UInt8}{n:Nat}(h:n<256):((a.toNat:Int)=(n:Int))↔a=UInt8.ofNat n:=by
 constructor
 ·intro e
  have e':a.toNat=n:=by omega
  rw[←e'];simp
 ·intro e
  subst e
  simp[UInt8.toNat_ofNat',Nat.mod_eq_of_lt h]
theorem kB_inj:∀{a b:Bytes},kB a=kB b→a=b
 |[],[],_=>rfl
 |[],_::_,h=>by cases h
 |_::_,[],h=>by cases h
 |x::a,y::b,h=>by
  unfold kB at h
  rw[List.map_cons,List.map_cons]at h
  injection h with h1 h2
  have e:x.toNat=y.toNat:=by injection h1 with h1;omega
  rw[UInt8.toNat_inj.mp e,kB_inj h2]
def tabKV{α:Type}(f:α→V)(T:List (Bytes×α)):List (List Key×V):=T.map fun p=>(kB p.1,f p.2)
theorem tab_val{α:Type}(f:α→V)(w:Bytes):∀T:List (Bytes×α),valV (tabKV f T) (kB w)=(T.lookup w).map f
 |[]=>rfl
 | (x,y)::r=>by
  show valV ((kB x,f y)::tabKV f r) (kB w)=_
  by_cases e:w=x
  ·subst e
   rw[yM rfl]
   simp[List.lookup]
  ·rw[yN (fun z=>e (kB_inj z).symm),tab_val f w r]
   have:(w==x)=false:=by simpa using e
   simp[List.lookup,this]
abbrev TupAt(H:Hp)(a:Addr)(w:Bytes):Prop:=H a=some (.tup (vB w))
def Wds(H:Hp)(l:Addr)(ws:List Bytes):Prop:=∃ps:List Addr,H l=some (.lst (ps.map V.ref))∧Paired (fun(p:Addr) w=>TupAt H p w) ps ws
def Lns(H:Hp)(l:Addr)(Ws:List (List Bytes)):Prop:=∃ps:List Addr,H l=some (.lst (ps.map V.ref))∧Paired (fun(p:Addr) ws=>Wds H p ws) ps Ws
theorem Wds.mono{H H':Hp}{l:Addr}{ws:List Bytes}(s:Same H H')(h:Wds H l ws):Wds H' l ws:=by
 obtain⟨ps,h1,h2⟩:=h
 exact⟨ps,s _ _ h1,Paired.mapP h2 fun a b q=>s _ _ q⟩
theorem Lns.mono{H H':Hp}{l:Addr}{Ws:List (List Bytes)}(s:Same H H')(h:Lns H l Ws):Lns H' l Ws:=by
 obtain⟨ps,h1,h2⟩:=h
 exact⟨ps,s _ _ h1,Paired.mapP h2 fun a b q=>q.mono s⟩
theorem paired_at{α β:Type}{R:α→β→Prop}{as:List α}{bs:List β}(h:Paired R as bs):∀{i:Nat} {b:β},bs[i]? =some b→∃a,as[i]? =some a∧R a b:=by
 induction h with
 |nil=>intro i b e;simp at e
 |cons r t ih=>
  intro i b e
  cases i with
  |zero=>simp at e;subst e;exact⟨_,rfl,r⟩
  |succ i=>simp at e;obtain⟨a,h1,h2⟩:=ih e;exact⟨a,by simpa using h1,h2⟩
theorem paired_at'{α β:Type}{R:α→β→Prop}{as:List α}{bs:List β}(h:Paired R as bs):∀{i:Nat} {a:α},as[i]? =some a→∃b,bs[i]? =some b∧R a b:=by
 induction h with
 |nil=>intro i b e;simp at e
 |cons r t ih=>
  intro i b e
  cases i with
  |zero=>simp at e;subst e;exact⟨_,rfl,r⟩
  |succ i=>simp at e;obtain⟨a,h1,h2⟩:=ih e;exact⟨a,by simpa using h1,h2⟩
theorem paired_drop{α β:Type}{R:α→β→Prop}:∀(n:Nat) {as:List α} {bs:List β},Paired R as bs→Paired R (as.drop n) (bs.drop n)
 |0,_,_,h=>h
 |_+1,_,_,.nil=>.nil
 |n+1,_,_,.cons _ t=>paired_drop n t
theorem vB_drop(b:Bytes)(n:Nat):(vB b).drop n=vB (b.drop n):=by unfold vB;rw[List.map_drop]
theorem vB_take(b:Bytes)(n:Nat):(vB b).take n=vB (b.take n):=by unfold vB;rw[List.map_take]
def TupKeep(H H':Hp):Prop:=∀b xs,H b=some (.tup xs)→H' b=some (.tup xs)
theorem Same.tups{H H':Hp}(s:Same H H'):TupKeep H H':=fun b xs e=>s _ _ e
theorem TupKeep.refl(H:Hp):TupKeep H H:=fun _ _ e=>e
theorem TupKeep.lst{H H':Hp}{a:Addr}{xs ys:List V}(k:TupKeep H H')(h:H' a=some (.lst xs)):TupKeep H (upd H' a (.lst ys)):=fun b zs e=>by
 have e':=k b zs e
 rw[zF (ne_of e' h (fun z=>nomatch z))]
 exact e'
theorem TupKeep.new{H H':Hp}{a:Addr}{o:HO}(k:TupKeep H H')(h:H' a=none):TupKeep H (upd H' a o):=fun b zs e=>by
 have e':=k b zs e
 rw[zF (zH e' h)]
 exact e'
theorem Paired.tups{H H':Hp}(k:TupKeep H H'){ps:List Addr}{ws:List Bytes}(h:Paired (fun(p:Addr) w=>TupAt H p w) ps ws):Paired (fun(p:Addr) w=>TupAt H' p w) ps ws:=Paired.mapP h fun _ _ e=>k _ _ e
theorem Paired.snoc{α β:Type}{R:α→β→Prop}{as:List α}{bs:List β}(h:Paired R as bs){a:α}{b:β}(r:R a b):Paired R (as++[a]) (bs++[b]):=by
 induction h with
 |nil=>exact .cons r .nil
 |cons r' t ih=>exact .cons r' ih
end Ck
namespace L2
open PySem PySem.Spec PyProof.Rows
inductive Arg where
 |int (z:Int)
 |ints (ns:List Int)
def Arg.w:Arg→PySem.W.WData
 |.int z=>.int z
 |.ints ns=>.list (ns.map .int)
def ArgAt(h:Heap):Arg→Value→Prop
 |.int z,u=>∃t,u=.int z t
 |.ints ns,u=>∃(a:Addr) (vs:List Value),u=.ref a∧h.get? a=some { cls:=.type "list",data:=.seq vs.toArray }∧IntsAre vs ns
def ArgV(K:PySem.W.Frag)(H:Hp):Arg→V→Prop
 |.int z,v=>v=.int z
 |.ints ns,v=>∃a,v=.ref a∧SqL K H a (ns.map V.int)
theorem args_of_well{P:PySem.Params}{h:Heap}:∀{args:List Arg} {vals:List Value},PySem.W.WellAll P h vals (args.map Arg.w)→Paired (ArgAt h) args vals
 |[],vals,w=>by
  rw[List.map_nil]at w
  cases w
  exact .nil
 |.int z::r,vals,w=>by
  rw[List.map_cons]at w
  cases w with
  |cons a b=>
   cases a
   exact .cons ⟨_,rfl⟩ (args_of_well b)
 |.ints ns::r,vals,w=>by
  rw[List.map_cons]at w
  cases w with
  |cons a b=>
   cases a with
   |list ho hall=>exact .cons ⟨_,_,rfl,ho,Att.ints_of_wellAll ns _ hall⟩ (args_of_well b)
def absI:Value→V
 |.int i _=>.int i
 |_=>.non
def absL(o:Obj):List V:=match o.data with
 |.seq its _=>its.toList.map absI
 |_=>[]
theorem absI_of{vs:List Value}{ns:List Int}(h:IntsAre vs ns):vs.map absI=ns.map V.int:=by
 induction h with
 |nil=>rfl
 |cons n t h ih=>rw[List.map_cons,List.map_cons,ih];rfl
def refOf:Value→Option Addr
 |.ref a=>some a
 |_=>none
def refsOf(vals:List Value):List Addr:=vals.filterMap refOf
def HA(K:PySem.W.Frag)(h:Heap)(vals:List Value):Hp:=fun b=>if b∈refsOf vals∧(K.lookup b).isNone=true then(h.get? b).map fun o=>.frz o (.lst (absL o))else none
section
variable {K:PySem.W.Frag}{h:Heap}{vals:List Value}
theorem HA_some{b:Addr}{u:HO}(e:HA K h vals b=some u):∃o,h.get? b=some o∧u=.frz o (.lst (absL o))∧b∈refsOf vals∧K.lookup b=none:=by
 unfold HA at e
 by_cases c:b∈refsOf vals∧(K.lookup b).isNone=true
 ·rw[if_pos c]at e
  obtain⟨o,ho,hu⟩:=Option.map_eq_some_iff.mp e
  exact⟨o,ho,hu.symm,c.1,Option.isNone_iff_eq_none.mp c.2⟩
 ·rw[if_neg c]at e;cases e
theorem HA_at{b:Addr}{o:Obj}(m:b∈refsOf vals)(k:K.lookup b=none)(e:h.get? b=some o):HA K h vals b=some (.frz o (.lst (absL o))):=by
 unfold HA
 rw[if_pos ⟨m,by rw[k];rfl⟩,e];rfl
theorem refs_list:∀{args:List Arg} {vals:List Value},Paired (ArgAt h) args vals→∀b∈refsOf vals,∃vs ns,h.get? b=some { cls:=.type "list",data:=.seq vs.toArray }∧IntsAre vs ns∧Arg.ints ns∈args
 |_,_,.nil,b,hb=>by simp[refsOf]at hb
 |.int z::r,_::l2,.cons ⟨t,e⟩ p,b,hb=>by
  subst e
  have hb':b∈refsOf l2:=by
   unfold refsOf at hb
   rw[List.filterMap_cons]at hb
   exact hb
  obtain⟨vs,ns,h1,h2,h3⟩:=refs_list p b hb'
  exact⟨vs,ns,h1,h2,List.mem_cons_of_mem _ h3⟩
 |.ints ns::r,_::l2,.cons ⟨a,vs,e,ho,hi⟩ p,b,hb=>by
  subst e
  unfold refsOf at hb
  rw[List.filterMap_cons]at hb
  rcases List.mem_cons.mp (show b∈a::refsOf l2 from hb)with q | q
  ·subst q
   exact⟨vs,ns,ho,hi,List.mem_cons_self ..⟩
  ·obtain⟨vs,ns,h1,h2,h3⟩:=refs_list p b q
   exact⟨vs,ns,h1,h2,List.mem_cons_of_mem _ h3⟩
theorem args_vals(KX:K.In h){vals0:List Value}:∀{args:List Arg} {vals:List Value},Paired (ArgAt h) args vals→(∀ns,Arg.ints ns∈args→ns.length≤sizeLine)→(∀b∈refsOf vals,b∈refsOf vals0)→
  ∃vs:List V,Paired (ArgV K (HA K h vals0)) args vs∧Vals vs vals
 |_,_,.nil,_,_=>⟨[],.nil,.nil⟩
 |.int z::r,_,.cons ⟨t,e⟩ p,hl,hb=>by
  subst e
  obtain⟨vs,h1,h2⟩:=args_vals KX p (fun ns m=>hl ns (List.mem_cons_of_mem _ m)) (fun b m=>hb b (by unfold refsOf;rw[List.filterMap_cons];exact m))
  exact⟨.int z::vs,.cons rfl h1,.cons ⟨t,rfl⟩ h2⟩
 |.ints ns::r,_,.cons ⟨a,us,e,ho,hi⟩ p,hl,hb=>by
  subst e
  obtain⟨vs,h1,h2⟩:=args_vals KX p (fun ns m=>hl ns (List.mem_cons_of_mem _ m)) (fun b m=>hb b (by unfold refsOf;rw[List.filterMap_cons];exact List.mem_cons_of_mem _ m))
  refine⟨.ref a::vs,.cons ⟨a,rfl,?_⟩ h1,.cons rfl h2⟩
  have rv:=vals_ints hi
  have lz:=hl ns (List.mem_cons_self ..)
  cases hk:K.lookup a with
  |some o=>
   have e:=KX a o hk
   rw[ho]at e
   cases e
   exact .inr ⟨_,us.toArray,_,hk,rfl,rfl,rfl,by rw[List.size_toArray,hi.length];exact lz,by simpa using rv⟩
  |none=>
   have q:=HA_at (vals:=vals0) (hb a (by unfold refsOf;rw[List.filterMap_cons];exact List.mem_cons_self ..)) hk ho
   have q2:absL { cls:=.type "list",data:=.seq us.toArray }=ns.map V.int:=absI_of hi
   rw[q2]at q
   exact .inl (.inr ⟨_,q⟩)
end
theorem reads_ints{R:PySem.W.WRecords}{cl:Str→Option Addr}{h:Heap}:∀{ns:List Int} {us:List Value},Vals (ns.map V.int) us→PySem.W.ReadsAllW R cl h us (ns.map PySem.W.WData.int) []
 |[],us,r=>by
  cases r
  exact .nil
 |n::ns,us,r=>by
  cases r with
  |cons a b=>
   obtain⟨t,rfl⟩:=a
   exact .cons (as:=[]) (bs:=[]) (.int n t) (reads_ints b)
theorem spec_call{P:Program}{w:World}{K:PySem.W.Frag}{mg mb:Str→Option Value}{k:Nat}{fa:Addr}{fd:FuncData}{ps:List Str}{sp:Sp}{s₁:Shared}{vals:List Value}{args:List Arg}{ans:List Int}
  (KX:K.In s₁.heap)(hns:s₁.heap.Ns mainGlobals mg)(hb:s₁.heap.Ns builtinsNs mb)(hbb:∀x:Str,x≠ "__name__"→mb x=bootBuiltins x)(hlim:s₁.heap.NoLimit)(hg:s₁.gens=#[])
  (hargs:Paired (ArgAt s₁.heap) args vals)(hl:∀ns,Arg.ints ns∈args→ns.length≤sizeLine)(hr:Room k callerA)
  (F:∀base:Heap,K.In base→base.Ns mainGlobals mg→FnOk P w K mg base CX0 k fa fd ps sp)(hbind:BindsTo s₁ fd ⟨vals,[]⟩ (ps.zip vals))
  (hsp:∀(H:Hp) (vs:List V),Paired (ArgV K H) args vs→sp vs H (fun v H'=>∃p,v=.ref p∧SqL K H' p (ans.map V.int)) E0):
  codeAny (model P w) callerA (.call (.ref fa) ⟨vals,[]⟩) (fun r s'=>(∃(p:Addr) (o:Obj) (its:Array Value) (n:Nat),r=.ok (.ret (.ref p))∧s'.heap.get? p=some o∧o.cls=.type "list"∧o.data=.seq its n∧Vals (ans.map V.int) its.toList)∧
   OldK s₁.heap s'.heap∧s'.os=s₁.os∧AllBare s'.gens) s₁:=by
 have hA:∀b,HA K s₁.heap vals b≠none→∃vs ns,s₁.heap.get? b=some { cls:=.type "list",data:=.seq vs.toArray }∧IntsAre vs ns∧Arg.ints ns∈args∧K.lookup b=none∧HA K s₁.heap vals b=some (.frz { cls:=.type "list",data:=.seq vs.toArray } (.lst (ns.map V.int))):=fun b hb=>by
  cases q:HA K s₁.heap vals b with
  |none=>exact absurd q hb
  |some u=>
   obtain⟨o,ho,hu,hm,hk⟩:=HA_some q
   obtain⟨vs,ns,h1,h2,h3⟩:=refs_list hargs b hm
   rw[h1]at ho
   cases ho
   have q2:absL { cls:=.type "list",data:=.seq vs.toArray }=ns.map V.int:=absI_of h2
   refine⟨vs,ns,h1,h2,h3,hk,?_⟩
   rw[hu,q2]
 have hok:HOk P w (HA K s₁.heap vals) s₁.heap:=fun b u e=>by
  obtain⟨vs,ns,h1,h2,h3,h4,h5⟩:=hA b (by rw[e];simp)
  rw[h5]at e
  cases e
  exact⟨h1,by rw[List.length_map];exact hl ns h3,vs,_,vals_ints h2,h1⟩
 obtain⟨vs,hv1,hv2⟩:=args_vals KX (vals0:=vals) hargs hl fun b m=>m
 have base_of:∀{b:Addr} {o:Obj},s₁.heap.get? b=some o→HA K s₁.heap vals b=none→(hidT s₁.heap (HA K s₁.heap vals)).get? b=some o:=fun e n=>hidT_get e n
 have noA:∀{b:Addr} {o:Obj} {es:Array DictEntry} {ep:Nat},s₁.heap.get? b=some o→o.data=.dict es ep→HA K s₁.heap vals b=none:=fun {b o es ep} e d=>by
  cases q:HA K s₁.heap vals b with
  |none=>rfl
  |some u=>
   obtain⟨vs,ns,h1,_⟩:=hA b (by rw[q];simp)
   rw[h1]at e;cases e
   have d':Data.seq vs.toArray _=Data.dict es ep:=d
   cases d'
 have nsK:∀{b:Addr} {m:Str→Option Value},s₁.heap.Ns b m→(hidT s₁.heap (HA K s₁.heap vals)).Ns b m:=fun {b m} ⟨o,es,ep,e,d,r⟩=>⟨o,es,ep,base_of e (noA e d),d,r⟩
 have hKb:K.In (hidT s₁.heap (HA K s₁.heap vals)):=fun b o e=>base_of (KX b o e) (by
  cases q:HA K s₁.heap vals b with
  |none=>rfl
  |some u=>
   obtain⟨_,_,_,_,_,hk,_⟩:=hA b (by rw[q];simp)
   rw[hk]at e;cases e)
 have hM:Mod K mg (hidT s₁.heap (HA K s₁.heap vals)):=⟨hKb,nsK hns,⟨mb,nsK hb,hbb⟩,let ⟨mc,h1,h2⟩:=hlim;⟨mc,nsK h1,h2⟩⟩
 have e0:Env0 P w K mg (hidT s₁.heap (HA K s₁.heap vals)) callerA [] s₁ (HA K s₁.heap vals):=⟨rfl,hM,fun b o e=>of_hidT e,Nat.le_of_eq (hidT_size _ _),trivial,fun b hb=>absurd (show b∈([]:List Addr) from hb) (by simp),hok,.of_eq hg⟩
 refine codeAny_mono ((F _ hKb (nsK hns)).run callerA [] s₁ (HA K s₁.heap vals) ⟨vals,[]⟩ vals vs _ _ hr e0 hbind hv2 (hsp _ vs hv1)) fun r s' h=>?_
 cases r with
 |error e=>exact False.elim h
 |ok fl=>
  cases fl with
  |next=>exact False.elim h
  |brk=>exact False.elim h
  |cont=>exact False.elim h
  |ret u=>
   obtain⟨v,H',os,bare,un,hok',r',p,rfl,hp⟩:=h
   obtain rfl:u=Value.ref p:=r'
   refine⟨?_,OldK.of_keep fun b o e=>?_,os,bare⟩
   ·rcases hp with rd | ⟨o,its,n,h1,h2,h3,h4,h5,h6⟩
    ·obtain⟨hz,its,n,hv,ho⟩:=rd.ok hok'
     exact⟨p,_,its.toArray,n,rfl,ho,rfl,rfl,by simpa using hv⟩
    ·obtain⟨b1,b2⟩:=of_hidT (hKb p o h1)
     exact⟨p,o,its,n,rfl,un.keep p o b1 b2 (by intro z;exact absurd (show p∈([]:List Addr) from z) (by simp)) (by simp),h2,h4,h6⟩
   ·cases q:HA K s₁.heap vals b with
    |none=>exact un.keep b o e q (by intro z;exact absurd (show b∈([]:List Addr) from z) (by simp)) (by simp)
    |some u=>
     obtain⟨vs,ns,h1,_,_,_,h5⟩:=hA b (by rw[q];simp)
     have z2:=un.frzs b _ _ h5
     obtain⟨e2,_⟩:=hok' b _ z2
     rw[h1]at e;cases e
     exact e2
theorem walk_os{r:PySem.W.OpenSpec}{k:Nat}{q:Program}{loose:List Str}{XP:(Str→Option Value)→Heap→Prop}{YP:World→Heap→Prop}{d:DefRec}{K:PySem.Params→PySem.W.Frag}{sp:PySem.W.Frag→Sp}
  {args:PySem.W.Codec.denoteAll r.args→List Arg}{ans:PySem.W.Codec.denoteAll r.args→List Int}
  (said:r.wellSaid=true)(hdf:d.params.defaults=[])(hr:Room k callerA)
  (henc:∀a,PySem.W.Codec.encAll r.args a=(args a).map Arg.w)
  (hret:∀a,r.ret.enc (PySem.W.Codec.app r.args r.f a)=.list ((ans a).map .int))
  (hlen:∀a,PySem.W.Codec.withinAll r.args a=true→∀ns,Arg.ints ns∈args a→ns.length≤sizeLine)
  (hY:∀(w:World) (h:Heap),YP w h→(K w.params).In h)
  (F:∀(w:World) (mg:Str→Option Value) (fa:Addr) (h:Heap),(K w.params).In h→h.Ns mainGlobals mg→mg d.name=some (.ref fa)→
   ∃(fd:FuncData) (ps:List Str),Binds (K w.params) fd ps []∧(∀a,(args a).length=ps.length)∧
    ∀base:Heap,(K w.params).In base→base.Ns mainGlobals mg→FnOk r.prog w (K w.params) mg base CX0 k fa fd ps (sp (K w.params)))
  (hsp:∀(K:PySem.W.Frag) (a:PySem.W.Codec.denoteAll r.args) (H:Hp) (vs:List V),PySem.W.Codec.withinAll r.args a=true→PySem.W.Codec.app r.args r.asked a=true→Paired (ArgV K H) (args a) vs→
   sp K vs H (fun v H'=>∃p,v=.ref p∧SqL K H' p ((ans a).map V.int)) E0):
  PySem.W.WalkOS q loose XP YP r d [] (fun f vs=>PySem.call f vs):=by
 intro w s₀ s₁ mg mb G Y fa o pm cd doc dV kV ho hd hcd hD hmg hg args' vals as hpre hlay hrd hwl hlo
 obtain⟨a,hw,hask,rfl⟩:=(PySem.W.OpenSpec.pre_iff said _).mp hpre
 have KX:=hY w _ Y
 obtain⟨fd,ps,hbi,hpl,hF⟩:=F w mg fa _ KX G.T.g hmg
 have hwl2:PySem.W.WellAll w.params s₁.heap vals ((args a).map Arg.w):=by rw[←henc a];exact hwl
 have hA:=args_of_well hwl2
 have hvl:vals.length=ps.length:=by rw[←hpl a];exact(Paired.length hA).symm
 have hbd:BindsTo s₁ fd ⟨vals,[]⟩ (ps.zip vals):=by
  have:=hbi s₁ vals KX (by rw[List.append_nil];exact hvl)
  rw[List.append_nil]at this
  exact this
 refine PySem.W.enter_call (codeAny_mono (spec_call KX G.T.g G.T.b G.T.builtins G.T.nolimit hg hA (hlen a hw) hr hF hbd fun H vs hv=>hsp _ a H vs hw hask hv) fun r' s' hq=>?_)
 obtain⟨⟨p,o,its,n,rfl,h1,h2,h3,h4⟩,h5,h6,h7⟩:=hq
 refine⟨.inl ⟨.ref p,.list ((ans a).map .int),[p],rfl,fun _=>rfl,.list h1 h2 h3 (reads_ints h4),(PySem.W.OpenSpec.post_iff said hw _ _).mpr (hret a).symm,fun z=>absurd z Bool.false_ne_true⟩,h5,h6,h7⟩
end L2
namespace L2
open PySem PySem.Spec PyProof.Rows
theorem dn_mk{K:PySem.W.Frag}{h:Heap}{mg:Str→Option Value}{x:Str}{st:Stmt}{f:Addr}{ps:List Str}{oc:Value}{od an:Option Addr}{osl:Array (Option Value)}{kV doc pm cdv ct:Value}(X:K.In h)(G:h.Ns mainGlobals mg)
  (a:PySem.W.nsIn K mainGlobals x=some (some (.ref f)))(l:K.lookup f=some ⟨oc,od,.func (PySem.W.fnOf x x (defArgs st) (defBody st) (defScope st) .none kV doc pm an cdv ct),osl⟩)
  (c:PySem.W.codeIn K cdv x=true)(k:PySem.W.keepIn K (.ref f)=true)
  (hb:∀(kV doc pm:Value) (an:Option Addr) (cdv ct:Value) (us:List Value),us.length=ps.length→bindArgs (PySem.W.fnOf x x (defArgs st) (defBody st) (defScope st) .none kV doc pm an cdv ct) ⟨us,[]⟩=pure (ps.zip us)):
  Dn K mg x st f (PySem.W.fnOf x x (defArgs st) (defBody st) (defScope st) .none kV doc pm an cdv ct) ps:=
 ⟨fun_mk l c k,PySem.W.mg_of X G a,(fun_mk l c k).binds hb⟩
structure Mt (K:PySem.W.Frag) (C:Addr) (m qual:Str) (st:Stmt) (f:Addr) (fd:FuncData) (ps:List Str):Prop where
 fn:Fun K m qual st f fd
 me:Meth K C m f
 bd:Binds K fd ps []
theorem mt_mk{K:PySem.W.Frag}{C:Addr}{m qual:Str}{st:Stmt}{f:Addr}{ps:List Str}{oc:Value}{od an:Option Addr}{osl:Array (Option Value)}{kV doc pm cdv ct:Value}
  (a:PySem.W.findIn K (.ref C) m=some (some (.ref f)))(i:PySem.W.isFn K (.ref f)=true)(l:K.lookup f=some ⟨oc,od,.func (PySem.W.fnOf m qual (defArgs st) (defBody st) (defScope st) .none kV doc pm an cdv ct),osl⟩)
  (c:PySem.W.codeIn K cdv qual=true)(k:PySem.W.keepIn K (.ref f)=true)
  (hb:∀(kV doc pm:Value) (an:Option Addr) (cdv ct:Value) (us:List Value),us.length=ps.length→bindArgs (PySem.W.fnOf m qual (defArgs st) (defBody st) (defScope st) .none kV doc pm an cdv ct) ⟨us,[]⟩=pure (ps.zip us)):
  Mt K C m qual st f (PySem.W.fnOf m qual (defArgs st) (defBody st) (defScope st) .none kV doc pm an cdv ct) ps:=
 ⟨fun_mk l c k,⟨a,i,k⟩,(fun_mk l c k).binds hb⟩
def tupAt(K:PySem.W.Frag)(a:Addr):Option (List Value):=match K.lookup a with
 |some ⟨.type n,_,.seq its _,_⟩=>if n= "tuple" then some its.toList else none
 |_=>none
theorem tupAt_of{K:PySem.W.Frag}{a:Addr}{us:List Value}(h:tupAt K a=some us):∃(o:Obj) (its:Array Value) (n:Nat),K.lookup a=some o∧o.cls=.type "tuple"∧o.data=.seq its n∧its.toList=us:=by
 unfold tupAt at h
 split at h
 ·rename_i n od its m sl e
  by_cases c:n= "tuple"
  ·rw[if_pos c]at h
   subst c
   exact⟨_,its,m,e,rfl,rfl,Option.some.inj h⟩
  ·rw[if_neg c]at h;cases h
 ·cases h
theorem sqT_of{K:PySem.W.Frag}{a:Addr}{us:List Value}{xs:List V}(h:tupAt K a=some us)(hl:us.length≤300000)(r:Vals xs us)(H:Hp):SqT K H a xs:=by
 obtain⟨o,its,n,h1,h2,h3,h4⟩:=tupAt_of h
 refine .inr ⟨o,its,n,h1,h2,h3,?_,by rw[h4];exact r⟩
 have:its.size=us.length:=by rw[←h4];exact Array.length_toList.symm
 have:=zP
 omega
theorem rel_of_abs:∀{u:Value} {x:V},absV u=some x→RelV x u
 |.none,x,h=>by cases h;rfl
 |.bool b,x,h=>by cases h;rfl
 |.int i t,x,h=>by cases h;exact⟨t,rfl⟩
 |.str i t,x,h=>by cases h;exact⟨t,rfl⟩
 |.bytes i t,x,h=>by cases h;exact⟨t,rfl⟩
 |.float i t,x,h=>by cases h;exact⟨t,rfl⟩
 |.ref a,x,h=>by cases h;rfl
 |.type a,x,h=>by cases h;rfl
 |.ellipsis,x,h=>by cases h
 |.notImplemented,x,h=>by cases h
 |.builtin _,x,h=>by cases h
def absVs:List Value→Option (List V)
 |[]=>some []
 |u::us=>match absV u,absVs us with
  |some x,some xs=>some (x::xs)
  |_,_=>none
theorem vals_of_abs:∀{us:List Value} {xs:List V},absVs us=some xs→Vals xs us
 |[],xs,h=>by cases h;exact .nil
 |u::us,xs,h=>by
  unfold absVs at h
  split at h
  ·rename_i x ys e1 e2
   cases h
   exact .cons (rel_of_abs e1) (vals_of_abs e2)
  ·cases h
def tabAt(K:PySem.W.Frag)(a:Addr):Option (List V):=match tupAt K a with
 |some us=>absVs us
 |none=>none
theorem tab_sq{K:PySem.W.Frag}{a:Addr}{xs:List V}(h:tabAt K a=some xs)(hl:xs.length≤300000)(H:Hp):SqT K H a xs:=by
 unfold tabAt at h
 split at h
 ·rename_i us e
  have r:=vals_of_abs h
  exact sqT_of e (by rw[←r.length];exact hl) r H
 ·cases h
def refAt(K:PySem.W.Frag)(a:Addr)(n:Nat):Addr:=match tupAt K a with
 |some us=>(match us[n]? with
  |some (.ref b)=>b
  |_=>0)
 |none=>0
theorem range_at{α:Type}{f g:Nat→α}{m:Nat}(h:(List.range m).map f=(List.range m).map g){n:Nat}(hn:n<m):f n=g n:=by
 have e:=congrArg (·[n]?) h
 simp only[List.getElem?_map,List.getElem?_range hn,Option.map_some]at e
 exact Option.some.inj e
end L2
namespace R
open PySem L2
def top(i:Nat):Stmt:=PySem.Challenge.pw_linewords_s03_mean.main.body.getD i (.Pass ⟨0,0,0,0⟩)
abbrev nOps:Str:= "OPERATIONS_lines"
abbrev nAri:Str:= "OPERATIONS_arithmetic"
abbrev sInit:Stmt:=inClass (top 11) 0
abbrev sLines:Stmt:=top 52
abbrev sWords:Stmt:=top 53
abbrev sIsVar:Stmt:=top 54
abbrev sIsPro:Stmt:=top 55
abbrev sDigits:Stmt:=top 56
abbrev sIsNum:Stmt:=top 57
abbrev sValue:Stmt:=top 58
abbrev sOps:Stmt:=top 59
abbrev sExprs:Stmt:=top 60
abbrev sKind:Stmt:=top 61
abbrev sIsProc:Stmt:=top 62
abbrev sIsDo:Stmt:=top 63
abbrev sTold:Stmt:=top 64
abbrev sIsWr:Stmt:=top 65
abbrev sPlInit:Stmt:=inClass (top 66) 0
abbrev sAllows:Stmt:=inClass (top 66) 1
abbrev sBehind:Stmt:=inClass (top 66) 2
abbrev sFirst:Stmt:=top 67
abbrev sLnInit:Stmt:=inClass (top 74) 0
abbrev sVarIns:Stmt:=top 75
abbrev sWordIns:Stmt:=top 76
abbrev sSteps:Stmt:=top 77
abbrev sProcs:Stmt:=top 78
abbrev sBdInit:Stmt:=inClass (top 79) 0
abbrev sTake:Stmt:=inClass (top 79) 1
abbrev sFill:Stmt:=inClass (top 79) 2
abbrev sClose:Stmt:=inClass (top 79) 3
abbrev sProg:Stmt:=top 80
abbrev sCheck:Stmt:=top 83
abbrev sMean:Stmt:=top 84
abbrev sCallInit:Stmt:=inClass (top 22) 0
abbrev sTellS:Stmt:=top 23
abbrev sInRange:Stmt:=top 27
abbrev sPlus:Stmt:=top 28
abbrev sMinus:Stmt:=top 29
abbrev sTimes:Stmt:=top 30
abbrev sQuo:Stmt:=top 31
abbrev sRem:Stmt:=top 32
abbrev sLess:Stmt:=top 33
abbrev sEqual:Stmt:=top 34
abbrev sInv:Stmt:=top 35
abbrev sOpStd:Stmt:=top 37
abbrev sOpRes:Stmt:=top 38
abbrev sRInit:Stmt:=inClass (top 70) 0
abbrev sRWork:Stmt:=inClass (top 70) 1
abbrev sRLook:Stmt:=inClass (top 70) 2
abbrev sRStore:Stmt:=inClass (top 70) 3
abbrev sRLine:Stmt:=inClass (top 70) 4
abbrev sRBehind:Stmt:=inClass (top 70) 5
abbrev sRLines:Stmt:=inClass (top 70) 6
abbrev sRTold:Stmt:=inClass (top 70) 7
end R
namespace Ck
open PySem L2 R
structure WdT (K:PySem.W.Frag) (mg:Str→Option Value) (aB:Addr):Prop where
 bl:mg "BLANKS"=some (.ref aB)
 blT:∀H,SqT K H aB [.int 32,.int 9,.int 13]
 minus:∃t,mg "MINUS"=some (.int 45 t)
 zero:∃t,mg "ZERO"=some (.int 48 t)
 nine:∃t,mg "NINE"=some (.int 57 t)
 len:mg "len"=none
 all:mg "all"=none
 tup:mg "tuple"=none
theorem wdT_mk{K:PySem.W.Frag}{h:Heap}{mg:Str→Option Value}{aB:Addr}{t1 t2 t3:Tok}(X:K.In h)(G:h.Ns mainGlobals mg)(gB:PySem.W.nsIn K mainGlobals "BLANKS"=some (some (.ref aB)))
  (g1:PySem.W.nsIn K mainGlobals "MINUS"=some (some (.int 45 t1)))(g2:PySem.W.nsIn K mainGlobals "ZERO"=some (some (.int 48 t2)))(g3:PySem.W.nsIn K mainGlobals "NINE"=some (some (.int 57 t3)))
  (b1:PySem.W.nsIn K mainGlobals "len"=some none)(b2:PySem.W.nsIn K mainGlobals "all"=some none)(b3:PySem.W.nsIn K mainGlobals "tuple"=some none)
  (w1:tabAt K aB=some [.int 32,.int 9,.int 13]):WdT K mg aB:=
 ⟨PySem.W.mg_of X G gB,tab_sq w1 (by decide),⟨t1,PySem.W.mg_of X G g1⟩,⟨t2,PySem.W.mg_of X G g2⟩,⟨t3,PySem.W.mg_of X G g3⟩,PySem.W.mg_none_of X G b1,PySem.W.mg_none_of X G b2,PySem.W.mg_none_of X G b3⟩
theorem zero_line:(0:Nat)≤sizeLine:=Nat.zero_le _
section
variable {P:Program}{w:World}{K:PySem.W.Frag}{mg:Str→Option Value}{base:Heap}{aB:Addr}
def spWords(K:PySem.W.Frag):Sp:=fun vs H Q _=>∃(a:Addr) (l:Bytes),vs=[.ref a]∧SqL K H a (vB l)∧l.length≤16500∧∀H' p,Same H H'→H p=none→Wds H' p (wordsP [] l)→Q (.ref p) H'
theorem scWords:FnScope ["line","words","word","byte"] ["line"] (defScope sWords):=⟨rfl,rfl,rfl,by decide +kernel,rfl,by decide +kernel,by decide +kernel⟩
theorem blank_in(c:UInt8):inV (V.int (c.toNat:Int)) [.int 32,.int 9,.int 13]=blankP c:=by
 have e:∀n:Nat,n<256→((n:Int)==(c.toNat:Int))=(c==UInt8.ofNat n):=fun n hn=>by
  by_cases h:c=UInt8.ofNat n
  ·subst h
   simp[Nat.mod_eq_of_lt hn]
  ·have h2:¬((n:Int)=(c.toNat:Int)):=fun z=>h ((yY hn).mp z.symm)
   rw[beq_false_of_ne h2,beq_false_of_ne h]
 have e32:=e 32 (by decide)
 have e9:=e 9 (by decide)
 have e13:=e 13 (by decide)
 show(([.int 32,.int 9,.int 13]:List V).any fun y=>eqV y (V.int (c.toNat:Int)))=_
 simp only[List.any_cons,List.any_nil,Bool.or_false,eqV]
 unfold blankP
 rw[←Bool.or_assoc]
 have c1:((32:Int)==(c.toNat:Int))=(c==32):=e32
 have c2:((9:Int)==(c.toNat:Int))=(c==9):=e9
 have c3:((13:Int)==(c.toNat:Int))=(c==13):=e13
 rw[c1,c2,c3]
theorem ok_words{f:Addr}{fd:FuncData}(D:Dn K mg "split_words" sWords f fd ["line"])(T:WdT K mg aB):FnOk P w K mg base CX0 1 f fd ["line"] (spWords K):=by
 refine D.fn.ok scWords (fun vs H Q E h=>?_) (fun cdv A outer s H vs Q E hr h=>?_)
 ·obtain⟨a,l,rfl,_⟩:=h
  rfl
 ·obtain⟨a,l,rfl,hl,hlen,k⟩:=h
  refine⟨_,zD (zZ (i:=1) scWords.nd rfl (Or.inl rfl) (yI zG))
   (zD (zZ (i:=2) scWords.nd rfl (Or.inl rfl) (yI zG))
   (zD (ps_for PassesOwn.never rfl (pi_list (pv 0)) (yJ (i:=3) scWords.nd rfl (Or.inl rfl))
    (zE (zV (zK op_notIn_seq (pv 3) (zQ (v:=V.ref aB) (by rfl) T.bl rfl) rfl)
     (zE (yA (xA PySem.F.plainAttrs_list PySem.F.slot_list_append PySem.F.type_list_append yD (pv 2) (zA (pv 3) zG))))
     (zE (zV (pt_truth (pv 2) (fun _=>rfl))
      (zD (yA (xA PySem.F.plainAttrs_list PySem.F.slot_list_append PySem.F.type_list_append yD (pv 1) (zA (pe_callTy call_tuple_of (by rfl) T.tup PyProof.Rows.boot_tuple (zA (pv 2) zG)) zG)))
       (zE (zZ (i:=2) scWords.nd rfl (Or.inl rfl) (yI zG)))) zL)))))
   (zD (zV (pt_truth (pv 2) (fun _=>rfl))
    (zE (yA (xA PySem.F.plainAttrs_list PySem.F.slot_list_append PySem.F.type_list_append yD (pv 1) (zA (pe_callTy call_tuple_of (by rfl) T.tup PyProof.Rows.boot_tuple (zA (pv 2) zG)) zG)))) zL)
   (zE (zN (pv 1)))))),?_⟩
  refine⟨zero_line,fun W hW=>⟨zero_line,fun q hq=>?_⟩⟩
  have nW:W≠q:=fun z=>by rw[←z,zB]at hq;cases hq
  have hq0:H q=none:=by rw[zF nW.symm]at hq;exact hq
  refine⟨_,rfl,a,rfl,⟨_,Same.seq (Same.upd' (Same.upd' (Same.refl H) hW) hq0) hl⟩,for_list (K:=K) (a:=a) (xs:=vB l) (fun i σ H2=>∃(wA:Addr) (ps:List Addr) (done:List Bytes) (acc:Bytes) (v3:Option V),
    σ=[some (.ref a),some (.ref W),some (.ref wA),v3]∧Same H H2∧H2 W=some (.lst (ps.map V.ref))∧Paired (fun(p:Addr) w=>TupAt H2 p w) ps done∧H2 wA=some (.lst (vB acc))∧W≠wA∧H wA=none∧
    done.length≤i∧acc.length≤i∧i≤l.length∧done++wordsP acc (l.drop i)=wordsP [] l)
   ⟨q,[],[],[],none,rfl,Same.upd' (Same.upd' (Same.refl H) hW) hq0,by rw[zF nW,zB];rfl,.nil,zB,nW,hq0,Nat.le_refl _,Nat.le_refl _,Nat.zero_le _,rfl⟩
   (fun i σ H2 _ ⟨_,_,_,_,_,_,s2,_⟩=>s2.seq hl) ?_ ?_⟩
  ·rintro i x σ H2 hx ⟨wA,ps,done,acc,v3,rfl,s2,hW2,hps,hwA,nWA,hwA0,hd1,hd2,hi,he⟩
   obtain⟨c,hc,rfl⟩:=vB_get hx
   have hil:i<l.length:=(List.getElem?_eq_some_iff.mp hc).1
   have ed:l.drop i=c::l.drop (i+1):=by
    rw[List.drop_eq_getElem_cons hil,(List.getElem?_eq_some_iff.mp hc).2]
   rw[ed,wordsP]at he
   have hpl:=Paired.length hps
   refine⟨_,rfl,aB,_,rfl,.inr (T.blT _),rfl,rfl,_,rfl,?_⟩
   show if(!inV (V.int (c.toNat:Int)) [.int 32,.int 9,.int 13])=true then _ else _
   rw[blank_in]
   cases hb:blankP c with
   |false=>
    rw[hb,if_neg Bool.false_ne_true]at he
    refine iteT ⟨_,rfl,.inl ⟨rfl,_,SqL.of hwA⟩,_,rfl,wA,_,_,rfl,rfl,hwA,?_,?_⟩
    ·rw[vB_len];have:=zP;omega
    ·refine⟨wA,ps,done,acc++[c],_,rfl,Same.upd' s2 hwA0,?_,Paired.tups (TupKeep.lst (TupKeep.refl _) hwA) hps,?_,nWA,hwA0,by omega,by rw[List.length_append];simp;omega,hil,he⟩
     ·rw[zF nWA];exact hW2
     ·rw[zB,vB_app];rfl
   |true=>
    rw[hb,if_pos rfl]at he
    refine iteF ⟨_,rfl,_,.inl ⟨_,SqL.of hwA,rfl⟩,?_⟩
    cases acc with
    |nil=>
     rw[if_pos rfl]at he
     exact iteF ⟨wA,ps,done,[],_,rfl,s2,hW2,hps,hwA,nWA,hwA0,by omega,Nat.zero_le _,hil,he⟩
    |cons c0 acc0=>
     rw[if_neg (by simp)]at he
     refine iteT ⟨_,rfl,.inl ⟨rfl,_,SqL.of hW2⟩,_,rfl,wA,_,rfl,.inl ⟨SqL.of hwA,fun t ht=>?_⟩⟩
     have nWt:W≠t:=zH hW2 ht
     have hW3:(upd H2 t (.tup (vB (c0::acc0)))) W=some (.lst (ps.map V.ref)):=by rw[zF nWt];exact hW2
     refine⟨W,_,_,rfl,rfl,hW3,?_,?_⟩
     ·rw[List.length_map,hpl];have:=zP;omega
     ·refine⟨zero_line,fun q2 hq2=>?_⟩
      have nWq:W≠q2:=fun z=>by rw[←z,zB]at hq2;cases hq2
      have ht0:H t=none:=s2.free ht
      have hq20:H q2=none:=by
       have z:(upd H2 t (.tup (vB (c0::acc0)))) q2=none:=by rw[zF nWq.symm]at hq2;exact hq2
       have nt:q2≠t:=fun z'=>by rw[z',zB]at z;cases z
       rw[zF nt]at z
       exact s2.free z
      have kT:TupKeep H2 (upd (upd (upd H2 t (.tup (vB (c0::acc0)))) W (.lst (ps.map V.ref++[.ref t]))) q2 (.lst [])):=((TupKeep.refl _).new ht |>.lst hW3).new hq2
      refine⟨q2,ps++[t],done++[c0::acc0],[],_,rfl,Same.upd' (Same.upd' (Same.upd' s2 ht0) hW) hq20,?_,Paired.snoc (Paired.tups kT hps) ?_,zB,nWq,hq20,by rw[List.length_append];simp;omega,Nat.zero_le _,hil,?_⟩
      ·rw[zF nWq,zB,List.map_append];rfl
      ·show _=_
       have nt2:t≠q2:=zH (H:=upd (upd H2 t (.tup (vB (c0::acc0)))) W (.lst (ps.map V.ref++[.ref t]))) (by rw[zF nWt.symm];exact zB) hq2
       rw[zF nt2,zF nWt.symm,zB]
      ·rw[List.append_assoc];exact he
  ·rintro σ H2 ⟨wA,ps,done,acc,v3,rfl,s2,hW2,hps,hwA,nWA,hwA0,hd1,hd2,hi,he⟩
   have hpl:=Paired.length hps
   rw[vB_len]at hd1 hd2 he
   rw[List.drop_length,wordsP]at he
   refine⟨_,rfl,_,.inl ⟨_,SqL.of hwA,rfl⟩,?_⟩
   cases acc with
   |nil=>
    rw[if_pos rfl,List.append_nil]at he
    refine iteF ⟨_,rfl,?_⟩
    exact k _ W s2 hW ⟨ps,hW2,by rw[←he];exact hps⟩
   |cons c0 acc0=>
    rw[if_neg (by simp)]at he
    refine iteT ⟨_,rfl,.inl ⟨rfl,_,SqL.of hW2⟩,_,rfl,wA,_,rfl,.inl ⟨SqL.of hwA,fun t ht=>?_⟩⟩
    have nWt:W≠t:=zH hW2 ht
    have hW3:(upd H2 t (.tup (vB (c0::acc0)))) W=some (.lst (ps.map V.ref)):=by rw[zF nWt];exact hW2
    refine⟨W,_,_,rfl,rfl,hW3,?_,?_⟩
    ·rw[List.length_map,hpl];have:=zP;omega
    ·refine⟨_,rfl,?_⟩
     have kT:TupKeep H2 (upd (upd H2 t (.tup (vB (c0::acc0)))) W (.lst (ps.map V.ref++[.ref t]))):=(TupKeep.refl _).new ht |>.lst hW3
     refine k _ W (Same.upd' (Same.upd' s2 (s2.free ht)) hW) hW ⟨ps++[t],?_,?_⟩
     ·rw[zB,List.map_append];rfl
     ·rw[←he]
      exact Paired.snoc (Paired.tups kT hps) (show _=_ by rw[zF nWt.symm,zB])
end
end Ck
namespace Ck
open PySem L2 R
section
variable {P:Program}{w:World}{K:PySem.W.Frag}{mg:Str→Option Value}{base:Heap}{aB:Addr}
def digitsB(b:Bytes):Bool:=decide (0<b.length)&&b.all Ls.isDigit
def spDigits:Sp:=fun vs H Q _=>∃(a:Addr) (b:Bytes),vs=[.ref a]∧TupAt H a b∧b.length≤16500∧∀H',Same H H'→Q (.bl (digitsB b)) H'
theorem scDigits:FnScope ["signs","sign"] ["signs"] (defScope sDigits):=⟨rfl,rfl,rfl,by decide +kernel,rfl,by decide +kernel,by decide +kernel⟩
theorem blkDigits:blkC ["signs","sign"] (defScope sDigits) { kind:=.function,names:=[(".0",.local),("sign",.local),("ZERO",.globalImplicit),("NINE",.globalImplicit)],isGenerator:=false,isCoroutine:=false } [("sign",1)]=true:=by decide +kernel
theorem ok_digits{f:Addr}{fd:FuncData}(D:Dn K mg "are_digits" sDigits f fd ["signs"])(T:WdT K mg aB):FnOk P w K mg base CX0 1 f fd ["signs"] spDigits:=by
 refine D.fn.ok scDigits (fun vs H Q E h=>?_) (fun cdv A outer s H vs Q E hr h=>?_)
 ·obtain⟨a,b,rfl,_⟩:=h
  rfl
 ·obtain⟨a,ds,rfl,hp,hl,k⟩:=h
  obtain⟨tz,hz⟩:=T.zero
  obtain⟨tn,hn⟩:=T.nine
  refine⟨_,zE (zN (pe_and (yK op_gt (zU zR (by rfl) T.len PySem.boot_len (zA (pv 0) zG)) zI (zM _))
   (pe_one (zU (cr_all rfl) (by rfl) T.all PyProof.Rows.boot_all (zA (pe_lc rfl scDigits.nd (pi_tup (pv 0)) (blkOk_by (own:=[("sign",1)]) blkDigits) (fun _ _ _ _ _=>yJ (i:=1) scDigits.nd rfl (Or.inl rfl)) (fun _ _ _ _ _=>pts_nil)
    (fun _ _ _ _ _=>pe_chain op_le op_le (zQ (v:=V.int 48) (by rfl) hz ⟨tz,rfl⟩) (pv 1) (zQ (v:=V.int 57) (by rfl) hn ⟨tn,rfl⟩))) zG))))),?_⟩
  refine⟨_,rfl,a,_,rfl,.inr (SqT.of hp),_,_,rfl,rfl,_,rfl,?_⟩
  rw[vB_len]
  unfold digitsB at k
  refine ite2 (fun g1=>?_) (fun g1=>?_)
  ·have g1':0<ds.length:=by have:=of_decide_eq_true g1;omega
   rw[decide_eq_true g1',Bool.true_and]at k
   refine⟨_,rfl,_,rfl,⟨_,SqT.of hp⟩,fun D hD=>?_⟩
   have hD':H D=none:=hD
   refine lc_tup (K:=K) (xs:=vB ds) (fun i H'=>Same H H'∧H' D=some (.lst (((ds.take i).map Ls.isDigit).map V.bl))) ⟨Same.upd' (Same.refl _) hD',zB⟩ (fun i H' _ ⟨s,_⟩=>SqT.of (s _ _ hp)) ?_ ?_
   ·rintro i x H' hx ⟨s,hl'⟩
    obtain⟨c,hc,rfl⟩:=vB_get hx
    have hi:i<ds.length:=(List.getElem?_eq_some_iff.mp hc).1
    refine⟨rfl,tYes_if' ?_⟩
    have e2:ds.take (i+1)=ds.take i++[c]:=by rw[List.take_succ,hc];rfl
    have fin:∀bb,bb=Ls.isDigit c→∃acc,H' D=some (.lst acc)∧acc.length<sizeLine∧(Same H (upd H' D (.lst (acc++[V.bl bb])))∧(upd H' D (.lst (acc++[V.bl bb]))) D=some (.lst (((ds.take (i+1)).map Ls.isDigit).map V.bl))):=fun bb hb=>by
     refine⟨_,hl',?_,Same.upd' s hD',?_⟩
     ·rw[List.length_map,List.length_map,List.length_take]
      have:=zP;omega
     ·rw[zB,e2,List.map_append,List.map_append,hb];rfl
    refine⟨_,rfl,_,_,rfl,rfl,_,rfl,?_⟩
    have e3:Ls.isDigit c=(decide ((48:Int)≤(c.toNat:Int))&&decide ((c.toNat:Int)≤57)):=by
     unfold Ls.isDigit
     rw[decide_eq_decide.mpr (show((48:Int)≤(c.toNat:Int))↔48≤c.toNat by omega),decide_eq_decide.mpr (show((c.toNat:Int)≤57)↔c.toNat≤57 by omega)]
    refine ite2 (fun g3=>?_) (fun g3=>?_)
    ·refine⟨_,_,rfl,rfl,?_⟩
     exact fin _ (by rw[e3,g3];rfl)
    ·have g3':decide ((48:Int)≤(c.toNat:Int))=false:=by simpa using g3
     exact fin _ (by rw[e3,g3'];rfl)
   ·rintro H' ⟨s,hl'⟩
    rw[vB_len,List.take_length]at hl'
    refine⟨D,_,rfl,SqL.of hl',?_⟩
    have e4:(ds.map Ls.isDigit).all id=ds.all Ls.isDigit:=by rw[List.all_map];rfl
    rw[e4]
    exact k H' s
  ·have g1':decide (0<ds.length)=false:=decide_eq_false fun z=>g1 (decide_eq_true (by omega))
   rw[g1',Bool.false_and]at k
   exact k _ (Same.refl _)
end
end Ck
namespace Ck
open Ls
theorem yT(w:Bytes):isVar w=(varOf w).isSome:=by
 match w with
 |[]=>rfl
 |[c]=>
  simp only[isVar,varOf]
  by_cases h:97≤c.toNat∧c.toNat≤122
  ·rw[if_pos h];simp[h.1,h.2]
  ·rw[if_neg h]
   simp only[Option.isSome_none,Bool.and_eq_false_iff,decide_eq_false_iff_not]
   omega
 |_::_::_=>rfl
theorem isPro_iff(w:Bytes):isPro w=(procOf w).isSome:=by
 match w with
 |[]=>rfl
 |[c]=>
  simp only[isPro,procOf]
  by_cases h:65≤c.toNat∧c.toNat≤90
  ·rw[if_pos h];simp[h.1,h.2]
  ·rw[if_neg h]
   simp only[Option.isSome_none,Bool.and_eq_false_iff,decide_eq_false_iff_not]
   omega
 |_::_::_=>rfl
theorem isNum_iff(w:Bytes):isNum w=(numberOf w).isSome:=by
 unfold isNum numberOf whole
 by_cases hm:w.head? =some 45
 ·obtain⟨r,rfl⟩:∃r,w=45::r:=by
   cases w with
   |nil=>cases hm
   |cons a r=>simp at hm;exact⟨r,by rw[hm]⟩
  have hd:digits (45::r)=r:=by simp[digits]
  rw[hd]
  simp only[List.head?_cons,if_pos,List.drop_succ_cons,List.drop_zero,List.length_cons,true_and]
  by_cases h1:r=[]
  ·subst h1;simp
  ·have hl:1≤r.length:=by cases r with | nil=>exact absurd rfl h1 | cons _ _=>simp
   by_cases h2:r.length≤18
   ·rw[if_pos (Or.inr (by omega))]
    by_cases h3:r.all isDigit=true
    ·rw[if_pos ⟨h1,h3⟩];simp[hl,h2,h3]
    ·rw[if_neg (fun h=>h3 h.2)];simp[h3]
   ·rw[if_neg (by omega)];simp[h2]
 ·have hd:digits w=w:=by simp[digits,hm]
  rw[hd]
  simp only[hm,if_false,false_and,or_false]
  by_cases h1:w=[]
  ·subst h1;simp
  ·have hl:1≤w.length:=by cases w with | nil=>exact absurd rfl h1 | cons _ _=>simp
   by_cases h2:w.length≤18
   ·rw[if_pos h2]
    by_cases h3:w.all isDigit=true
    ·rw[if_pos ⟨h1,h3⟩];simp[hl,h2,h3]
    ·rw[if_neg (fun h=>h3 h.2)];simp[h3]
   ·rw[if_neg h2];simp[h2]
def look(w:Bytes):Int:=if(numberOf w).isSome then 0 else if(varOf w).isSome then 0 else if(opOf w).isSome then 2 else if w=[33]then 1 else -1
theorem opsW_look(w:Bytes):opsW w=look w:=by
 unfold opsW look
 by_cases h43:w=[43];· subst h43;rfl
 by_cases h45:w=[45];· subst h45;rfl
 by_cases h42:w=[42];· subst h42;rfl
 by_cases h47:w=[47];· subst h47;rfl
 by_cases h37:w=[37];· subst h37;rfl
 by_cases h60:w=[60];· subst h60;rfl
 by_cases h61:w=[61];· subst h61;rfl
 by_cases h33:w=[33];· subst h33;rfl
 have hl:OPS.lookup w=none:=by
  simp[OPS,List.lookup,h43,h45,h42,h47,h37,h60,h61,h33]
  have:∀x:Bytes,¬w=x→(w==x)=false:=fun x h=>by simpa using h
  simp[this _ h43,this _ h45,this _ h42,this _ h47,this _ h37,this _ h60,this _ h61,this _ h33]
 have ho:opOf w=none:=by
  unfold opOf
  have:∀x:Bytes,¬w=x→(x==w)=false:=fun x h=>by simpa using fun e=>h e.symm
  simp[List.findIdx?,List.findIdx?.go,this _ h43,this _ h45,this _ h42,this _ h47,this _ h37,this _ h60,this _ h61]
 rw[hl,ho]
 simp only[h33,if_false,yT,isNum_iff,Option.isSome_none,Bool.or_eq_true]
 by_cases hn:(numberOf w).isSome=true
 ·simp[hn]
 ·by_cases hv:(varOf w).isSome=true
  ·simp[hn,hv]
  ·simp[hn,hv]
theorem expr_cons(n:Nat)(w:Bytes)(r:List Bytes):
  (look w=0∧∃e,expr (n+1) (w::r)=some (e,r))∨
  (look w=2∧∃o,expr (n+1) (w::r)=(expr n r).bind fun x=>(expr n x.2).map fun y=>(Expr.bin o x.1 y.1,y.2))∨
  (look w=1∧expr (n+1) (w::r)=(expr n r).map fun x=>(Expr.not x.1,x.2))∨
  (look w= -1∧expr (n+1) (w::r)=none):=by
 unfold look
 rw[expr]
 cases hn:numberOf w with
 |some z=>left;exact⟨rfl,_,rfl⟩
 |none=>
  cases hv:varOf w with
  |some v=>left;exact⟨rfl,_,rfl⟩
  |none=>
   cases ho:opOf w with
   |some o=>right;left;exact⟨rfl,o,rfl⟩
   |none=>
    by_cases h:w=[33]
    ·right;right;left;simp[h]
    ·right;right;right;simp[h]
theorem expr_len:∀(n:Nat) (ws:List Bytes) (e:Expr) (r:List Bytes),expr n ws=some (e,r)→r.length<ws.length
 |0,ws,e,r,h=>by cases ws<;>simp[expr]at h
 |n+1,[],e,r,h=>by simp[expr]at h
 |n+1,w::t,e,r,h=>by
  rcases expr_cons n w t with⟨_,e',he⟩ | ⟨_,o,he⟩ | ⟨_,he⟩ | ⟨_,he⟩
  ·rw[he]at h;cases h;simp
  ·rw[he]at h
   cases h1:expr n t with
   |none=>rw[h1]at h;cases h
   |some x=>
    rw[h1]at h
    obtain⟨x1,x2⟩:=x
    simp only[Option.bind_some]at h
    cases h2:expr n x2 with
    |none=>rw[h2]at h;cases h
    |some y=>
     obtain⟨y1,y2⟩:=y
     rw[h2]at h
     have e':y2=r:=congrArg Prod.snd (Option.some.inj h)
     have a:=expr_len n t x1 x2 h1
     have b:=expr_len n x2 y1 y2 h2
     rw[e']at b
     simp;omega
  ·rw[he]at h
   cases h1:expr n t with
   |none=>rw[h1]at h;cases h
   |some x=>
    obtain⟨x1,x2⟩:=x
    rw[h1]at h
    have e':x2=r:=congrArg Prod.snd (Option.some.inj h)
    have a:=expr_len n t x1 x2 h1
    rw[e']at a
    simp;omega
  ·rw[he]at h;cases h
theorem expr_count:∀(n:Nat) (ws:List Bytes),ws.length<n→∀m:Nat,
  exprsP ((m:Int) +1) ws=(match expr n ws with
   |some x=>exprsP (m:Int) x.2
   |none=>false)
 |0,ws,h,m=>absurd h (Nat.not_lt_zero _)
 |n+1,[],h,m=>by simp[exprsP,expr];omega
 |n+1,w::t,h,m=>by
  have ht:t.length<n:=by simp at h;omega
  have hm:¬((m:Int) +1=0):=by omega
  rw[exprsP,opsW_look]
  rcases expr_cons n w t with⟨hl,e',he⟩ | ⟨hl,o,he⟩ | ⟨hl,he⟩ | ⟨hl,he⟩
  ·rw[he,hl,if_neg (by omega)]
   simp only
   congr 1;omega
  ·rw[he,hl,if_neg (by omega)]
   have e2:(m:Int) +1-1+2=((m+1:Nat):Int) +1:=by omega
   rw[e2,expr_count n t ht (m+1)]
   cases h1:expr n t with
   |none=>rfl
   |some x=>
    obtain⟨x1,x2⟩:=x
    have hx:=expr_len n t x1 x2 h1
    simp only[Option.bind_some]
    have e3:((m+1:Nat):Int)=(m:Int) +1:=by omega
    rw[e3,expr_count n x2 (by omega) m]
    cases h2:expr n x2 with
    |none=>rfl
    |some y=>rfl
  ·rw[he,hl,if_neg (by omega)]
   have e2:(m:Int) +1-1+1=(m:Int) +1:=by omega
   rw[e2,expr_count n t ht m]
   cases h1:expr n t with
   |none=>rfl
   |some x=>rfl
  ·rw[he,hl,if_pos (by omega)]
theorem exprs_nil0(ws:List Bytes):exprsP 0 ws=decide (ws=[]):=by
 cases ws with
 |nil=>rfl
 |cons w r=>simp[exprsP]
theorem one_iff(ws:List Bytes):exprsP 1 ws=(one ws).isSome:=by
 have h:=expr_count (ws.length+1) ws (Nat.lt_succ_self _) 0
 have e0:((0:Nat):Int) +1=1:=rfl
 rw[e0]at h
 rw[h]
 unfold one
 cases h1:expr (ws.length+1) ws with
 |none=>rfl
 |some x=>
  simp only[Option.bind_some]
  show exprsP 0 x.2=_
  rw[exprs_nil0]
  by_cases h2:x.2=[]
  ·simp[h2]
  ·simp[h2]
theorem several_iff:∀(n:Nat) (ws:List Bytes),ws.length<n→∀k:Nat,exprsP (k:Int) ws=decide ((several n ws).map List.length=some k)
 |0,ws,h,k=>absurd h (Nat.not_lt_zero _)
 |n+1,[],h,k=>by simp[exprsP,several];exact⟨fun h=>by omega,fun h=>by omega⟩
 |n+1,w::r,h,k=>by
  cases k with
  |zero=>
   show exprsP 0 _=_
   rw[exprs_nil0,several]
   cases h1:expr (r.length+2) (w::r)with
   |none=>simp
   |some x=>
    cases h2:several n x.2 with
    |none=>simp[h2]
    |some l=>simp[h2]
  |succ k=>
   have e:=expr_count (r.length+2) (w::r) (by simp) k
   have e1:((k+1:Nat):Int)=(k:Int) +1:=by omega
   rw[e1,e,several]
   cases h1:expr (r.length+2) (w::r)with
   |none=>simp
   |some x=>
    obtain⟨x1,x2⟩:=x
    have hx:=expr_len _ _ _ _ h1
    simp only[Option.bind_some]
    rw[several_iff n x2 (by simp at h hx;omega) k]
    refine decide_eq_decide.mpr ?_
    cases several n x2 with
    |none=>simp
    |some l=>simp
end Ck
namespace Ck
open Ls
def mSet:List Bytes→L
 |v::e=>orWrong ((varOf v).bind fun v=>(one e).map (L.set v))
 |[]=>.wrong
def mGet:List Bytes→L
 |[v]=>orWrong ((varOf v).map L.get)
 |_=>.wrong
def mProc:List Bytes→L
 |p::vs=>orWrong ((procOf p).bind fun p=>(varsOf vs).bind fun l=>if l.length≤4∧distinct l=true then some (L.proc p l)else none)
 |[]=>.wrong
def mDo:List Bytes→L
 |p::es=>orWrong ((procOf p).bind fun p=>(several (es.length+1) es).map (L.call p))
 |[]=>.wrong
def lineW(ws:List Bytes):L:=
 if WORDS<ws.length then .wrong
 else match ws with
  |[]=>.skip
  |w::r=>
   if w.head? =some 35 then .skip
   else if w=ascii "set" then mSet r
   else if w=ascii "get" then mGet r
   else if w=ascii "put" then orWrong ((one r).map L.put)
   else if w=ascii "if" then orWrong ((one r).map L.cond)
   else if w=ascii "while" then orWrong ((one r).map L.loop)
   else if w=ascii "else" then(if r=[]then .els else .wrong)
   else if w=ascii "end" then(if r=[]then .ends else .wrong)
   else if w=ascii "stop" then(if r=[]then .halt_ else .wrong)
   else if w=ascii "proc" then mProc r
   else if w=ascii "do" then mDo r
   else .wrong
theorem lineOf_eq(s:Bytes):lineOf s=lineW (words s):=by
 unfold lineOf lineW
 rfl
theorem a_set:ascii "set"=[115,101,116]:=by decide
theorem a_get:ascii "get"=[103,101,116]:=by decide
theorem a_put:ascii "put"=[112,117,116]:=by decide
theorem a_if:ascii "if"=[105,102]:=by decide
theorem a_else:ascii "else"=[101,108,115,101]:=by decide
theorem a_while:ascii "while"=[119,104,105,108,101]:=by decide
theorem a_proc:ascii "proc"=[112,114,111,99]:=by decide
theorem a_end:ascii "end"=[101,110,100]:=by decide
theorem a_do:ascii "do"=[100,111]:=by decide
theorem a_stop:ascii "stop"=[115,116,111,112]:=by decide
theorem kind_cases(w:Bytes)(r:List Bytes):
  (kindOf (w::r)=.nothing∧w.head? =some 35)∨(w.head? ≠some 35∧(
  (kindOf (w::r)=.set∧w=[115,101,116])∨(kindOf (w::r)=.get∧w=[103,101,116])∨(kindOf (w::r)=.put∧w=[112,117,116])∨
  (kindOf (w::r)=.if_∧w=[105,102])∨(kindOf (w::r)=.else_∧w=[101,108,115,101])∨(kindOf (w::r)=.while_∧w=[119,104,105,108,101])∨
  (kindOf (w::r)=.proc∧w=[112,114,111,99])∨(kindOf (w::r)=.end_∧w=[101,110,100])∨(kindOf (w::r)=.do_∧w=[100,111])∨
  (kindOf (w::r)=.stop∧w=[115,116,111,112])∨
  (kindOf (w::r)=.unknown∧w≠[115,101,116]∧w≠[103,101,116]∧w≠[112,117,116]∧w≠[105,102]∧w≠[101,108,115,101]∧w≠[119,104,105,108,101]∧
   w≠[112,114,111,99]∧w≠[101,110,100]∧w≠[100,111]∧w≠[115,116,111,112]))):=by
 by_cases h0:w.head? =some 35
 ·left;exact⟨by simp[kindOf,h0],h0⟩
 right;refine⟨h0,?_⟩
 by_cases h1:w=[115,101,116];· left;subst h1;exact⟨rfl,rfl⟩
 right;by_cases h2:w=[103,101,116];· left;subst h2;exact⟨rfl,rfl⟩
 right;by_cases h3:w=[112,117,116];· left;subst h3;exact⟨rfl,rfl⟩
 right;by_cases h4:w=[105,102];· left;subst h4;exact⟨rfl,rfl⟩
 right;by_cases h5:w=[101,108,115,101];· left;subst h5;exact⟨rfl,rfl⟩
 right;by_cases h6:w=[119,104,105,108,101];· left;subst h6;exact⟨rfl,rfl⟩
 right;by_cases h7:w=[112,114,111,99];· left;subst h7;exact⟨rfl,rfl⟩
 right;by_cases h8:w=[101,110,100];· left;subst h8;exact⟨rfl,rfl⟩
 right;by_cases h9:w=[100,111];· left;subst h9;exact⟨rfl,rfl⟩
 right;by_cases h10:w=[115,116,111,112];· left;subst h10;exact⟨rfl,rfl⟩
 right
 refine⟨?_,h1,h2,h3,h4,h5,h6,h7,h8,h9,h10⟩
 have t:∀x:Bytes,¬w=x→(w==x)=false:=fun x h=>by simpa using h
 simp only[kindOf,h0,if_false,COMM,List.lookup,t _ h1,t _ h2,t _ h3,t _ h4,t _ h5,t _ h6,t _ h7,t _ h8,t _ h9,t _ h10,Option.getD_none]
theorem varOf_inj{a b:Bytes}{v:Nat}(ha:varOf a=some v)(hb:varOf b=some v):a=b:=by
 match a,b with
 |[],_=>cases ha
 |_::_::_,_=>cases ha
 |[c],[]=>cases hb
 |[c],_::_::_=>cases hb
 |[c],[d]=>
  simp only[varOf]at ha hb
  split at ha<;>split at hb
  ·rename_i h1 h2
   have e1:=Option.some.inj ha
   have e2:=Option.some.inj hb
   have:c.toNat=d.toNat:=by omega
   rw[UInt8.toNat_inj.mp this]
  all_goals first | (cases hb;done) | (cases ha;done)
theorem procOf_inj{a b:Bytes}{v:Nat}(ha:procOf a=some v)(hb:procOf b=some v):a=b:=by
 match a,b with
 |[],_=>cases ha
 |_::_::_,_=>cases ha
 |[c],[]=>cases hb
 |[c],_::_::_=>cases hb
 |[c],[d]=>
  simp only[procOf]at ha hb
  split at ha<;>split at hb
  ·rename_i h1 h2
   have e1:=Option.some.inj ha
   have e2:=Option.some.inj hb
   have:c.toNat=d.toNat:=by omega
   rw[UInt8.toNat_inj.mp this]
  all_goals first | (cases hb;done) | (cases ha;done)
theorem varsOf_some:∀(ws:List Bytes),ws.all isVar=true→∃l,varsOf ws=some l∧l.length=ws.length∧distinct l=decide ws.Nodup∧∀w∈ws,∃v,varOf w=some v∧v∈l
 |[],_=>⟨[],rfl,rfl,rfl,by simp⟩
 |w::r,h=>by
  simp only[List.all_cons,Bool.and_eq_true]at h
  obtain⟨l,h1,h2,h3,h4⟩:=varsOf_some r h.2
  rw[yT]at h
  obtain⟨v,hv⟩:=Option.isSome_iff_exists.mp h.1
  refine⟨v::l,by rw[varsOf,hv,h1],by simp[h2],?_,?_⟩
  ·rw[distinct,h3]
   have hc:l.contains v=decide (w∈r):=by
    have key:∀(r:List Bytes) (l:List Nat),varsOf r=some l→l.contains v=decide (w∈r):=by
     intro r
     induction r with
     |nil=>intro l e;cases e;rfl
     |cons x t ih=>
      intro l e
      rw[varsOf]at e
      cases hx:varOf x with
      |none=>rw[hx]at e;cases e
      |some y=>
       cases ht:varsOf t with
       |none=>rw[hx,ht]at e;cases e
       |some l'=>
        rw[hx,ht]at e
        cases e
        rw[List.contains_cons,ih l' ht]
        by_cases q:w=x
        ·subst q
         rw[hv]at hx
         cases hx
         simp
        ·have q2:¬v=y:=fun e=>q (varOf_inj hv (by rw[e];exact hx))
         have q3:(v==y)=false:=by simpa using q2
         rw[q3]
         simp[q]
    exact key r l h1
   rw[hc]
   by_cases q:w∈r
   ·simp[q]
   ·simp[q]
  ·intro x hx
   rcases List.mem_cons.mp hx with e | e
   ·subst e;exact⟨v,hv,by simp⟩
   ·obtain⟨y,hy,hm⟩:=h4 x e
    exact⟨y,hy,by simp[hm]⟩
theorem varsOf_none:∀(ws:List Bytes),ws.all isVar=false→varsOf ws=none
 |[],h=>by cases h
 |w::r,h=>by
  rw[varsOf]
  cases hv:varOf w with
  |none=>rfl
  |some v=>
   have:r.all isVar=false:=by
    simp only[List.all_cons,Bool.and_eq_false_iff,yT,hv,Option.isSome_some]at h
    rcases h with h | h
    ·cases h
    ·simpa[yT] using h
   rw[varsOf_none r this]
section
variable {r:List Bytes}
theorem lw_long{ws:List Bytes}(h:WORDS<ws.length):lineW ws=.wrong:=if_pos h
theorem lw_hash{w:Bytes}(h:w.head? =some 35)(hw:¬WORDS< (w::r).length):lineW (w::r)=.skip:=(if_neg hw).trans (if_pos h)
theorem xC{w:Bytes}(h:w.head? ≠some 35)(hw:¬WORDS< (w::r).length):lineW (w::r)=
  (if w=[115,101,116]then mSet r
   else if w=[103,101,116]then mGet r
   else if w=[112,117,116]then orWrong ((one r).map L.put)
   else if w=[105,102]then orWrong ((one r).map L.cond)
   else if w=[119,104,105,108,101]then orWrong ((one r).map L.loop)
   else if w=[101,108,115,101]then(if r=[]then .els else .wrong)
   else if w=[101,110,100]then(if r=[]then .ends else .wrong)
   else if w=[115,116,111,112]then(if r=[]then .halt_ else .wrong)
   else if w=[112,114,111,99]then mProc r
   else if w=[100,111]then mDo r
   else .wrong):=by
 unfold lineW
 rw[if_neg hw]
 simp only[a_set,a_get,a_put,a_if,a_else,a_while,a_proc,a_end,a_do,a_stop]
 rw[if_neg h]
theorem lw_set(hw:¬WORDS< ([115,101,116]::r:List Bytes).length):lineW ([115,101,116]::r)=mSet r:=by rw[xC (by decide) hw];rfl
theorem lw_get(hw:¬WORDS< ([103,101,116]::r:List Bytes).length):lineW ([103,101,116]::r)=mGet r:=by rw[xC (by decide) hw];rfl
theorem lw_put(hw:¬WORDS< ([112,117,116]::r:List Bytes).length):lineW ([112,117,116]::r)=orWrong ((one r).map L.put):=by rw[xC (by decide) hw];rfl
theorem lw_if(hw:¬WORDS< ([105,102]::r:List Bytes).length):lineW ([105,102]::r)=orWrong ((one r).map L.cond):=by rw[xC (by decide) hw];rfl
theorem lw_while(hw:¬WORDS< ([119,104,105,108,101]::r:List Bytes).length):lineW ([119,104,105,108,101]::r)=orWrong ((one r).map L.loop):=by rw[xC (by decide) hw];rfl
theorem lw_else(hw:¬WORDS< ([101,108,115,101]::r:List Bytes).length):lineW ([101,108,115,101]::r)=(if r=[]then .els else .wrong):=by rw[xC (by decide) hw];rfl
theorem lw_end(hw:¬WORDS< ([101,110,100]::r:List Bytes).length):lineW ([101,110,100]::r)=(if r=[]then .ends else .wrong):=by rw[xC (by decide) hw];rfl
theorem lw_stop(hw:¬WORDS< ([115,116,111,112]::r:List Bytes).length):lineW ([115,116,111,112]::r)=(if r=[]then .halt_ else .wrong):=by rw[xC (by decide) hw];rfl
theorem lw_proc(hw:¬WORDS< ([112,114,111,99]::r:List Bytes).length):lineW ([112,114,111,99]::r)=mProc r:=by rw[xC (by decide) hw];rfl
theorem lw_do(hw:¬WORDS< ([100,111]::r:List Bytes).length):lineW ([100,111]::r)=mDo r:=by rw[xC (by decide) hw];rfl
end
theorem proc_line(r:List Bytes)(hw:¬WORDS< ([112,114,111,99]::r:List Bytes).length):
  (isProcL ([112,114,111,99]::r)=true∧∃p vs q,lineW ([112,114,111,99]::r)=.proc p vs∧r.head? =some q∧procOf q=some p∧vs.length=r.length-1)∨
  (isProcL ([112,114,111,99]::r)=false∧lineW ([112,114,111,99]::r)=.wrong):=by
 rw[lw_proc hw]
 clear hw
 cases r with
 |nil=>right;exact⟨rfl,rfl⟩
 |cons p vs=>
  have hP:isProcL ([112,114,111,99]::p::vs)=(isPro p&&decide (vs.length≤4)&&decide vs.Nodup&&vs.all isVar):=by
   have hk:kindOf ([112,114,111,99]::p::vs)=.proc:=rfl
   unfold isProcL
   rw[hk]
   simp
  rw[hP]
  rw[mProc]
  cases hp:procOf p with
  |none=>
   right
   rw[isPro_iff,hp]
   exact⟨rfl,rfl⟩
  |some k=>
   cases ha:vs.all isVar with
   |false=>
    right
    rw[varsOf_none vs ha]
    exact⟨by simp,rfl⟩
   |true=>
    obtain⟨l,h1,h2,h3,_⟩:=varsOf_some vs ha
    rw[h1]
    rw[isPro_iff,hp]
    simp only[Option.isSome_some,Bool.true_and,Option.bind_some,h2,h3,Bool.and_true]
    by_cases q:vs.length≤4∧decide vs.Nodup=true
    ·left
     rw[if_pos q]
     exact⟨by simp[q.1,of_decide_eq_true q.2],k,l,p,rfl,rfl,hp,by simp[h2]⟩
    ·right
     rw[if_neg q]
     refine⟨?_,rfl⟩
     cases h:(decide (vs.length≤4)&&decide vs.Nodup)
     ·rfl
     ·simp only[Bool.and_eq_true,decide_eq_true_eq]at h
      exact absurd ⟨h.1,decide_eq_true h.2⟩ q
theorem kind_proc{w:Bytes}{r:List Bytes}(h:kindOf (w::r)=.proc):w=[112,114,111,99]:=by
 rcases kind_cases w r with⟨k,_⟩ | ⟨_,⟨k,_⟩ | ⟨k,_⟩ | ⟨k,_⟩ | ⟨k,_⟩ | ⟨k,_⟩ | ⟨k,_⟩ | ⟨k,e⟩ | ⟨k,_⟩ | ⟨k,_⟩ | ⟨k,_⟩ | ⟨k,_⟩⟩
 case inr.inr.inr.inr.inr.inr.inr.inl=>exact e
 all_goals (rw[h]at k;cases k)
theorem proc_words(ws:List Bytes)(h:isProcL ws=true):∃p vs,ws=[112,114,111,99]::p::vs∧vs.length≤4:=by
 unfold isProcL at h
 simp only[Bool.and_eq_true,decide_eq_true_eq]at h
 obtain⟨⟨⟨⟨⟨h1,h2⟩,_⟩,h4⟩,_⟩,_⟩:=h
 match ws with
 |[]=>cases h1
 |[w]=>simp at h2
 |w::p::vs=>
  have h4':vs.length≤4:=by simpa using h4
  exact⟨p,vs,by rw[kind_proc h1],h4'⟩
theorem proc_short(ws:List Bytes)(h:isProcL ws=true):¬WORDS<ws.length:=by
 obtain⟨p,vs,rfl,h4⟩:=proc_words ws h
 simp[WORDS];omega
theorem noproc_set(r:List Bytes){p:Nat}{vs:List Nat}:mSet r≠.proc p vs:=by
 cases r with
 |nil=>intro e;cases e
 |cons v t=>
  intro e
  rw[mSet]at e
  cases h1:varOf v with
  |none=>rw[h1]at e;cases e
  |some x=>
   cases h2:one t with
   |none=>rw[h1,h2]at e;cases e
   |some y=>rw[h1,h2]at e;cases e
theorem noproc_get(r:List Bytes){p:Nat}{vs:List Nat}:mGet r≠.proc p vs:=by
 match r with
 |[]=>intro e;cases e
 |[v]=>
  intro e
  rw[mGet]at e
  cases h1:varOf v with
  |none=>rw[h1]at e;cases e
  |some x=>rw[h1]at e;cases e
 |_::_::_=>intro e;cases e
theorem noproc_do(r:List Bytes){p:Nat}{vs:List Nat}:mDo r≠.proc p vs:=by
 cases r with
 |nil=>intro e;cases e
 |cons q es=>
  intro e
  rw[mDo]at e
  cases h1:procOf q with
  |none=>rw[h1]at e;cases e
  |some x=>
   cases h2:several (es.length+1) es with
   |none=>rw[h1,h2]at e;cases e
   |some y=>rw[h1,h2]at e;cases e
theorem noproc_one{f:Expr→L}(r:List Bytes){p:Nat}{vs:List Nat}(hf:∀x,f x≠.proc p vs):orWrong ((one r).map f)≠.proc p vs:=by
 cases h:one r with
 |none=>intro e;cases e
 |some x=>exact hf x
theorem body_noproc{w:Bytes}{r:List Bytes}{p:Nat}{vs:List Nat}(hp:w≠[112,114,111,99])(e:(if w=[115,101,116]then mSet r
   else if w=[103,101,116]then mGet r
   else if w=[112,117,116]then orWrong ((one r).map L.put)
   else if w=[105,102]then orWrong ((one r).map L.cond)
   else if w=[119,104,105,108,101]then orWrong ((one r).map L.loop)
   else if w=[101,108,115,101]then(if r=[]then .els else .wrong)
   else if w=[101,110,100]then(if r=[]then .ends else .wrong)
   else if w=[115,116,111,112]then(if r=[]then .halt_ else .wrong)
   else if w=[112,114,111,99]then mProc r
   else if w=[100,111]then mDo r
   else .wrong)=L.proc p vs):False:=by
 split at e
 ·exact noproc_set r e
 split at e
 ·exact noproc_get r e
 split at e
 ·exact noproc_one r (by intro x h;cases h) e
 split at e
 ·exact noproc_one r (by intro x h;cases h) e
 split at e
 ·exact noproc_one r (by intro x h;cases h) e
 split at e
 ·split at e<;>cases e
 split at e
 ·split at e<;>cases e
 split at e
 ·split at e<;>cases e
 split at e
 ·exact noproc_do r e
 ·cases e
theorem proc_iff(ws:List Bytes):(isProcL ws=true∧∃p vs,lineW ws=.proc p vs∧procOf (ws.getD 1 [])=some p∧vs.length=ws.length-2)∨(isProcL ws=false∧∀p vs,lineW ws≠.proc p vs):=by
 cases h:isProcL ws with
 |true=>
  left
  refine⟨rfl,?_⟩
  obtain⟨p,vs,e,h4⟩:=proc_words ws h
  subst e
  rcases proc_line (p::vs) (proc_short _ h)with⟨_,k,us,q,h1,h2,h3,h5⟩ | ⟨h1,_⟩
  ·simp at h2
   subst h2
   exact⟨k,us,h1,h3,by simpa using h5⟩
  ·rw[h]at h1;cases h1
 |false=>
  right
  refine⟨rfl,fun p vs e=>?_⟩
  have hw:¬WORDS<ws.length:=by
   intro hw
   unfold lineW at e
   rw[if_pos hw]at e
   cases e
  match ws with
  |[]=>unfold lineW at e;rw[if_neg hw]at e;cases e
  |w::r=>
   by_cases hp:w=[112,114,111,99]
   ·subst hp
    rcases proc_line r hw with⟨h1,_⟩ | ⟨_,h1⟩
    ·rw[h]at h1;cases h1
    ·rw[e]at h1;cases h1
   ·by_cases h0:w.head? =some 35
    ·rw[lw_hash h0 hw]at e;cases e
    ·rw[xC h0 hw]at e
     exact body_noproc hp e
end Ck
namespace Ck
open Ls
theorem lookup_snoc(T:List (Bytes×Nat))(w v:Bytes)(n:Nat):(T++[(w,n)]).lookup v=(T.lookup v).or (if v=w then some n else none):=by
 induction T with
 |nil=>
  simp only[List.nil_append,List.lookup,Option.none_or]
  by_cases h:v=w
  ·subst h;simp
  ·have:(v==w)=false:=by simpa using h
   rw[this,if_neg h]
 |cons x t ih=>
  obtain⟨a,b⟩:=x
  simp only[List.cons_append,List.lookup]
  cases h:v==a with
  |true=>simp
  |false=>exact ih
theorem put1_lookup(T:List (Bytes×Nat))(w v:Bytes)(n:Nat):(put1 T w n).lookup v=(T.lookup v).or (if v=w then some n else none):=by
 unfold put1
 by_cases h:(T.lookup w).isSome=true
 ·rw[if_pos h]
  by_cases e:v=w
  ·subst e
   obtain⟨k,hk⟩:=Option.isSome_iff_exists.mp h
   rw[hk];rfl
  ·rw[if_neg e];simp
 ·rw[if_neg h,lookup_snoc]
theorem procAt_shift(p:Nat):∀(P:List L) (i j:Nat),(procAt p i P).map (fun x=>x.2.length)=(procAt p j P).map fun x=>x.2.length
 |[],_,_=>rfl
 |l::r,i,j=>by
  cases l with
  |proc q vs=>
   rw[procAt,procAt]
   by_cases h:q=p
   ·rw[if_pos h,if_pos h];rfl
   ·rw[if_neg h,if_neg h];exact procAt_shift p r _ _
  |_=>exact procAt_shift p r _ _
theorem procAt_other{p:Nat}{l:L}{r:List L}{i:Nat}(h:∀q vs,l≠.proc q vs):procAt p i (l::r)=procAt p (i+1) r:=by
 cases l with
 |proc q vs=>exact absurd rfl (h q vs)
 |_=>rfl
theorem told_lookup{w:Bytes}{p:Nat}(hp:procOf w=some p):∀(Ws:List (List Bytes)) (T:List (Bytes×Nat)),
  (toldP T Ws).lookup w=(T.lookup w).or ((procAt p 0 (Ws.map lineW)).map fun x=>x.2.length)
 |[],T=>by simp[toldP,procAt]
 |ws::r,T=>by
  rw[toldP,told_lookup hp r,List.map_cons]
  rcases proc_iff ws with⟨h,q,vs,h1,h2,h3⟩ | ⟨h,h1⟩
  ·rw[if_pos h,put1_lookup,h1,procAt,←h3]
   by_cases e:w=ws.getD 1 []
   ·rw[if_pos e]
    have eq:q=p:=by
     rw[←e,hp]at h2
     exact(Option.some.inj h2).symm
    rw[if_pos eq]
    cases T.lookup w with
    |none=>rfl
    |some k=>rfl
   ·rw[if_neg e]
    have eq:¬q=p:=fun z=>e (procOf_inj hp (by rw[←z];exact h2))
    rw[if_neg eq,Option.or_none,procAt_shift p (r.map lineW) (0+1) 0]
  ·rw[if_neg (by rw[h];decide),procAt_other h1,procAt_shift p (r.map lineW) (0+1) 0]
theorem told_none{w:Bytes}(hp:procOf w=none):∀(Ws:List (List Bytes)) (T:List (Bytes×Nat)),T.lookup w=none→(toldP T Ws).lookup w=none
 |[],T,h=>h
 |ws::r,T,h=>by
  rw[toldP]
  refine told_none hp r _ ?_
  rcases proc_iff ws with⟨h0,q,vs,h1,h2,h3⟩ | ⟨h0,h1⟩
  ·rw[if_pos h0,put1_lookup,h]
   have:¬w=ws.getD 1 []:=fun e=>by rw[←e,hp]at h2;cases h2
   rw[if_neg this];rfl
  ·rw[if_neg (by rw[h0];decide)];exact h
def kc:Kd→Nat
 |.if_=>0
 |.else_=>1
 |.while_=>2
 |.proc=>3
 |_=>4
theorem kc_if{k:Kd}(h:kc k=0):k=.if_:=by cases k<;>first | rfl | cases h
abbrev stOf(bl:List Kd):List Nat:=bl.reverse.map kc
theorem st_nil{bl:List Kd}:stOf bl=[]↔bl.length=0:=by simp[stOf]
theorem st_len(bl:List Kd):(stOf bl).length=bl.length:=by simp[stOf]
theorem st_push(bl:List Kd)(k:Kd):stOf (bl++[k])=kc k::stOf bl:=by simp[stOf]
theorem st_drop(bl:List Kd):stOf bl.dropLast=(stOf bl).drop 1:=by
 rcases List.eq_nil_or_concat bl with h | ⟨l,x,h⟩
 ·subst h;rfl
 ·subst h;simp[stOf]
theorem st_head(bl:List Kd):(stOf bl).head? =some 0↔bl.getLast? =some .if_:=by
 rcases List.eq_nil_or_concat bl with h | ⟨l,x,h⟩
 ·subst h;simp[stOf]
 ·subst h
  simp only[stOf,List.concat_eq_append,List.reverse_append,List.reverse_cons,List.reverse_nil,List.nil_append,List.cons_append,List.map_cons,List.head?_cons,List.getLast?_append,List.getLast?_singleton,Option.some_or,Option.some.injEq]
  constructor
  ·exact fun h=>kc_if h
  ·intro h;rw[h];rfl
def Seen(seen:List Nat)(bg:List Bytes):Prop:=∀w p,procOf w=some p→seen.contains p=bg.contains w
structure Told (ar:Nat→Option Nat) (T:List (Bytes×Nat)):Prop where
 yes:∀w p,procOf w=some p→T.lookup w=ar p
 no:∀w,procOf w=none→T.lookup w=none
theorem getD1{w q:Bytes}{t:List Bytes}:(w::q::t).getD 1 []=q:=rfl
variable {ar:Nat→Option Nat}{T:List (Bytes×Nat)}
theorem scan_step(hT:Told ar T){n:Nat}{bl:List Kd}{bg:List Bytes}{seen:List Nat}(hs:Seen seen bg)(ws:List Bytes)(R:List L):
  (∃seen',Seen seen' (bgAfter bg ws)∧isWr T ws=true∧allowsP bl bg ws=true∧scan ar n (stOf bl) seen (lineW ws::R)=scan ar (n+1) (stOf (blAfter bl ws)) seen' R)∨
  ((isWr T ws=false∨allowsP bl bg ws=false)∧scan ar n (stOf bl) seen (lineW ws::R)=n):=by
 by_cases hw:WORDS<ws.length
 ·right
  rw[lw_long hw]
  refine⟨Or.inl ?_,rfl⟩
  unfold isWr
  rw[if_pos (show 60<ws.length from hw)]
 have hw':¬60<ws.length:=hw
 match ws with
 |[]=>left;exact⟨seen,hs,rfl,rfl,rfl⟩
 |w::r=>
  rcases kind_cases w r with⟨k,e⟩ | ⟨h0,⟨k,e⟩ | ⟨k,e⟩ | ⟨k,e⟩ | ⟨k,e⟩ | ⟨k,e⟩ | ⟨k,e⟩ | ⟨k,e⟩ | ⟨k,e⟩ | ⟨k,e⟩ | ⟨k,e⟩ | ⟨k,e⟩⟩
  ·-- nothing
   left
   rw[lw_hash e hw]
   refine⟨seen,by rw[bgAfter,k];exact hs,by rw[isWr,if_neg hw',k],by rw[allowsP,k],?_⟩
   rw[blAfter,k];rfl
  ·-- set
   subst e
   rw[lw_set hw]
   cases r with
   |nil=>right;exact⟨Or.inl rfl,rfl⟩
   |cons v t=>
    rw[mSet]
    have hwr:isWr T ([115,101,116]::v::t)=(isVar v&&exprsP 1 t):=by rw[isWr,if_neg hw',k];simp
    rw[hwr,yT,one_iff]
    cases h1:varOf v with
    |none=>right;exact⟨Or.inl (by simp),rfl⟩
    |some x=>
     cases h2:one t with
     |none=>right;exact⟨Or.inl (by simp),rfl⟩
     |some y=>left;exact⟨seen,hs,rfl,rfl,rfl⟩
  ·-- get
   subst e
   rw[lw_get hw]
   match r with
   |[]=>right;exact⟨Or.inl rfl,rfl⟩
   |[v]=>
    rw[mGet]
    have hwr:isWr T ([103,101,116]::[v])=isVar v:=by rw[isWr,if_neg hw',k];simp
    rw[hwr,yT]
    cases h1:varOf v with
    |none=>right;exact⟨Or.inl rfl,rfl⟩
    |some x=>left;exact⟨seen,hs,rfl,rfl,rfl⟩
   |a::b::t=>
    right
    refine⟨Or.inl ?_,rfl⟩
    rw[isWr,if_neg hw',k];simp
  ·-- put
   subst e
   rw[lw_put hw]
   have hwr:isWr T ([112,117,116]::r)=exprsP 1 r:=by rw[isWr,if_neg hw',k];simp
   rw[hwr,one_iff]
   cases h2:one r with
   |none=>right;exact⟨Or.inl rfl,rfl⟩
   |some y=>left;exact⟨seen,hs,rfl,rfl,rfl⟩
  ·-- if
   subst e
   rw[lw_if hw]
   have hwr:isWr T ([105,102]::r)=exprsP 1 r:=by rw[isWr,if_neg hw',k];simp
   rw[hwr,one_iff]
   cases h2:one r with
   |none=>right;exact⟨Or.inl rfl,rfl⟩
   |some y=>
    show _∨_
    have hsc:scan ar n (stOf bl) seen (orWrong ((some y).map L.cond)::R)=if DEEP≤(stOf bl).length then n else scan ar (n+1) (0::stOf bl) seen R:=rfl
    rw[hsc,st_len]
    by_cases hd:bl.length<40
    ·left
     rw[if_neg (show¬DEEP≤bl.length from by unfold DEEP;omega)]
     refine⟨seen,hs,rfl,by rw[allowsP,k];simpa using hd,?_⟩
     rw[blAfter,k];simp only[st_push];rfl
    ·right
     rw[if_pos (show DEEP≤bl.length from by unfold DEEP;omega)]
     exact⟨Or.inr (by rw[allowsP,k];simpa using hd),rfl⟩
  ·-- else
   subst e
   rw[lw_else hw]
   cases r with
   |cons a t=>right;exact⟨Or.inl (by rw[isWr,if_neg hw',k];simp),rfl⟩
   |nil=>
    rw[if_pos rfl]
    have hsc:scan ar n (stOf bl) seen (L.els::R)=if(stOf bl).head? =some 0 then scan ar (n+1) (1::(stOf bl).drop 1) seen R else n:=rfl
    rw[hsc]
    by_cases hd:bl.getLast? =some .if_
    ·left
     rw[if_pos ((st_head bl).mpr hd)]
     have hl:0<bl.length:=by cases bl with | nil=>cases hd | cons _ _=>simp
     refine⟨seen,hs,by rw[isWr,if_neg hw',k];rfl,by rw[allowsP,k];simp[hl,hd],?_⟩
     rw[blAfter,k]
     simp only[st_push,st_drop];rfl
    ·right
     rw[if_neg (fun z=>hd ((st_head bl).mp z))]
     exact⟨Or.inr (by rw[allowsP,k];simp[hd]),rfl⟩
  ·-- while
   subst e
   rw[lw_while hw]
   have hwr:isWr T ([119,104,105,108,101]::r)=exprsP 1 r:=by rw[isWr,if_neg hw',k];simp
   rw[hwr,one_iff]
   cases h2:one r with
   |none=>right;exact⟨Or.inl rfl,rfl⟩
   |some y=>
    have hsc:scan ar n (stOf bl) seen (orWrong ((some y).map L.loop)::R)=if DEEP≤(stOf bl).length then n else scan ar (n+1) (2::stOf bl) seen R:=rfl
    rw[hsc,st_len]
    by_cases hd:bl.length<40
    ·left
     rw[if_neg (show¬DEEP≤bl.length from by unfold DEEP;omega)]
     refine⟨seen,hs,rfl,by rw[allowsP,k];simpa using hd,?_⟩
     rw[blAfter,k];simp only[st_push];rfl
    ·right
     rw[if_pos (show DEEP≤bl.length from by unfold DEEP;omega)]
     exact⟨Or.inr (by rw[allowsP,k];simpa using hd),rfl⟩
  ·-- proc
   subst e
   have hwr:isWr T ([112,114,111,99]::r)=isProcL ([112,114,111,99]::r):=by rw[isWr,if_neg hw',k]
   rw[hwr]
   rcases proc_line r hw with⟨h,p,vs,q,h1,h2,h3,_⟩ | ⟨h,h1⟩
   ·rw[h1]
    obtain⟨t,rfl⟩:∃t,r=q::t:=by
     cases r with
     |nil=>cases h2
     |cons a t=>simp at h2;exact⟨t,by rw[h2]⟩
    have hsc:scan ar n (stOf bl) seen (L.proc p vs::R)=if stOf bl=[]∧seen.contains p=false then scan ar (n+1) (3::stOf bl) (p::seen) R else n:=rfl
    rw[hsc]
    have ha:allowsP bl bg ([112,114,111,99]::q::t)=(decide (bl.length=0)&& !bg.contains q):=by rw[allowsP,k];rfl
    rw[ha,←hs q p h3]
    by_cases hd:stOf bl=[]∧seen.contains p=false
    ·left
     rw[if_pos hd]
     refine⟨p::seen,?_,h,by rw[hd.2];simp[st_nil.mp hd.1],?_⟩
     ·intro u z hu
      rw[bgAfter,k]
      simp only[getD1]
      have:=hs u z hu
      rw[List.contains_cons,this]
      by_cases e:u=q
      ·subst e
       have:z=p:=Option.some.inj (hu.symm.trans h3)
       subst this
       simp
      ·have:¬z=p:=fun x=>e (procOf_inj hu (by rw[x];exact h3))
       have h5:(z==p)=false:=by simpa using this
       rw[h5]
       simp[e]
     ·rw[blAfter,k];simp only[st_push];rfl
    ·right
     rw[if_neg hd]
     refine⟨Or.inr ?_,rfl⟩
     by_cases h6:bl.length=0
     ·have:seen.contains p=true:=by
       cases h7:seen.contains p
       ·exact absurd ⟨st_nil.mpr h6,h7⟩ hd
       ·rfl
      rw[this];simp
     ·simp[h6]
   ·right
    rw[h1]
    exact⟨Or.inl h,rfl⟩
  ·-- end
   subst e
   rw[lw_end hw]
   cases r with
   |cons a t=>right;exact⟨Or.inl (by rw[isWr,if_neg hw',k];simp),rfl⟩
   |nil=>
    rw[if_pos rfl]
    have hsc:scan ar n (stOf bl) seen (L.ends::R)=if stOf bl=[]then n else scan ar (n+1) ((stOf bl).drop 1) seen R:=rfl
    rw[hsc]
    by_cases hd:bl.length=0
    ·right
     rw[if_pos (st_nil.mpr hd)]
     exact⟨Or.inr (by rw[allowsP,k];simp[hd]),rfl⟩
    ·left
     rw[if_neg (fun z=>hd (st_nil.mp z))]
     refine⟨seen,hs,by rw[isWr,if_neg hw',k];rfl,by rw[allowsP,k];simp;omega,?_⟩
     rw[blAfter,k]
     simp only[st_drop]
  ·-- do
   subst e
   rw[lw_do hw]
   cases r with
   |nil=>right;exact⟨Or.inl rfl,rfl⟩
   |cons p es=>
    rw[mDo]
    have hwr:isWr T ([100,111]::p::es)=(match T.lookup p with
      |some j=>exprsP j es
      |none=>false):=by
     rw[isWr,if_neg hw',k]
     show isDoL T _=_
     unfold isDoL
     simp
     all_goals (cases List.lookup p T<;>rfl)
    rw[hwr]
    cases h1:procOf p with
    |none=>right;rw[hT.no p h1];exact⟨Or.inl rfl,rfl⟩
    |some x=>
     rw[hT.yes p x h1]
     cases h2:several (es.length+1) es with
     |none=>
      right
      refine⟨Or.inl ?_,rfl⟩
      cases h3:ar x with
      |none=>rfl
      |some j=>
       show exprsP (j:Int) es=false
       rw[several_iff (es.length+1) es (Nat.lt_succ_self _) j,h2]
       rfl
     |some l=>
      have hsc:scan ar n (stOf bl) seen (orWrong ((some x).bind fun p=>(some l).map (L.call p))::R)=if ar x=some l.length then scan ar (n+1) (stOf bl) seen R else n:=rfl
      rw[hsc]
      cases h3:ar x with
      |none=>right;rw[if_neg (by simp)];exact⟨Or.inl rfl,rfl⟩
      |some j=>
       have hh:exprsP (j:Int) es=decide (l.length=j):=by
        rw[several_iff (es.length+1) es (Nat.lt_succ_self _) j,h2]
        simp
       show(∃seen',Seen seen' _∧exprsP (j:Int) es=true∧_)∨((exprsP (j:Int) es=false∨_)∧_)
       rw[hh]
       by_cases e:j=l.length
       ·left
        rw[if_pos (by rw[e])]
        exact⟨seen,hs,by simp[e],rfl,rfl⟩
       ·right
        rw[if_neg (fun z=>e (Option.some.inj z))]
        exact⟨Or.inl (by simp;exact fun z=>e z.symm),rfl⟩
  ·-- stop
   subst e
   rw[lw_stop hw]
   cases r with
   |cons a t=>right;exact⟨Or.inl (by rw[isWr,if_neg hw',k];simp),rfl⟩
   |nil=>left;exact⟨seen,hs,by rw[isWr,if_neg hw',k];rfl,rfl,rfl⟩
  ·-- unknown
   obtain⟨e1,e2,e3,e4,e5,e6,e7,e8,e9,e10⟩:=e
   right
   rw[xC h0 hw,if_neg e1,if_neg e2,if_neg e3,if_neg e4,if_neg e6,if_neg e5,if_neg e8,if_neg e10,if_neg e7,if_neg e9]
   exact⟨Or.inl (by rw[isWr,if_neg hw',k]),rfl⟩
theorem scan_eq(hT:Told ar T):∀(Ws:List (List Bytes)) (n:Nat) (bl:List Kd) (bg:List Bytes) (seen:List Nat),Seen seen bg→scanP T n bl bg Ws=scan ar n (stOf bl) seen (Ws.map lineW)
 |[],n,bl,bg,seen,_=>by
  show(if bl=[]then 0 else n)=if stOf bl=[]then 0 else n
  by_cases h:bl=[]
  ·subst h;rfl
  ·rw[if_neg h,if_neg (fun z=>h (by simpa using st_nil.mp z))]
 |ws::r,n,bl,bg,seen,hs=>by
  rw[scanP,List.map_cons]
  rcases scan_step hT (n:=n) (bl:=bl) hs ws (r.map lineW)with⟨seen',h1,h2,h3,h4⟩ | ⟨h1,h2⟩
  ·rw[h4,h2,h3]
   exact scan_eq hT r (n+1) _ _ seen' h1
  ·rw[h2]
   rcases h1 with h1 | h1<;>rw[h1]<;>simp
theorem lines_words(b:Bytes):(linesW b).map lineW=(lines b).map lineOf:=by
 unfold linesW
 rw[List.map_map]
 refine List.map_congr_left fun l hl=>?_
 show lineW (wordsP [] l)=lineOf l
 rw[words_eq l [] (lines_no10 b [] (by simp) l hl),lineOf_eq]
 rfl
theorem firstP_eq(b:Bytes):firstP b=firstWrong ((lines b).map lineOf):=by
 unfold firstP firstWrong
 rw[←lines_words]
 refine scan_eq ⟨fun w p hp=>?_,fun w hp=>told_none hp _ [] rfl⟩ _ _ _ _ _ (fun _ _ _=>rfl)
 rw[told_lookup hp]
 rfl
def checkP(b:Bytes):Int:=if 16384<b.length then -1 else(firstP b:Int)
end Ck
namespace L2
open PySem PySem.Spec PyProof.Rows
theorem int_mk{K:PySem.W.Frag}{h:Heap}{mg:Str→Option Value}{x:Str}{z:Int}{t:Tok}(X:K.In h)(G:h.Ns mainGlobals mg)(e:PySem.W.nsIn K mainGlobals x=some (some (.int z t))):∃t,mg x=some (.int z t):=⟨t,PySem.W.mg_of X G e⟩
def intEntry(e:DictEntry):Option (Int×Int×V):=match e.key,absV e.val with
 |.int i _,some v=>some (e.hash,i,v)
 |_,_=>none
def allSome{α β:Type}(f:α→Option β):List α→Option (List β)
 |[]=>some []
 |x::xs=>match f x,allSome f xs with
  |some y,some ys=>some (y::ys)
  |_,_=>none
theorem allSome_of{α β:Type}{f:α→Option β}:∀{xs:List α} {ys:List β},allSome f xs=some ys→Paired (fun x y=>f x=some y) xs ys
 |[],ys,h=>by cases h;exact .nil
 |x::xs,ys,h=>by
  unfold allSome at h
  split at h
  ·rename_i y zs e1 e2
   cases h
   exact .cons e1 (allSome_of e2)
  ·cases h
def entriesAt(K:PySem.W.Frag)(a:Addr):Option (List DictEntry):=match K.lookup a with
 |some ⟨.type n,none,.dict es _,sl⟩=>if n= "dict"∧sl.size=0 then some es.toList else none
 |_=>none
theorem entriesAt_of{K:PySem.W.Frag}{a:Addr}{l:List DictEntry}(h:entriesAt K a=some l):∃(o:Obj) (es:Array DictEntry) (ep:Nat),K.lookup a=some o∧o.ExactDict∧o.data=.dict es ep∧es.toList=l:=by
 unfold entriesAt at h
 split at h
 ·rename_i n es m sl e
  by_cases c:n= "dict"∧sl.size=0
  ·rw[if_pos c]at h
   obtain⟨rfl,c2⟩:=c
   exact⟨_,es,m,e,⟨rfl,rfl,Array.eq_empty_of_size_eq_zero c2⟩,rfl,Option.some.inj h⟩
  ·rw[if_neg c]at h;cases h
 ·cases h
def dictAt(K:PySem.W.Frag)(a:Addr):Option (List (Int×Int×V)):=match entriesAt K a with
 |some es=>allSome intEntry es
 |none=>none
def intsOf:List Value→Option (List Int):=allSome fun v=>match v with
 |.int i _=>some i
 |_=>none
def tupEntry(K:PySem.W.Frag)(e:DictEntry):Option (Int×Addr×List Int×V):=match e.key,absV e.val with
 |.ref b,some v=>(match tupAt K b with
  |some us=>(match intsOf us with
   |some ns=>some (e.hash,b,ns,v)
   |none=>none)
  |none=>none)
 |_,_=>none
def dictTAt(K:PySem.W.Frag)(a:Addr):Option (List (Int×Addr×List Int×V)):=match entriesAt K a with
 |some es=>allSome (tupEntry K) es
 |none=>none
theorem intsOf_of{us:List Value}{ns:List Int}(h:intsOf us=some ns):Vals (ns.map V.int) us:=by
 have p:=allSome_of h
 clear h
 induction p with
 |nil=>exact .nil
 |@cons u n us ns r t ih=>
  split at r
  ·rename_i i tk
   cases r
   exact .cons ⟨tk,rfl⟩ ih
  ·cases r
theorem tupEntry_of{K:PySem.W.Frag}{e:DictEntry}{x:Int×Addr×List Int×V}(h:tupEntry K e=some x):e.key=.ref x.2.1∧e.hash=x.1∧KTup K (x.2.2.1.map Sum.inl) x.2.1∧RelV x.2.2.2 e.val:=by
 unfold tupEntry at h
 split at h
 ·rename_i b v e1 e2
  split at h
  ·rename_i us e3
   split at h
   ·rename_i ns e4
    cases h
    obtain⟨o,its,n,h1,h2,h3,h4⟩:=tupAt_of e3
    refine⟨e1,rfl,⟨o,its,n,h1,h2,h3,?_⟩,rel_of_abs e2⟩
    rw[h4,List.map_map]
    exact intsOf_of e4
   ·cases h
  ·cases h
 ·cases h
theorem modD_of{P:Program}{w:World}{K:PySem.W.Frag}{a:Addr}{l:List (Int×Addr×List Int×V)}(z:(a==sysModules)=false)(h:dictTAt K a=some l)(hh:l.map (·.1)=l.map (fun x=>(tupleKind (mixKind P w)).hash (x.2.2.1.map Sum.inl)))(nd:(l.map fun x=>(x.2.2.1.map Sum.inl:List Key)).Nodup):
  ModD P w K a (l.map fun x=>((x.2.2.1.map Sum.inl:List Key),x.2.2.2)):=by
 unfold dictTAt at h
 split at h
 ·rename_i es he
  obtain⟨o,arr,ep,h1,h2,h3,h4⟩:=entriesAt_of he
  have pr:=allSome_of h
  have core:∀{es:List DictEntry} {l:List (Int×Addr×List Int×V)},Paired (fun x y=>tupEntry K x=some y) es l→l.map (·.1)=l.map (fun x=>(tupleKind (mixKind P w)).hash (x.2.2.1.map Sum.inl))→
    ∃xs:List (List Key×Addr×Value),MKT K (l.map fun x=>((x.2.2.1.map Sum.inl:List Key),x.2.2.2)) xs∧es=xs.map (entryOfKey (tupleKind (mixKind P w)))∧xs.map (·.1)=(l.map fun x=>(x.2.2.1.map Sum.inl:List Key)):=by
   intro es l p
   induction p with
   |nil=>intro _;exact⟨[],.nil,rfl,rfl⟩
   |@cons e x es l r t ih=>
    intro hh
    rw[List.map_cons,List.map_cons]at hh
    injection hh with hh1 hh2
    obtain⟨xs,q1,q2,q3⟩:=ih hh2
    obtain⟨r1,r2,r3,r4⟩:=tupEntry_of r
    refine⟨(x.2.2.1.map Sum.inl,x.2.1,e.val)::xs,.cons ⟨rfl,r3,r4⟩ q1,?_,by rw[List.map_cons,List.map_cons,q3]⟩
    rw[List.map_cons,q2]
    congr 1
    obtain⟨eh,ek,ev⟩:=e
    show DictEntry.mk eh ek ev=DictEntry.mk _ _ _
    congr 1
    exact r2.trans hh1
  obtain⟨xs,q1,q2,q3⟩:=core pr hh
  exact⟨z,xs,q1,o,arr,ep,h1,h2,h3,by rw[h4];exact q2,by rw[q3];exact nd⟩
 ·cases h
end L2
namespace Ck
open PySem L2 R
def kdStr:Kd→Str
 |.nothing=>"nothing" | .unknown=>"unknown" | .set=>"set" | .get=>"get" | .put=>"put" | .if_=>"if" | .else_=>"else" | .while_=>"while"
 |.proc=>"proc" | .end_=>"end" | .do_=>"do" | .stop=>"stop"
def comKV:List (List Key×V):=tabKV (fun k=>V.str (kdStr k)) COMM
def opsKV:List (List Key×V):=tabKV (fun(n:Nat)=>V.int (n:Int)) OPS
structure LnT (P:Program) (w:World) (K:PySem.W.Frag) (mg:Str→Option Value) (aB aC aO:Addr):Prop where
 wd:WdT K mg aB
 lf:∃t,mg "LINE_FEED"=some (.int 10 t)
 hash:∃t,mg "HASH"=some (.int 35 t)
 mwords:∃t,mg "MOST_WORDS"=some (.int 60 t)
 mdig:∃t,mg "MOST_DIGITS"=some (.int 18 t)
 mpar:∃t,mg "MOST_PARAMETERS"=some (.int 4 t)
 mblk:∃t,mg "MOST_BLOCKS"=some (.int 40 t)
 com:mg "COMMANDS"=some (.ref aC)
 comD:ModD P w K aC comKV
 ops:mg nOps=some (.ref aO)
 opsD:ModD P w K aO opsKV
 enum:mg "enumerate"=none
 set:mg "set"=none
end Ck
namespace Ck
open PySem L2 R
section
variable {P:Program}{w:World}{K:PySem.W.Frag}{mg:Str→Option Value}{base:Heap}{aB aC aO:Addr}
def spW1(f:Bytes→Bool):Sp:=fun vs H Q _=>∃(a:Addr) (b:Bytes),vs=[.ref a]∧TupAt H a b∧b.length≤16500∧Q (.bl (f b)) H
theorem scVar:FnScope ["word"] ["word"] (defScope sIsVar):=⟨rfl,rfl,rfl,by decide +kernel,rfl,by decide +kernel,by decide +kernel⟩
theorem scPro:FnScope ["word"] ["word"] (defScope sIsPro):=⟨rfl,rfl,rfl,by decide +kernel,rfl,by decide +kernel,by decide +kernel⟩
theorem ok_var{f:Addr}{fd:FuncData}(F:Fun K "is_variable" "is_variable" sIsVar f fd)(M:LnT P w K mg aB aC aO):FnOk P w K mg base CX0 1 f fd ["word"] (spW1 isVar):=by
 refine F.ok scVar (fun vs H Q E h=>?_) (fun cdv A outer s H vs Q E hr h=>?_)
 ·obtain⟨a,b,rfl,_⟩:=h
  rfl
 ·obtain⟨a,b,rfl,hb,hl,k⟩:=h
  refine⟨_,zE (zN (pe_and (yK yC (zU zR (by rfl) M.wd.len PySem.boot_len (zA (pv 0) zG)) zI (zM _))
   (pe_one (pe_chain op_le op_le zI (yH ix_tup (pv 0) zI (fun _ _=>rfl)) zI)))),?_⟩
  refine⟨_,rfl,a,_,rfl,.inr (SqT.of hb),rfl,_,rfl,?_⟩
  rw[decV,vB_len]
  refine ite2 (fun h1=>?_) (fun h1=>?_)
  ·have h1':b.length=1:=by have:=of_decide_eq_true h1;omega
   obtain⟨c,rfl⟩:=List.length_eq_one_iff.mp h1'
   refine⟨_,rfl,a,_,_,_,rfl,rfl,SqT.of hb,zW (j:=0) rfl,_,_,rfl,rfl,_,rfl,?_⟩
   have e:isVar [c]=(decide ((97:Int)≤(c.toNat:Int))&&decide ((c.toNat:Int)≤122)):=by
    show(decide (97≤c.toNat)&&decide (c.toNat≤122))=_
    rw[decide_eq_decide.mpr (show((97:Int)≤(c.toNat:Int))↔97≤c.toNat by omega),decide_eq_decide.mpr (show((c.toNat:Int)≤122)↔c.toNat≤122 by omega)]
   rw[e]at k
   refine ite2 (fun h2=>?_) (fun h2=>?_)
   ·rw[h2]at k
    exact⟨_,_,rfl,rfl,k⟩
   ·have h3:decide ((97:Int)≤(c.toNat:Int))=false:=by simpa using h2
    rw[h3]at k
    exact k
  ·have h1':¬b.length=1:=fun e=>h1 (by simp[e])
   have e:isVar b=false:=by
    unfold isVar
    match b,h1' with
    |[],_=>rfl
    |[_],h=>exact absurd rfl h
    |_::_::_,_=>rfl
   rw[e]at k
   exact k
theorem ok_pro{f:Addr}{fd:FuncData}(F:Fun K "is_procedure" "is_procedure" sIsPro f fd)(M:LnT P w K mg aB aC aO):FnOk P w K mg base CX0 1 f fd ["word"] (spW1 isPro):=by
 refine F.ok scPro (fun vs H Q E h=>?_) (fun cdv A outer s H vs Q E hr h=>?_)
 ·obtain⟨a,b,rfl,_⟩:=h
  rfl
 ·obtain⟨a,b,rfl,hb,hl,k⟩:=h
  refine⟨_,zE (zN (pe_and (yK yC (zU zR (by rfl) M.wd.len PySem.boot_len (zA (pv 0) zG)) zI (zM _))
   (pe_one (pe_chain op_le op_le zI (yH ix_tup (pv 0) zI (fun _ _=>rfl)) zI)))),?_⟩
  refine⟨_,rfl,a,_,rfl,.inr (SqT.of hb),rfl,_,rfl,?_⟩
  rw[decV,vB_len]
  refine ite2 (fun h1=>?_) (fun h1=>?_)
  ·have h1':b.length=1:=by have:=of_decide_eq_true h1;omega
   obtain⟨c,rfl⟩:=List.length_eq_one_iff.mp h1'
   refine⟨_,rfl,a,_,_,_,rfl,rfl,SqT.of hb,zW (j:=0) rfl,_,_,rfl,rfl,_,rfl,?_⟩
   have e:isPro [c]=(decide ((65:Int)≤(c.toNat:Int))&&decide ((c.toNat:Int)≤90)):=by
    show(decide (65≤c.toNat)&&decide (c.toNat≤90))=_
    rw[decide_eq_decide.mpr (show((65:Int)≤(c.toNat:Int))↔65≤c.toNat by omega),decide_eq_decide.mpr (show((c.toNat:Int)≤90)↔c.toNat≤90 by omega)]
   rw[e]at k
   refine ite2 (fun h2=>?_) (fun h2=>?_)
   ·rw[h2]at k
    exact⟨_,_,rfl,rfl,k⟩
   ·have h3:decide ((65:Int)≤(c.toNat:Int))=false:=by simpa using h2
    rw[h3]at k
    exact k
  ·have h1':¬b.length=1:=fun e=>h1 (by simp[e])
   have e:isPro b=false:=by
    unfold isPro
    match b,h1' with
    |[],_=>rfl
    |[_],h=>exact absurd rfl h
    |_::_::_,_=>rfl
   rw[e]at k
   exact k
def spNum:Sp:=fun vs H Q _=>∃(a:Addr) (b:Bytes),vs=[.ref a]∧TupAt H a b∧b≠[]∧b.length≤16500∧∀H',Same H H'→Q (.bl (isNum b)) H'
theorem scNum:FnScope ["word","digits"] ["word"] (defScope sIsNum):=⟨rfl,rfl,rfl,by decide +kernel,rfl,by decide +kernel,by decide +kernel⟩
theorem isNum_eq(b:Bytes):isNum b=(decide ((digits b).length≤18)&&digitsB (digits b)):=by
 unfold isNum digitsB
 rw[←Bool.and_assoc,Bool.and_comm (decide ((digits b).length≤18))]
 rfl
theorem ok_num{f fD:Addr}{fd fdD:FuncData}(D:Dn K mg "is_number" sIsNum f fd ["word"])(M:LnT P w K mg aB aC aO)(DD:Dn K mg "are_digits" sDigits fD fdD ["signs"]):FnOk P w K mg base CX0 2 f fd ["word"] spNum:=by
 have GD:FnOk P w K mg base CX0 1 fD fdD ["signs"] spDigits:=ok_digits DD M.wd
 refine D.fn.ok scNum (fun vs H Q E h=>?_) (fun cdv A outer s H vs Q E hr h=>?_)
 ·obtain⟨a,b,rfl,_⟩:=h
  rfl
 ·obtain⟨a,b,rfl,hb,hne,hl,k⟩:=h
  obtain⟨tm,hm⟩:=M.wd.minus
  obtain⟨td,hd⟩:=M.mdig
  refine⟨_,zD (zZ (i:=1) scNum.nd rfl (Or.inl rfl) (pe_ifExp (zK yC (yH ix_tup (pv 0) zI (fun _ _=>rfl)) (zQ (v:=V.int 45) (by rfl) hm ⟨tm,rfl⟩) (zM _)) (yZ sl_tup (pv 0) (xE zI) po_none) (pv 0)))
   (zE (zN (pe_and (yK op_le (zU zR (by rfl) M.wd.len PySem.boot_len (zA (pv 1) zG)) (zQ (v:=V.int 18) (by rfl) hd ⟨td,rfl⟩) (zM _)) (pe_one (zS GD hr (by rfl) DD.at_ DD.fn.kp DD.bd .nil pass0 (zA (pv 1) zG)))))),?_⟩
  obtain⟨c,r,rfl⟩:∃c r,b=c::r:=by
   cases b with
   |nil=>exact absurd rfl hne
   |cons c r=>exact⟨c,r,rfl⟩
  have hdl:(Ck.digits (c::r)).length≤16500:=by
   unfold Ck.digits
   split
   ·rw[List.length_drop];omega
   ·exact hl
  rw[isNum_eq]at k
  refine⟨_,rfl,a,_,_,_,rfl,rfl,SqT.of hb,zW (j:=0) rfl,rfl,_,rfl,?_⟩
  rw[decV]
  refine ite2 (fun h0=>?a1) (fun h0=>?a2)
  case' a1=>
   have hc0:c=45:=(yY (n:=45) (by decide)).mp (of_decide_eq_true h0)
   refine⟨_,rfl,_,rfl,a,_,rfl,SqT.of hb,?_,fun p hp0=>?a3⟩
   ·rw[show(1:Int)=((1:Nat):Int) from rfl,HT.sIx_nat,vB_len]
    simp
   case' a3=>
    have e1:cutV (vB (c::r)) (some 1) none=vB (Ck.digits (c::r)):=by
     rw[show(1:Int)=((1:Nat):Int) from rfl,cut_from']
     subst hc0
     rfl
    rw[e1]
    have s1:Same H (upd H p (.tup (vB (Ck.digits (c::r))))):=Same.upd' (Same.refl H) hp0
    have hp:TupAt (upd H p (.tup (vB (Ck.digits (c::r))))) p (Ck.digits (c::r)):=zB
  case' a2=>
   have hc0:c≠45:=fun e=>h0 (decide_eq_true ((yY (n:=45) (by decide)).mpr e))
   have e1:Ck.digits (c::r)=c::r:=by
    unfold Ck.digits
    rw[if_neg (by simp[hc0])]
   refine⟨_,rfl,?a4⟩
   have s1:Same H H:=Same.refl H
   have hp:TupAt H a (Ck.digits (c::r)):=by rw[e1];exact hb
  all_goals
   refine⟨_,rfl,_,_,rfl,.inr (SqT.of hp),_,_,rfl,rfl,_,rfl,?_⟩
   rw[vB_len]
   refine ite2 (fun g=>?_) (fun g=>?_)
   ·have g':(Ck.digits (c::r)).length≤18:=by have:=of_decide_eq_true g;omega
    rw[decide_eq_true g',Bool.true_and]at k
    exact⟨_,rfl,_,_,rfl,hp,hdl,fun H2 s2=>k H2 (s1.trans s2)⟩
   ·have g':¬(Ck.digits (c::r)).length≤18:=fun z=>g (decide_eq_true (by omega))
    rw[decide_eq_false g',Bool.false_and]at k
    exact k _ s1
def spOps:Sp:=fun vs H Q _=>∃(a:Addr) (b:Bytes),vs=[.ref a]∧TupAt H a b∧b≠[]∧b.length≤16500∧∀H',Same H H'→Q (.int (opsW b)) H'
theorem scOps:FnScope ["word"] ["word"] (defScope sOps):=⟨rfl,rfl,rfl,by decide +kernel,rfl,by decide +kernel,by decide +kernel⟩
theorem ok_ops{f f1 f2:Addr}{fd fd1 fd2:FuncData}(D:Dn K mg "operands_wanted" sOps f fd ["word"])(M:LnT P w K mg aB aC aO)
  (D1:Dn K mg "is_variable" sIsVar f1 fd1 ["word"])(D2:Dn K mg "is_number" sIsNum f2 fd2 ["word"]){fD:Addr}{fdD:FuncData}(DD:Dn K mg "are_digits" sDigits fD fdD ["signs"]):FnOk P w K mg base CX0 3 f fd ["word"] spOps:=by
 have G1:FnOk P w K mg base CX0 1 f1 fd1 ["word"] (spW1 isVar):=ok_var D1.fn M
 have G2:FnOk P w K mg base CX0 2 f2 fd2 ["word"] spNum:=ok_num D2 M DD
 refine D.fn.ok scOps (fun vs H Q E h=>?_) (fun cdv A outer s H vs Q E hr h=>?_)
 ·obtain⟨a,b,rfl,_⟩:=h
  rfl
 ·obtain⟨a,b,rfl,hb,hne,hl,k⟩:=h
  have hu:=hu_of hr
  have hr1:Room 1 _:=hr.mono (by decide)
  refine⟨_,zD (zV (pt_cmp (pc_min hu M.opsD (by rfl) M.ops (pv 0))) (zE (zN (pe_mitem hu M.opsD (by rfl) M.ops (pv 0) (fun _ _=>rfl)))) zL)
   (zD (zV (pw_or (pt_val (zS G1 hr1 (by rfl) D1.at_ D1.fn.kp D1.bd .nil pass0 (zA (pv 0) zG)) (fun _=>rfl)) (pw_or1 (pt_val (zS G2 hr (by rfl) D2.at_ D2.fn.kp D2.bd .nil pass0 (zA (pv 0) zG)) (fun _=>rfl)))).pt
    (zE (zN zI)) zL)
   (zE (zN (pe_un un_neg zI)))),?_⟩
  have hv:valV opsKV (kB b)=(OPS.lookup b).map fun(n:Nat)=>V.int (n:Int):=tab_val _ b OPS
  have hbk:H a=some (.tup ((kB b).map kV)):=by rw[kB_kV];exact hb
  refine⟨_,rfl,kB b,a,rfl,hbk,_,rfl,?_⟩
  rw[hv]
  unfold opsW at k
  cases e:OPS.lookup b with
  |some n=>
   rw[e]at k
   refine iteT ⟨_,rfl,kB b,a,_,rfl,hbk,?_,k H (Same.refl H)⟩
   rw[hv,e];rfl
  |none=>
   rw[e]at k
   refine iteF ?_
   refine⟨_,rfl,a,b,rfl,hb,hl,_,rfl,?_⟩
   cases e1:isVar b with
   |true=>
    rw[e1]at k
    exact iteT (iteT (k H (Same.refl H)))
   |false=>
    rw[e1]at k
    refine iteF ⟨_,rfl,a,b,rfl,hb,hne,hl,fun H1 s1=>⟨_,rfl,?_⟩⟩
    cases e2:isNum b with
    |true=>
     rw[e2]at k
     exact iteT (k H1 s1)
    |false=>
     rw[e2]at k
     exact iteF ⟨_,rfl,k H1 s1⟩
def spExprs:Sp:=fun vs H Q _=>∃(a:Addr) (ws:List Bytes) (m:Int),vs=[.ref a,.int m]∧Wds H a ws∧(∀w∈ws,w≠[]∧w.length≤16500)∧∀H',Same H H'→Q (.bl (exprsP m ws)) H'
theorem scExprs:FnScope ["words","count","missing","word","operands"] ["words","count"] (defScope sExprs):=⟨rfl,rfl,rfl,by decide +kernel,rfl,by decide +kernel,by decide +kernel⟩
theorem ok_exprs{f f1 f2 f3:Addr}{fd fd1 fd2 fd3:FuncData}(D:Dn K mg "are_expressions" sExprs f fd ["words","count"])(M:LnT P w K mg aB aC aO)
  (D1:Dn K mg "is_variable" sIsVar f1 fd1 ["word"])(D2:Dn K mg "is_number" sIsNum f2 fd2 ["word"]){fD:Addr}{fdD:FuncData}(DD:Dn K mg "are_digits" sDigits fD fdD ["signs"])(D3:Dn K mg "operands_wanted" sOps f3 fd3 ["word"]):FnOk P w K mg base CX0 4 f fd ["words","count"] spExprs:=by
 have G3:FnOk P w K mg base CX0 3 f3 fd3 ["word"] spOps:=ok_ops D3 M D1 D2 DD
 refine D.fn.ok scExprs (fun vs H Q E h=>?_) (fun cdv A outer s H vs Q E hr h=>?_)
 ·obtain⟨a,ws,m,rfl,_⟩:=h
  rfl
 ·obtain⟨a,ws,m,rfl,hw,hgood,k⟩:=h
  obtain⟨ps,hps,hpr⟩:=id hw
  refine⟨_,zD (zZ (i:=2) scExprs.nd rfl (Or.inl rfl) (pv 1))
   (zD (ps_for PassesOwn.never rfl (pi_list (pv 0)) (yJ (i:=3) scExprs.nd rfl (Or.inl rfl))
    (zD (zZ (i:=4) scExprs.nd rfl (Or.inl rfl) (zS G3 hr (by rfl) D3.at_ D3.fn.kp D3.bd .nil pass0 (zA (pv 3) zG)))
    (zD (zV (pw_or (zK yC (pv 2) zI (zM _)) (pw_or1 (zK op_lt (pv 4) zI (zM _)))).pt (zE (zN pe_bl)) zL)
    (zE (zZ (i:=2) scExprs.nd rfl (Or.inl rfl) (yQ op_add (yQ op_sub (pv 2) zI) (pv 4)))))))
   (zE (zN (yK yC (pv 2) zI (zM _))))),?_⟩
  refine⟨_,rfl,_,rfl,a,rfl,⟨_,SqL.of hps⟩,for_list (K:=K) (a:=a) (xs:=ps.map V.ref) (fun i σ H2=>∃(mm:Int) (v3 v4:Option V),σ=[some (.ref a),some (.int m),some (.int mm),v3,v4]∧Same H H2∧exprsP mm (ws.drop i)=exprsP m ws)
   ⟨m,none,none,rfl,Same.refl H,rfl⟩ (fun i σ H2 _ ⟨_,_,_,_,s2,_⟩=>SqL.of (s2 _ _ hps)) ?_ ?_⟩
  ·rintro i y σ H2 hi ⟨mm,v3,v4,rfl,s2,he⟩
   rw[List.getElem?_map]at hi
   cases e:ps[i]? with
   |none=>rw[e]at hi;cases hi
   |some p=>
    rw[e]at hi
    obtain rfl:V.ref p=y:=Option.some.inj hi
    obtain⟨wd,hwd,hp⟩:=paired_at' hpr e
    have hil:i<ws.length:=(List.getElem?_eq_some_iff.mp hwd).1
    have ed:ws.drop i=wd::ws.drop (i+1):=by
     rw[List.drop_eq_getElem_cons hil]
     congr 1
     exact(List.getElem?_eq_some_iff.mp hwd).2
    have hg:=hgood wd (List.mem_of_getElem? hwd)
    rw[ed,exprsP]at he
    refine⟨_,rfl,p,wd,rfl,s2 _ _ hp,hg.1,hg.2,fun H3 s3=>?_⟩
    refine⟨_,rfl,rfl,_,rfl,?_⟩
    rw[decV]
    have fin1:(mm=0∨opsW wd<0)→Q (V.bl false) H3:=fun h=>by
     rw[if_pos h]at he
     rw[he]
     exact k H3 (s2.trans s3)
    refine ite2 (fun g1=>?_) (fun g1=>?_)
    ·exact iteT (fin1 (.inl (of_decide_eq_true g1)))
    ·refine⟨_,rfl,_,_,rfl,rfl,_,rfl,?_⟩
     refine ite2 (fun g2=>?_) (fun g2=>?_)
     ·exact fin1 (.inr (of_decide_eq_true g2))
     ·have hn:¬(mm=0∨opsW wd<0):=fun h=>h.elim (fun z=>g1 (decide_eq_true z)) fun z=>g2 (decide_eq_true z)
      rw[if_neg hn]at he
      refine⟨_,rfl,_,_,rfl,rfl,_,rfl,_,_,rfl,rfl,?_⟩
      exact⟨mm-1+opsW wd,_,_,rfl,s2.trans s3,he⟩
  ·rintro σ H2 ⟨mm,v3,v4,rfl,s2,he⟩
   rw[List.length_map,Paired.length hpr,List.drop_length,exprsP]at he
   refine⟨_,rfl,rfl,?_⟩
   show Q (V.bl (decide (V.int mm=V.int 0))) H2
   rw[decV,he]
   exact k H2 s2
def spKind:Sp:=fun vs H Q _=>∃(a:Addr) (ws:List Bytes),vs=[.ref a]∧Wds H a ws∧(∀w∈ws,w≠[]∧w.length≤16500)∧Q (.str (kdStr (kindOf ws))) H
theorem scKind:FnScope ["words"] ["words"] (defScope sKind):=⟨rfl,rfl,rfl,by decide +kernel,rfl,by decide +kernel,by decide +kernel⟩
theorem ok_kind{f:Addr}{fd:FuncData}(D:Dn K mg "line_kind" sKind f fd ["words"])(M:LnT P w K mg aB aC aO):FnOk P w K mg base CX0 1 f fd ["words"] spKind:=by
 refine D.fn.ok scKind (fun vs H Q E h=>?_) (fun cdv A outer s H vs Q E hr h=>?_)
 ·obtain⟨a,ws,rfl,_⟩:=h
  rfl
 ·obtain⟨a,ws,rfl,hw,hgood,k⟩:=h
  have hu:=hu_of hr
  obtain⟨th,hh⟩:=M.hash
  obtain⟨ps,hps,hpr⟩:=id hw
  refine⟨_,zD (zV (pw_or (pt_not (pt_truth (pv 0) (fun _=>rfl))) (pw_or1 (zK yC (yH ix_tup (yH yB (pv 0) zI (fun _ _=>rfl)) zI (fun _ _=>rfl)) (zQ (v:=V.int 35) (by rfl) hh ⟨th,rfl⟩) (zM _)))).pt
    (zE (zN zT)) zL)
   (zE (zN (pe_mget2 hu M.comD (by rfl) M.com (yH yB (pv 0) zI (fun _ _=>rfl)) zT ⟨rfl,rfl,rfl,rfl⟩))),?_⟩
  refine⟨_,rfl,_,.inl ⟨_,SqL.of hps,rfl⟩,?_⟩
  cases ws with
  |nil=>
   cases hpr
   exact iteT (iteT k)
  |cons wd r=>
   obtain⟨p,ps',rfl,hp⟩:∃p ps',ps=p::ps'∧TupAt H p wd:=by
    cases hpr with
    |cons h t=>exact⟨_,_,rfl,h⟩
   obtain⟨c,t,rfl⟩:∃c t,wd=c::t:=by
    cases wd with
    |nil=>exact absurd rfl (hgood [] (by simp)).1
    |cons c t=>exact⟨c,t,rfl⟩
   refine iteF ⟨_,rfl,a,_,_,_,rfl,rfl,SqL.of hps,zW (j:=0) rfl,p,_,_,_,rfl,rfl,SqT.of hp,zW (j:=0) rfl,rfl,_,rfl,?_⟩
   rw[decV]
   rw[kindOf]at k
   refine ite2 (fun g=>?_) (fun g=>?_)
   ·have hc:c=35:=(yY (n:=35) (by decide)).mp (of_decide_eq_true g)
    rw[if_pos (show List.head? (c::t)=some 35 by rw[hc];rfl)]at k
    exact k
   ·have hc:c≠35:=fun e=>g (decide_eq_true ((yY (n:=35) (by decide)).mpr e))
    rw[if_neg (show¬List.head? (c::t)=some 35 by simp[hc])]at k
    refine⟨_,rfl,a,_,_,_,rfl,rfl,SqL.of hps,zW (j:=0) rfl,kB (c::t),p,rfl,by rw[kB_kV];exact hp,?_⟩
    have hv:valV comKV (kB (c::t))=(COMM.lookup (c::t)).map fun kk=>V.str (kdStr kk):=tab_val _ (c::t) COMM
    rw[hv]
    cases e:COMM.lookup (c::t)with
    |none=>rw[e]at k;exact k
    |some kk=>rw[e]at k;exact k
end
end Ck
namespace CkT
theorem dd_mem{K:Type} [DecidableEq K]:∀(n:Nat) (ks:List (List K)),ks.length=n→((dd ks).length=ks.length↔ks.Nodup)∧∀x,x∈dd ks↔x∈ks
 |0,ks,h=>by
  obtain rfl:=List.length_eq_zero_iff.mp h
  exact⟨⟨fun _=>List.nodup_nil,fun _=>rfl⟩,fun x=>Iff.rfl⟩
 |n+1,ks,h=>by
  have hne:ks≠[]:=fun e=>by subst e;simp at h
  obtain⟨l,k,rfl⟩:∃l k,ks=l++[k]:=⟨ks.dropLast,ks.getLast hne,(List.dropLast_concat_getLast hne).symm⟩
  have hl:l.length=n:=by rw[List.length_append]at h;simp at h;exact h
  obtain⟨ih1,ih2⟩:=dd_mem n l hl
  have hle:=dd_le n l hl
  rw[dd_snoc]
  by_cases c:k∈dd l
  ·rw[if_pos c]
   have ck:=(ih2 k).mp c
   refine⟨⟨fun e=>?_,fun nd=>?_⟩,fun x=>?_⟩
   ·rw[List.length_append]at e;simp at e;omega
   ·exact absurd rfl ((List.nodup_append.mp nd).2.2 k ck k (by simp))
   ·rw[ih2,List.mem_append]
    constructor
    ·exact .inl
    ·rintro(z | z)
     ·exact z
     ·rw[List.mem_singleton.mp z];exact ck
  ·rw[if_neg c]
   have ck:k∉l:=fun z=>c ((ih2 k).mpr z)
   refine⟨⟨fun e=>?_,fun nd=>?_⟩,fun x=>?_⟩
   ·rw[List.length_append,List.length_append]at e
    have e':(dd l).length=l.length:=by simpa using e
    have nd:=ih1.mp e'
    rw[List.nodup_append]
    exact⟨nd,by simp,fun a ha b hb=>by rw[List.mem_singleton.mp hb];exact fun z=>ck (z▸ha)⟩
   ·rw[List.length_append,List.length_append,ih1.mpr (List.nodup_append.mp nd).1]
   ·rw[List.mem_append,List.mem_append,ih2]
end CkT
namespace Ck
open PySem L2 R
theorem yL(k k':Kd):decide (V.str (kdStr k)=V.str (kdStr k'))=decide (k=k'):=by
 rw[dec_str]
 cases k<;>cases k'<;>rfl
section
variable {P:Program}{w:World}{K:PySem.W.Frag}{mg:Str→Option Value}{base:Heap}{aB aC aO:Addr}
def Good(ws:List Bytes):Prop:=∀w∈ws,w≠[]∧w.length≤16500
theorem wds_drop{H:Hp}{ps:List Addr}{ws:List Bytes}(hpr:Paired (fun(p:Addr) w=>TupAt H p w) ps ws)(n:Nat){q:Addr}(hq:H q=none):Wds (upd H q (.lst (cutV (ps.map V.ref) (some (n:Int)) none))) q (ws.drop n):=by
 refine⟨ps.drop n,?_,?_⟩
 ·rw[zB,cut_from',List.map_drop]
 ·exact Paired.mapP (paired_drop n hpr) fun p w e=>by
   show _=_
   rw[zF (zH e hq)];exact e
theorem wd_at{H:Hp}{ps:List Addr}{ws:List Bytes}(hpr:Paired (fun(p:Addr) w=>TupAt H p w) ps ws){i:Nat}{w:Bytes}(e:ws[i]? =some w):∃p,(ps.map V.ref)[i]? =some (V.ref p)∧TupAt H p w:=by
 obtain⟨p,e1,e2⟩:=paired_at hpr e
 exact⟨p,by rw[List.getElem?_map,e1];rfl,e2⟩
def spIsProc:Sp:=fun vs H Q _=>∃(a:Addr) (ws:List Bytes),vs=[.ref a]∧Wds H a ws∧Good ws∧ws.length≤16500∧∀H',Same H H'→Q (.bl (isProcL ws)) H'
theorem scIsProc:FnScope ["words","parameters","parameter"] ["words"] (defScope sIsProc):=⟨rfl,rfl,rfl,by decide +kernel,rfl,by decide +kernel,by decide +kernel⟩
theorem blkIsProc:blkC ["words","parameters","parameter"] (defScope sIsProc) { kind:=.function,names:=[(".0",.local),("parameter",.local),("is_variable",.globalImplicit)],isGenerator:=false,isCoroutine:=false } [("parameter",2)]=true:=by decide +kernel
theorem kB_nodup(l:List Bytes):(l.map kB).Nodup↔l.Nodup:=by
 induction l with
 |nil=>simp
 |cons a r ih=>
  rw[List.map_cons,List.nodup_cons,List.nodup_cons,ih]
  constructor
  ·rintro⟨h1,h2⟩
   exact⟨fun m=>h1 (List.mem_map.mpr ⟨a,m,rfl⟩),h2⟩
  ·rintro⟨h1,h2⟩
   refine⟨fun m=>?_,h2⟩
   obtain⟨b,hb,e⟩:=List.mem_map.mp m
   exact h1 (kB_inj e▸hb)
theorem ok_isProc{f fK fP fV:Addr}{fd fdK fdP fdV:FuncData}(D:Dn K mg "is_proc" sIsProc f fd ["words"])(M:LnT P w K mg aB aC aO)(DK:Dn K mg "line_kind" sKind fK fdK ["words"])(DP:Dn K mg "is_procedure" sIsPro fP fdP ["word"])(DV:Dn K mg "is_variable" sIsVar fV fdV ["word"]):
  FnOk P w K mg base CX0 2 f fd ["words"] spIsProc:=by
 have GK:FnOk P w K mg base CX0 1 fK fdK ["words"] spKind:=ok_kind DK M
 have GP:FnOk P w K mg base CX0 1 fP fdP ["word"] (spW1 isPro):=ok_pro DP.fn M
 have GV:FnOk P w K mg base CX0 1 fV fdV ["word"] (spW1 isVar):=ok_var DV.fn M
 refine D.fn.ok scIsProc (fun vs H Q E h=>?_) (fun cdv A outer s H vs Q E hr h=>?_)
 ·obtain⟨a,ws,rfl,_⟩:=h
  rfl
 ·obtain⟨a,ws,rfl,hw,hgood,hwl,k⟩:=h
  have hu16:A.units+16<cLine∨True:=.inr trivial
  obtain⟨tp,hp4⟩:=M.mpar
  have hun:=hr.units
  refine⟨_,zD (zV (pw_or (zK op_ne (zS GK hr (by rfl) DK.at_ DK.fn.kp DK.bd .nil pass0 (zA (pv 0) zG)) zT (zM _))
    (pw_or (zK op_lt (zU zR (by rfl) M.wd.len PySem.boot_len (zA (pv 0) zG)) zI (zM _))
    (pw_or1 (pt_not (pt_val (zS GP hr (by rfl) DP.at_ DP.fn.kp DP.bd .nil pass0 (zA (yH yB (pv 0) zI (fun _ _=>rfl)) zG)) (fun _=>rfl)))))).pt (zE (zN pe_bl)) zL)
   (zD (zZ (i:=1) scIsProc.nd rfl (Or.inl rfl) (yZ sl_list (pv 0) (xE zI) po_none))
   (zD (zV (pw_or (zK op_gt (zU zR (by rfl) M.wd.len PySem.boot_len (zA (pv 1) zG)) (zQ (v:=V.int 4) (by rfl) hp4 ⟨tp,rfl⟩) (zM _))
    (pw_or1 (zK op_lt (zU call_lenS (by rfl) M.wd.len PySem.boot_len (zA (pe_callTy (call_setT rfl (Nat.lt_of_le_of_lt (Nat.add_le_add_left (by decide:16≤64) _) hun)) (by rfl) M.set PyProof.Rows.boot_set (zA (pv 1) zG)) zG))
     (zU zR (by rfl) M.wd.len PySem.boot_len (zA (pv 1) zG)) (zM _)))).pt (zE (zN pe_bl)) zL)
   (zE (zN (zU (cr_all rfl) (by rfl) M.wd.all PyProof.Rows.boot_all (zA (pe_lc rfl scIsProc.nd (pi_list (pv 1)) (blkOk_by (own:=[("parameter",2)]) blkIsProc) (fun _ _ _ _ _=>yJ (i:=2) scIsProc.nd rfl (Or.inl rfl)) (fun _ _ _ _ _=>pts_nil)
    (fun _ _ _ _ _=>zS GV hr (by rfl) DV.at_ DV.fn.kp DV.bd .nil pass0 (zA (pv 2) zG))) zG)))))),?_⟩
  have hF:isProcL ws=false→Q (.bl false) H:=fun e=>by rw[e]at k;exact k H (Same.refl H)
  refine⟨_,rfl,a,ws,rfl,hw,hgood,rfl,_,rfl,?_⟩
  show if(!decide (V.str (kdStr (kindOf ws))=V.str (kdStr .proc)))=true then _ else _
  rw[yL]
  by_cases hk:kindOf ws=.proc
  ·rw[decide_eq_true hk]
   obtain⟨ps,hps,hpr⟩:=id hw
   have hpl:=Paired.length hpr
   refine iteF ⟨_,rfl,a,_,rfl,.inl (SqL.of hps),_,_,rfl,rfl,_,rfl,?_⟩
   rw[List.length_map,hpl]
   refine ite2 (fun g=>?_) (fun g=>?_)
   ·have g':¬2≤ws.length:=by have:=of_decide_eq_true g;omega
    exact iteT (hF (by unfold isProcL;rw[decide_eq_false g'];simp))
   ·have g':2≤ws.length:=by
     by_cases q:2≤ws.length
     ·exact q
     ·exact absurd (decide_eq_true (by omega)) g
    obtain⟨w1,hw1⟩:∃w1,ws[1]? =some w1:=⟨ws[1],List.getElem?_eq_getElem (by omega)⟩
    have ew1:ws.getD 1 []=w1:=by rw[List.getD_eq_getElem?_getD,hw1];rfl
    obtain⟨p1,hp1,hT1⟩:=wd_at hpr hw1
    refine⟨_,rfl,a,_,_,_,rfl,rfl,SqL.of hps,zW (j:=1) hp1,p1,w1,rfl,hT1,(hgood w1 (List.mem_of_getElem? hw1)).2,_,rfl,?_⟩
    cases hpr1:isPro w1 with
    |false=>exact iteT (hF (by unfold isProcL;rw[ew1,hpr1];simp))
    |true=>
     refine iteF ⟨_,rfl,_,rfl,a,_,rfl,SqL.of hps,fun q hq=>?_⟩
     have hWq:=wds_drop hpr 2 hq
     have s1:Same H (upd H q (.lst (cutV (ps.map V.ref) (some (2:Int)) none))):=Same.upd' (Same.refl H) hq
     revert hWq s1
     show Wds (upd H q (.lst (cutV (ps.map V.ref) (some (2:Int)) none))) q (ws.drop 2)→_→_
     generalize upd H q (.lst (cutV (ps.map V.ref) (some (2:Int)) none))=H1
     intro hWq s1
     obtain⟨qs,hqs,hqr⟩:=id hWq
     have hql:=Paired.length hqr
     refine⟨_,rfl,q,_,rfl,.inl (SqL.of hqs),_,_,rfl,rfl,_,rfl,?_⟩
     rw[List.length_map,hql]
     have base0:isProcL ws=(decide ((ws.drop 2).length≤4)&&decide ((ws.drop 2).Nodup)&&(ws.drop 2).all isVar):=by
      unfold isProcL
      rw[decide_eq_true hk,decide_eq_true g',ew1,hpr1]
      rfl
     refine ite2 (fun g2=>?_) (fun g2=>?_)
     ·have g2':¬(ws.drop 2).length≤4:=by have:=of_decide_eq_true g2;omega
      refine iteT ?_
      have:=k H1 s1
      rw[base0,decide_eq_false g2']at this
      exact this
     ·have g2':(ws.drop 2).length≤4:=by
       by_cases z:(ws.drop 2).length≤4
       ·exact z
       ·exact absurd (decide_eq_true (by omega)) g2
      refine⟨_,rfl,q,qs,(ws.drop 2).map kB,rfl,SqL.of hqs,?_,by rw[List.length_map];exact g2',fun S hS=>?_⟩
      ·have:∀{qs:List Addr} {l:List Bytes},Paired (fun(p:Addr) w=>TupAt H1 p w) qs l→Paired (fun(p:Addr) (k:List Key)=>H1 p=some (.tup (k.map kV))) qs (l.map kB):=by
        intro qs l h
        induction h with
        |nil=>exact .nil
        |cons h t ih=>exact .cons (by rw[kB_kV];exact h) ih
       exact this hqr
      ·have sS:Same H1 (upd H1 S (SetN S (CkT.dd ((ws.drop 2).map kB)).length)):=Same.upd' (Same.refl _) hS
       refine⟨S,_,rfl,zB,_,rfl,q,_,rfl,.inl (SqL.of (sS _ _ hqs)),_,_,rfl,rfl,_,rfl,?_⟩
       rw[List.length_map,hql]
       have hdl:=CkT.dd_le _ ((ws.drop 2).map kB) rfl
       have hdn:=(CkT.dd_mem _ ((ws.drop 2).map kB) rfl).1
       rw[List.length_map]at hdl
       rw[List.length_map,kB_nodup]at hdn
       refine ite2 (fun g3=>?_) (fun g3=>?_)
       ·have g3':¬(ws.drop 2).Nodup:=fun nd=>by
         have:=hdn.mpr nd
         have:=of_decide_eq_true g3
         omega
        have:=k _ (s1.trans sS)
        rw[base0,decide_eq_true g2',decide_eq_false g3']at this
        exact this
       ·have g3':(ws.drop 2).Nodup:=hdn.mp (by
         by_cases z:(CkT.dd ((ws.drop 2).map kB)).length=(ws.drop 2).length
         ·exact z
         ·exact absurd (decide_eq_true (by omega)) g3)
        have s2:Same H (upd H1 S (SetN S (CkT.dd ((ws.drop 2).map kB)).length)):=s1.trans sS
        have hWS:Wds (upd H1 S (SetN S (CkT.dd ((ws.drop 2).map kB)).length)) q (ws.drop 2):=hWq.mono sS
        rw[base0,decide_eq_true g2',decide_eq_true g3',Bool.true_and,Bool.true_and]at k
        revert s2 hWS
        generalize upd H1 S (SetN S (CkT.dd ((ws.drop 2).map kB)).length)=H2
        intro s2 hWS
        obtain⟨rs,hrs,hrr⟩:=id hWS
        have hrl:=Paired.length hrr
        refine⟨_,rfl,q,rfl,⟨_,SqL.of hrs⟩,fun D hD=>?_⟩
        refine lc_list (K:=K) (a:=q) (xs:=rs.map V.ref) (fun i H'=>Same H2 H'∧H' D=some (.lst ((((ws.drop 2).take i).map isVar).map V.bl))) ⟨Same.upd' (Same.refl _) hD,zB⟩ (fun i H' _ ⟨s3,_⟩=>SqL.of (s3 _ _ hrs)) ?_ ?_
        ·rintro i x H' hx ⟨s3,hD3⟩
         rw[List.getElem?_map]at hx
         obtain⟨p,hp,rfl⟩:=Option.map_eq_some_iff.mp hx
         obtain⟨wd,hwd,hpw⟩:=paired_at' hrr hp
         have hm:wd∈ws:=List.mem_of_mem_drop (List.mem_of_getElem? hwd)
         refine⟨rfl,tYes_if' ?_⟩
         refine⟨_,rfl,p,wd,rfl,s3 _ _ hpw,(hgood wd hm).2,_,hD3,?_,Same.upd' s3 hD,?_⟩
         ·rw[List.length_map,List.length_map,List.length_take];have:=zP;omega
         ·rw[zB,List.take_succ,hwd,List.map_append,List.map_append];rfl
        ·rintro H' ⟨s3,hD3⟩
         rw[List.length_map,hrl,List.take_length]at hD3
         refine⟨D,_,rfl,SqL.of hD3,?_⟩
         have e4:((ws.drop 2).map isVar).all id=(ws.drop 2).all isVar:=by rw[List.all_map];rfl
         rw[e4]
         exact k H' (s2.trans s3)
  ·rw[decide_eq_false hk]
   exact iteT (iteT (hF (by unfold isProcL;rw[decide_eq_false hk];simp)))
def tKV(T:List (Bytes×Nat)):List (List Key×V):=tabKV (fun(n:Nat)=>V.int (n:Int)) T
def spIsDo:Sp:=fun vs H Q _=>∃(a t:Addr) (ws:List Bytes) (T:List (Bytes×Nat)),vs=[.ref a,.ref t]∧Wds H a ws∧H t=some (.dT (tKV T))∧Good ws∧ws.length≤16500∧∀H',Same H H'→Q (.bl (isDoL T ws)) H'
theorem scIsDo:FnScope ["words","told"] ["words","told"] (defScope sIsDo):=⟨rfl,rfl,rfl,by decide +kernel,rfl,by decide +kernel,by decide +kernel⟩
theorem ok_isDo{f fE:Addr}{fd fdE:FuncData}(D:Dn K mg "is_do" sIsDo f fd ["words","told"])(M:LnT P w K mg aB aC aO)(DE:Dn K mg "are_expressions" sExprs fE fdE ["words","count"])(GE:FnOk P w K mg base CX0 4 fE fdE ["words","count"] spExprs):
  FnOk P w K mg base CX0 5 f fd ["words","told"] spIsDo:=by
 refine D.fn.ok scIsDo (fun vs H Q E h=>?_) (fun cdv A outer s H vs Q E hr h=>?_)
 ·obtain⟨a,t,ws,T,rfl,_⟩:=h
  rfl
 ·obtain⟨a,t,ws,T,rfl,hw,ht,hgood,hwl,k⟩:=h
  have hu:=hu_of hr
  refine⟨_,zE (zN (pe_and (yK op_gt (zU zR (by rfl) M.wd.len PySem.boot_len (zA (pv 0) zG)) zI (zM _))
   (pe_and (pe_cmp (pc_din hu (yH yB (pv 0) zI (fun _ _=>rfl)) (pv 1)))
   (pe_one (zS GE hr (by rfl) DE.at_ DE.fn.kp DE.bd .nil pass0 (zA (yZ sl_list (pv 0) (xE zI) po_none) (zA (pe_dget hu (pv 1) (yH yB (pv 0) zI (fun _ _=>rfl)) (fun _ _=>rfl)) zG))))))),?_⟩
  obtain⟨ps,hps,hpr⟩:=id hw
  have hpl:=Paired.length hpr
  refine⟨_,rfl,a,_,rfl,.inl (SqL.of hps),_,_,rfl,rfl,_,rfl,?_⟩
  rw[List.length_map,hpl]
  refine ite2 (fun g=>?_) (fun g=>?_)
  ·have g':1<ws.length:=by have:=of_decide_eq_true g;omega
   obtain⟨w1,hw1⟩:∃w1,ws[1]? =some w1:=⟨ws[1],List.getElem?_eq_getElem (by omega)⟩
   have ew1:ws.getD 1 []=w1:=by rw[List.getD_eq_getElem?_getD,hw1];rfl
   obtain⟨p1,hp1,hT1⟩:=wd_at hpr hw1
   have hk1:H p1=some (.tup ((kB w1).map kV)):=by rw[kB_kV];exact hT1
   have hv:valV (tKV T) (kB w1)=(T.lookup w1).map fun(n:Nat)=>V.int (n:Int):=tab_val _ w1 T
   unfold isDoL at k
   rw[decide_eq_true g',Bool.true_and,ew1]at k
   refine⟨_,rfl,a,_,_,_,rfl,rfl,SqL.of hps,zW (j:=1) hp1,_,rfl,t,_,rfl,.inr ⟨_,kB w1,p1,.inl ht,rfl,hk1,rfl⟩,_,rfl,?_⟩
   rw[hv]
   cases e:T.lookup w1 with
   |none=>
    rw[e]at k
    exact iteF (k H (Same.refl H))
   |some n=>
    rw[e]at k
    refine iteT ⟨_,rfl,_,rfl,a,_,rfl,SqL.of hps,fun q hq=>?_⟩
    have hWq:=wds_drop hpr 2 hq
    have s1:Same H (upd H q (.lst (cutV (ps.map V.ref) (some (2:Int)) none))):=Same.upd' (Same.refl H) hq
    refine⟨_,rfl,_,rfl,a,_,_,_,rfl,rfl,SqL.of (s1 _ _ hps),zW (j:=1) hp1,t,_,rfl,.inr ⟨_,kB w1,p1,.inl (s1 _ _ ht),rfl,s1 _ _ hk1,by rw[hv,e];rfl⟩,?_⟩
    exact⟨q,ws.drop 2,(n:Int),rfl,hWq,fun x hx=>hgood x (List.mem_of_mem_drop hx),fun H' s'=>k H' (s1.trans s')⟩
  ·have g':¬1<ws.length:=fun z=>g (decide_eq_true (by omega))
   unfold isDoL at k
   rw[decide_eq_false g',Bool.false_and]at k
   exact k H (Same.refl H)
end
end Ck
namespace L2
open PySem
theorem rd_in2{K:PySem.W.Frag}{σ:St}{H:Hp}{i:Nat}{x a b:Str}{Qb:Bool→Hp→Prop}(hs:σ[i]? =some (some (V.str x)))(h:∀H1,Same H H1→Qb (inV (V.str x) [.str a,.str b]) H1):
  tTest (tOp (rIn K false) (tVar i) (tTup (tCons (tC (.str a)) (tCons (tC (.str b)) tNil)))) σ H Qb:=
 ⟨_,hs,(by show 2≤sizeLine;have:=zP;omega),fun q hq=>⟨q,_,rfl,.inr (SqT.of zB),rfl,rfl,_,rfl,h _ (Same.upd' (Same.refl H) hq)⟩⟩
theorem rd_in3{K:PySem.W.Frag}{σ:St}{H:Hp}{i:Nat}{x a b c:Str}{Qb:Bool→Hp→Prop}(hs:σ[i]? =some (some (V.str x)))(h:∀H1,Same H H1→Qb (inV (V.str x) [.str a,.str b,.str c]) H1):
  tTest (tOp (rIn K false) (tVar i) (tTup (tCons (tC (.str a)) (tCons (tC (.str b)) (tCons (tC (.str c)) tNil))))) σ H Qb:=
 ⟨_,hs,(by show 3≤sizeLine;have:=zP;omega),fun q hq=>⟨q,_,rfl,.inr (SqT.of zB),rfl,rfl,_,rfl,h _ (Same.upd' (Same.refl H) hq)⟩⟩
theorem rd_eqs{σ:St}{H:Hp}{i:Nat}{x a:Str}{Qb:Bool→Hp→Prop}(hs:σ[i]? =some (some (V.str x)))(h:Qb (decide (V.str x=V.str a)) H):tTest (tOp rEq (tVar i) (tC (.str a))) σ H Qb:=⟨_,hs,rfl,_,rfl,h⟩
end L2
namespace Ck
open PySem L2 R
theorem in_a(k:Kd):inV (V.str (kdStr k)) [.str "else",.str "end",.str "stop"]=decide (k=.else_∨k=.end_∨k=.stop):=by cases k<;>decide +kernel
theorem in_b(k:Kd):inV (V.str (kdStr k)) [.str "put",.str "if",.str "while"]=decide (k=.put∨k=.if_∨k=.while_):=by cases k<;>decide +kernel
theorem in_c(k:Kd):inV (V.str (kdStr k)) [.str "if",.str "while"]=decide (k=.if_∨k=.while_):=by cases k<;>decide +kernel
theorem in_d(k:Kd):inV (V.str (kdStr k)) [.str "if",.str "while",.str "proc"]=decide (k=.if_∨k=.while_∨k=.proc):=by cases k<;>decide +kernel
section
variable {P:Program}{w:World}{K:PySem.W.Frag}{mg:Str→Option Value}{base:Heap}{aB aC aO:Addr}
theorem tab_len(T:List (Bytes×Nat)):(tKV T).length=T.length:=List.length_map ..
def spTold:Sp:=fun vs H Q _=>∃(a:Addr) (Ws:List (List Bytes)),vs=[.ref a]∧Lns H a Ws∧(∀ws∈Ws,Good ws∧ws.length≤16500)∧Ws.length≤16500∧∀H' t,Same H H'→H t=none→H' t=some (.dT (tKV (toldP [] Ws)))→Q (.ref t) H'
theorem scTold:FnScope ["lines","told","words"] ["lines"] (defScope sTold):=⟨rfl,rfl,rfl,by decide +kernel,rfl,by decide +kernel,by decide +kernel⟩
theorem ok_told{f fP:Addr}{fd fdP:FuncData}(D:Dn K mg "told_procedures" sTold f fd ["lines"])(M:LnT P w K mg aB aC aO)(DP:Dn K mg "is_proc" sIsProc fP fdP ["words"])(GP:FnOk P w K mg base CX0 2 fP fdP ["words"] spIsProc):
  FnOk P w K mg base CX0 3 f fd ["lines"] spTold:=by
 refine D.fn.ok scTold (fun vs H Q E h=>?_) (fun cdv A outer s H vs Q E hr h=>?_)
 ·obtain⟨a,Ws,rfl,_⟩:=h
  rfl
 ·obtain⟨a,Ws,rfl,hL,hall,hWl,k⟩:=h
  have hu:=hu_of hr
  refine⟨_,zD (zZ (i:=1) scTold.nd rfl (Or.inl rfl) pe_dnewT)
   (zD (ps_for PassesOwn.never rfl (pi_list (pv 0)) (yJ (i:=2) scTold.nd rfl (Or.inl rfl))
    (zE (zV (pt_val (zS GP hr (by rfl) DP.at_ DP.fn.kp DP.bd .nil pass0 (zA (pv 2) zG)) (fun _=>rfl))
     (zE (yA (pe_dsetdef hu (pv 1) (yH yB (pv 2) zI (fun _ _=>rfl)) (yQ op_sub (zU zR (by rfl) M.wd.len PySem.boot_len (zA (pv 2) zG)) zI) ⟨rfl,rfl,rfl,rfl⟩))) zL)))
   (zE (zN (pv 1)))),?_⟩
  obtain⟨ps,hps,hpr⟩:=id hL
  have hpl:=Paired.length hpr
  intro t ht
  have s0:Same H (upd H t (.dT [])):=Same.upd' (Same.refl H) ht
  refine⟨_,rfl,a,rfl,⟨_,SqL.of (s0 _ _ hps)⟩,for_list (K:=K) (a:=a) (xs:=ps.map V.ref) (fun i σ H2=>∃(T:List (Bytes×Nat)) (v2:Option V),σ=[some (.ref a),some (.ref t),v2]∧Same H H2∧H2 t=some (.dT (tKV T))∧T.length≤i∧toldP T (Ws.drop i)=toldP [] Ws)
   ⟨[],none,rfl,s0,zB,Nat.le_refl _,rfl⟩ (fun i σ H2 _ ⟨_,_,_,s2,_⟩=>SqL.of (s2 _ _ hps)) ?_ ?_⟩
  ·rintro i x σ H2 hx ⟨T,v2,rfl,s2,ht2,hTl,he⟩
   rw[List.getElem?_map]at hx
   obtain⟨p,hp,rfl⟩:=Option.map_eq_some_iff.mp hx
   obtain⟨ws,hws,hpw⟩:=paired_at' hpr hp
   have hil:i<Ws.length:=(List.getElem?_eq_some_iff.mp hws).1
   have ed:Ws.drop i=ws::Ws.drop (i+1):=by rw[List.drop_eq_getElem_cons hil,(List.getElem?_eq_some_iff.mp hws).2]
   rw[ed,toldP]at he
   obtain⟨hg,hl2⟩:=hall ws (List.mem_of_getElem? hws)
   have hW2:Wds H2 p ws:=hpw.mono s2
   refine⟨_,rfl,p,ws,rfl,hW2,hg,hl2,fun H3 s3=>⟨_,rfl,?_⟩⟩
   have hW3:Wds H3 p ws:=hW2.mono s3
   have ht3:=s3 _ _ ht2
   have s13:=s2.trans s3
   cases hpc:isProcL ws with
   |false=>
    rw[hpc,if_neg Bool.false_ne_true]at he
    exact iteF ⟨T,_,rfl,s13,ht3,by omega,he⟩
   |true=>
    rw[hpc,if_pos rfl]at he
    obtain⟨rs,hrs,hrr⟩:=id hW3
    have hrl:=Paired.length hrr
    have h2:2≤ws.length:=by
     unfold isProcL at hpc
     simp only[Bool.and_eq_true,decide_eq_true_eq]at hpc
     exact hpc.1.1.1.1.2
    obtain⟨w1,hw1⟩:∃w1,ws[1]? =some w1:=⟨ws[1],List.getElem?_eq_getElem (by omega)⟩
    have ew1:ws.getD 1 []=w1:=by rw[List.getD_eq_getElem?_getD,hw1];rfl
    obtain⟨p1,hp1,hT1⟩:=wd_at hrr hw1
    have hk1:H3 p1=some (.tup ((kB w1).map kV)):=by rw[kB_kV];exact hT1
    have hv:valV (tKV T) (kB w1)=(T.lookup w1).map fun(n:Nat)=>V.int (n:Int):=tab_val _ w1 T
    refine iteT ⟨_,rfl,t,rfl,.inr ⟨_,.inl ht3⟩,_,rfl,p,_,_,_,rfl,rfl,SqL.of hrs,zW (j:=1) hp1,_,rfl,p,_,rfl,.inl (SqL.of hrs),_,_,rfl,rfl,tKV T,kB w1,p1,ht3,rfl,hk1,?_,fun v hvv=>?_,fun hvn=>?_⟩
    ·rw[tab_len];have:=zP;omega
    ·have e1:put1 T (ws.getD 1 []) (ws.length-2)=T:=by
      unfold put1
      rw[ew1]
      have:(T.lookup w1).isSome=true:=by
       rw[hv]at hvv
       cases e:T.lookup w1 with
       |none=>rw[e]at hvv;cases hvv
       |some _=>rfl
      rw[if_pos this]
     rw[e1]at he
     exact⟨T,_,rfl,s13,ht3,by omega,he⟩
    ·have en:T.lookup w1=none:=by
      rw[hv]at hvn
      cases e:T.lookup w1 with
      |none=>rfl
      |some _=>rw[e]at hvn;cases hvn
     have e1:put1 T (ws.getD 1 []) (ws.length-2)=T++[(w1,ws.length-2)]:=by
      unfold put1
      rw[ew1,en];rfl
     rw[e1]at he
     refine⟨T++[(w1,ws.length-2)],_,rfl,Same.upd' s13 ht,?_,by rw[List.length_append];simp;omega,he⟩
     rw[zB,putK_new' _ hvn]
     unfold tKV tabKV
     rw[List.map_append,List.length_map,hrl]
     have e2:((ws.length:Nat):Int) -2=((ws.length-2:Nat):Int):=by omega
     show some (HO.dT (_++[(kB w1,V.int ((ws.length:Int) -2))]))=_
     rw[e2];rfl
  ·rintro σ H2 ⟨T,v2,rfl,s2,ht2,hTl,he⟩
   rw[List.length_map,hpl,List.drop_length,toldP]at he
   refine⟨_,rfl,?_⟩
   exact k H2 t s2 ht (by rw[←he];exact ht2)
def spIsWr:Sp:=fun vs H Q _=>∃(a t:Addr) (ws:List Bytes) (T:List (Bytes×Nat)),vs=[.ref a,.ref t]∧Wds H a ws∧H t=some (.dT (tKV T))∧Good ws∧ws.length≤16500∧∀H',Same H H'→Q (.bl (isWr T ws)) H'
theorem scIsWr:FnScope ["words","told","kind"] ["words","told"] (defScope sIsWr):=⟨rfl,rfl,rfl,by decide +kernel,rfl,by decide +kernel,by decide +kernel⟩
theorem wr_a{T:List (Bytes×Nat)}{ws:List Bytes}(h:¬60<ws.length)(c:kindOf ws=.else_∨kindOf ws=.end_∨kindOf ws=.stop):isWr T ws=decide (ws.length=1):=by
 unfold isWr
 rw[if_neg h]
 rcases c with e | e | e<;>rw[e]
theorem wr_b{T:List (Bytes×Nat)}{ws:List Bytes}(h:¬60<ws.length)(c:kindOf ws=.put∨kindOf ws=.if_∨kindOf ws=.while_):isWr T ws=exprsP 1 (ws.drop 1):=by
 unfold isWr
 rw[if_neg h]
 rcases c with e | e | e<;>rw[e]
theorem ok_isWr{f fK fE fP fD fV:Addr}{fd fdK fdE fdP fdD fdV:FuncData}(D:Dn K mg "is_written" sIsWr f fd ["words","told"])(M:LnT P w K mg aB aC aO)(DK:Dn K mg "line_kind" sKind fK fdK ["words"])(DV:Dn K mg "is_variable" sIsVar fV fdV ["word"])
  (DE:Dn K mg "are_expressions" sExprs fE fdE ["words","count"])(GE:FnOk P w K mg base CX0 4 fE fdE ["words","count"] spExprs)(DP:Dn K mg "is_proc" sIsProc fP fdP ["words"])(GP:FnOk P w K mg base CX0 2 fP fdP ["words"] spIsProc)
  (DD:Dn K mg "is_do" sIsDo fD fdD ["words","told"])(GD:FnOk P w K mg base CX0 5 fD fdD ["words","told"] spIsDo):FnOk P w K mg base CX0 6 f fd ["words","told"] spIsWr:=by
 have GK:FnOk P w K mg base CX0 1 fK fdK ["words"] spKind:=ok_kind DK M
 have GV:FnOk P w K mg base CX0 1 fV fdV ["word"] (spW1 isVar):=ok_var DV.fn M
 refine D.fn.ok scIsWr (fun vs H Q E h=>?_) (fun cdv A outer s H vs Q E hr h=>?_)
 ·obtain⟨a,t,ws,T,rfl,_⟩:=h
  rfl
 ·obtain⟨a,t,ws,T,rfl,hw,ht,hgood,hwl,k⟩:=h
  have hr1:Room 1 _:=hr.mono (by decide)
  have hr2:Room 2 _:=hr.mono (by decide)
  have hr4:Room 4 _:=hr.mono (by decide)
  obtain⟨tw,hmw⟩:=M.mwords
  refine⟨_,zD (zZ (i:=2) scIsWr.nd rfl (Or.inl rfl) (zS GK hr1 (by rfl) DK.at_ DK.fn.kp DK.bd .nil pass0 (zA (pv 0) zG)))
   (zD (zV (zK op_gt (zU zR (by rfl) M.wd.len PySem.boot_len (zA (pv 0) zG)) (zQ (v:=V.int 60) (by rfl) hmw ⟨tw,rfl⟩) (zM _)) (zE (zN pe_bl)) zL)
   (zD (zV (zK yR (pv 2) (pe_tup (zA zT (zA zT (zA zT zG)))) rfl) (zE (zN (yK yC (zU zR (by rfl) M.wd.len PySem.boot_len (zA (pv 0) zG)) zI (zM _)))) zL)
   (zD (zV (zK yR (pv 2) (pe_tup (zA zT (zA zT (zA zT zG)))) rfl) (zE (zN (zS GE hr4 (by rfl) DE.at_ DE.fn.kp DE.bd .nil pass0 (zA (yZ sl_list (pv 0) (xE zI) po_none) (zA zI zG))))) zL)
   (zD (zV (zK yC (pv 2) zT (zM _)) (zE (zN (pe_and (yK op_gt (zU zR (by rfl) M.wd.len PySem.boot_len (zA (pv 0) zG)) zI (zM _))
     (pe_and (zS GV hr1 (by rfl) DV.at_ DV.fn.kp DV.bd .nil pass0 (zA (yH yB (pv 0) zI (fun _ _=>rfl)) zG))
     (pe_one (zS GE hr4 (by rfl) DE.at_ DE.fn.kp DE.bd .nil pass0 (zA (yZ sl_list (pv 0) (xE zI) po_none) (zA zI zG)))))))) zL)
   (zD (zV (zK yC (pv 2) zT (zM _)) (zE (zN (pe_and (yK yC (zU zR (by rfl) M.wd.len PySem.boot_len (zA (pv 0) zG)) zI (zM _))
     (pe_one (zS GV hr1 (by rfl) DV.at_ DV.fn.kp DV.bd .nil pass0 (zA (yH yB (pv 0) zI (fun _ _=>rfl)) zG)))))) zL)
   (zD (zV (zK yC (pv 2) zT (zM _)) (zE (zN (zS GP hr2 (by rfl) DP.at_ DP.fn.kp DP.bd .nil pass0 (zA (pv 0) zG)))) zL)
   (zD (zV (zK yC (pv 2) zT (zM _)) (zE (zN (zS GD hr (by rfl) DD.at_ DD.fn.kp DD.bd .nil pass0 (zA (pv 0) (zA (pv 1) zG))))) zL)
   (zE (zN (yK yC (pv 2) zT (zM _))))))))))),?_⟩
  refine⟨_,rfl,a,ws,rfl,hw,hgood,?_⟩
  obtain⟨ps,hps,hpr⟩:=id hw
  have hpl:=Paired.length hpr
  refine⟨_,rfl,a,_,rfl,.inl (SqL.of hps),_,_,rfl,rfl,_,rfl,?_⟩
  rw[List.length_map,hpl]
  refine ite2 (fun g=>?_) (fun g=>?_)
  ·have g':60<ws.length:=by have:=of_decide_eq_true g;omega
   have:=k H (Same.refl H)
   unfold isWr at this
   rw[if_pos g']at this
   exact this
  have g':¬60<ws.length:=fun z=>g (decide_eq_true (by omega))
  refine rd_in3 rfl fun H1 s1=>?_
  show if inV (V.str (kdStr (kindOf ws))) [.str "else",.str "end",.str "stop"]=true then _ else _
  rw[in_a]
  refine ite2 (fun c1=>?_) (fun c1=>?_)
  ·refine⟨_,rfl,a,_,rfl,.inl (SqL.of (s1 _ _ hps)),rfl,?_⟩
   show Q (V.bl (decide (V.int (((ps.map V.ref).length:Nat):Int)=V.int 1))) H1
   rw[decV,List.length_map,hpl]
   have:=k H1 s1
   rw[wr_a g' (of_decide_eq_true c1)]at this
   rw[decide_eq_decide.mpr (show((ws.length:Int)=1)↔ws.length=1 by omega)]
   exact this
  have n1:¬(kindOf ws=.else_∨kindOf ws=.end_∨kindOf ws=.stop):=fun z=>c1 (decide_eq_true z)
  have hexp:∀(H2:Hp) (n:Nat),Same H H2→(∀H',Same H H'→Q (.bl (exprsP 1 (ws.drop n))) H')→tCall spExprs [] E0 (tCons (tSl (rSlL K) (tVar 0) (tPart (tC (.int (n:Int)))) tNoPart) (tCons (tC (.int 1)) tNil)) [some (.ref a),some (.ref t),some (.str (kdStr (kindOf ws)))] H2 Q:=fun H2 n s2 kk=>by
   refine⟨_,rfl,_,rfl,a,_,rfl,SqL.of (s2 _ _ hps),fun q hq=>?_⟩
   have hpr2:Paired (fun(p:Addr) w=>TupAt H2 p w) ps ws:=Paired.tups (Same.tups s2) hpr
   exact⟨q,ws.drop n,1,rfl,wds_drop hpr2 n hq,fun x hx=>hgood x (List.mem_of_mem_drop hx),fun H' s'=>kk H' ((s2.trans (Same.upd' (Same.refl _) hq)).trans s')⟩
  refine rd_in3 rfl fun H2 s2=>?_
  have s12:=s1.trans s2
  show if inV (V.str (kdStr (kindOf ws))) [.str "put",.str "if",.str "while"]=true then _ else _
  rw[in_b]
  refine ite2 (fun c2=>?_) (fun c2=>?_)
  ·exact hexp H2 1 s12 fun H' s'=>by
    have:=k H' s'
    rw[wr_b g' (of_decide_eq_true c2)]at this
    exact this
  have n2:¬(kindOf ws=.put∨kindOf ws=.if_∨kindOf ws=.while_):=fun z=>c2 (decide_eq_true z)
  have hps2:=s12 _ _ hps
  have hpr2:Paired (fun(p:Addr) w=>TupAt H2 p w) ps ws:=Paired.tups (Same.tups s12) hpr
  have hisv:∀{w1:Bytes},ws[1]? =some w1→∀Qv:VK,(Qv (.bl (isVar w1)) H2)→tCall (spW1 isVar) [] E0 (tCons (tOp (rIxL K) (tVar 0) (tC (.int 1))) tNil) [some (.ref a),some (.ref t),some (.str (kdStr (kindOf ws)))] H2 Qv:=fun {w1} hw1 Qv kv=>by
   obtain⟨p1,hp1,hT1⟩:=wd_at hpr2 hw1
   exact⟨_,rfl,a,_,_,_,rfl,rfl,SqL.of hps2,zW (j:=1) hp1,p1,w1,rfl,hT1,(hgood w1 (List.mem_of_getElem? hw1)).2,kv⟩
  refine rd_eqs rfl ?_
  show if decide (V.str (kdStr (kindOf ws))=V.str (kdStr .set))=true then _ else _
  rw[yL]
  refine ite2 (fun c3=>?_) (fun c3=>?_)
  ·have e3:=of_decide_eq_true c3
   have kk:∀H',Same H H'→Q (.bl (decide (1<ws.length)&&isVar (ws.getD 1 [])&&exprsP 1 (ws.drop 2))) H':=fun H' s'=>by
    have:=k H' s'
    unfold isWr at this
    rw[if_neg g',e3]at this
    exact this
   refine⟨_,rfl,a,_,rfl,.inl (SqL.of hps2),_,_,rfl,rfl,_,rfl,?_⟩
   rw[List.length_map,hpl]
   refine ite2 (fun g1=>?_) (fun g1=>?_)
   ·have g1':1<ws.length:=by have:=of_decide_eq_true g1;omega
    obtain⟨w1,hw1⟩:∃w1,ws[1]? =some w1:=⟨ws[1],List.getElem?_eq_getElem (by omega)⟩
    have ew1:ws.getD 1 []=w1:=by rw[List.getD_eq_getElem?_getD,hw1];rfl
    rw[decide_eq_true g1',Bool.true_and,ew1]at kk
    refine hisv hw1 _ ⟨_,rfl,?_⟩
    cases hv:isVar w1 with
    |true=>
     rw[hv,Bool.true_and]at kk
     exact iteT (hexp H2 2 s12 kk)
    |false=>
     rw[hv,Bool.false_and]at kk
     exact iteF (kk H2 s12)
   ·have g1':¬1<ws.length:=fun z=>g1 (decide_eq_true (by omega))
    rw[decide_eq_false g1',Bool.false_and,Bool.false_and]at kk
    exact kk H2 s12
  refine rd_eqs rfl ?_
  show if decide (V.str (kdStr (kindOf ws))=V.str (kdStr .get))=true then _ else _
  rw[yL]
  refine ite2 (fun c4=>?_) (fun c4=>?_)
  ·have e4:=of_decide_eq_true c4
   have kk:∀H',Same H H'→Q (.bl (decide (ws.length=2)&&isVar (ws.getD 1 []))) H':=fun H' s'=>by
    have:=k H' s'
    unfold isWr at this
    rw[if_neg g',e4]at this
    exact this
   refine⟨_,rfl,a,_,rfl,.inl (SqL.of hps2),rfl,_,rfl,?_⟩
   rw[decV,List.length_map,hpl]
   refine ite2 (fun g1=>?_) (fun g1=>?_)
   ·have g1':ws.length=2:=by have:=of_decide_eq_true g1;omega
    obtain⟨w1,hw1⟩:∃w1,ws[1]? =some w1:=⟨ws[1],List.getElem?_eq_getElem (by omega)⟩
    have ew1:ws.getD 1 []=w1:=by rw[List.getD_eq_getElem?_getD,hw1];rfl
    rw[decide_eq_true g1',Bool.true_and,ew1]at kk
    exact hisv hw1 _ (kk H2 s12)
   ·have g1':¬ws.length=2:=fun z=>g1 (decide_eq_true (by omega))
    rw[decide_eq_false g1',Bool.false_and]at kk
    exact kk H2 s12
  refine rd_eqs rfl ?_
  show if decide (V.str (kdStr (kindOf ws))=V.str (kdStr .proc))=true then _ else _
  rw[yL]
  refine ite2 (fun c5=>?_) (fun c5=>?_)
  ·have e5:=of_decide_eq_true c5
   refine⟨_,rfl,a,ws,rfl,hw.mono s12,hgood,hwl,fun H' s'=>?_⟩
   have:=k H' (s12.trans s')
   unfold isWr at this
   rw[if_neg g',e5]at this
   exact this
  refine rd_eqs rfl ?_
  show if decide (V.str (kdStr (kindOf ws))=V.str (kdStr .do_))=true then _ else _
  rw[yL]
  refine ite2 (fun c6=>?_) (fun c6=>?_)
  ·have e6:=of_decide_eq_true c6
   refine⟨_,rfl,_,rfl,a,t,ws,T,rfl,hw.mono s12,s12 _ _ ht,hgood,hwl,fun H' s'=>?_⟩
   have:=k H' (s12.trans s')
   unfold isWr at this
   rw[if_neg g',e6]at this
   exact this
  refine⟨_,rfl,rfl,?_⟩
  show Q (V.bl (decide (V.str (kdStr (kindOf ws))=V.str (kdStr .nothing)))) H2
  rw[yL]
  have:=k H2 s12
  unfold isWr at this
  rw[if_neg g']at this
  clear hexp hisv k
  cases hk:kindOf ws with
  |nothing=>rw[hk]at this;exact this
  |unknown=>rw[hk]at this;exact this
  |set=>exact absurd (decide_eq_true hk) c3
  |get=>exact absurd (decide_eq_true hk) c4
  |put=>exact absurd (.inl hk) n2
  |if_=>exact absurd (.inr (.inl hk)) n2
  |else_=>exact absurd (.inl hk) n1
  |while_=>exact absurd (.inr (.inr hk)) n2
  |proc=>exact absurd (decide_eq_true hk) c5
  |end_=>exact absurd (.inr (.inl hk)) n1
  |do_=>exact absurd (decide_eq_true hk) c6
  |stop=>exact absurd (.inr (.inr hk)) n1
end
end Ck
namespace Ck
open PySem L2 R
section
variable {P:Program}{w:World}{K:PySem.W.Frag}{mg:Str→Option Value}{base:Heap}{aB aC aO C:Addr}
def LL(H:Hp)(p:Addr)(ls:List Bytes):Prop:=∃ps:List Addr,H p=some (.lst (ps.map V.ref))∧Paired (fun(q:Addr) l=>q≠p∧H q=some (.lst (vB l))) ps ls
def spLines(K:PySem.W.Frag):Sp:=fun vs H Q _=>∃(a:Addr) (b:Bytes),vs=[.ref a]∧SqL K H a (vB b)∧b.length≤16500∧∀H' p,Same H H'→H p=none→LL H' p (Ls.lines b)→Q (.ref p) H'
theorem scLines:FnScope ["text","lines","start","at","byte"] ["text"] (defScope sLines):=⟨rfl,rfl,rfl,by decide +kernel,rfl,by decide +kernel,by decide +kernel⟩
theorem ok_lines{f:Addr}{fd:FuncData}(D:Dn K mg "split_lines" sLines f fd ["text"])(M:LnT P w K mg aB aC aO):FnOk P w K mg base CX0 1 f fd ["text"] (spLines K):=by
 refine D.fn.ok scLines (fun vs H Q E h=>?_) (fun cdv A outer s H vs Q E hr h=>?_)
 ·obtain⟨a,b,rfl,_⟩:=h
  rfl
 ·obtain⟨a,b,rfl,hb,hlen,k⟩:=h
  obtain⟨tl,hlf⟩:=M.lf
  refine⟨_,zD (zZ (i:=1) scLines.nd rfl (Or.inl rfl) (yI zG))
   (zD (zZ (i:=2) scLines.nd rfl (Or.inl rfl) zI)
   (zD (ps_for PassesOwn.never rfl (pi_enum (by rfl) M.enum (zA (pv 0) zG)) (pg_tup rfl (pgs_cons (yJ (i:=3) scLines.nd rfl (Or.inl rfl)) (pgs_cons (yJ (i:=4) scLines.nd rfl (Or.inl rfl)) pgs_nil)))
    (zE (zV (zK yC (pv 4) (zQ (v:=V.int 10) (by rfl) hlf ⟨tl,rfl⟩) (zM _))
     (zD (yA (xA PySem.F.plainAttrs_list PySem.F.slot_list_append PySem.F.type_list_append yD (pv 1) (zA (yZ sl_list (pv 0) (xE (pv 2)) (xE (pv 3))) zG)))
     (zE (zZ (i:=2) scLines.nd rfl (Or.inl rfl) (yQ op_add (pv 3) zI)))) zL)))
   (zD (zV (zK op_lt (pv 2) (zU zR (by rfl) M.wd.len PySem.boot_len (zA (pv 0) zG)) (zM _))
    (zE (yA (xA PySem.F.plainAttrs_list PySem.F.slot_list_append PySem.F.type_list_append yD (pv 1) (zA (yZ sl_list (pv 0) (xE (pv 2)) po_none) zG)))) zL)
   (zE (zN (pv 1)))))),?_⟩
  refine⟨zero_line,fun L hL=>?_⟩
  have s0:Same H (upd H L (.lst [])):=Same.upd' (Same.refl H) hL
  refine⟨_,rfl,a,_,rfl,s0.seq hb,for_enum (K:=K) (a:=a) (J:=Ite K a) (xs:=vB b) (num:=fun i=>(i:Int)) (fun i H h=>h) (fun i H h=>h) (fun i H v H' h=>h)
   (fun i σ H2=>∃(st:Nat) (ps:List Addr) (done:List Bytes) (v3 v4:Option V),σ=[some (.ref a),some (.ref L),some (.int (st:Int)),v3,v4]∧Same H H2∧H2 L=some (.lst (ps.map V.ref))∧Paired (fun(q:Addr) l=>q≠L∧H2 q=some (.lst (vB l))) ps done∧
    st≤i∧done.length≤i∧i≤b.length∧done++Ls.linesFrom ((b.drop st).take (i-st)) (b.drop i)=Ls.lines b)
   ⟨0,[],[],none,none,rfl,s0,zB,.nil,Nat.le_refl _,Nat.le_refl _,Nat.zero_le _,rfl⟩ (fun i σ H2 _ ⟨_,_,_,_,_,_,s2,_⟩=>s2.seq hb) ?_ ?_⟩
  ·rintro i x σ H2 t hx ht ⟨st,ps,done,v3,v4,rfl,s2,hL2,hps,hsi,hdl,hib,he⟩
   obtain⟨c,hc,rfl⟩:=vB_get hx
   have hil:i<b.length:=(List.getElem?_eq_some_iff.mp hc).1
   have ed:b.drop i=c::b.drop (i+1):=by rw[List.drop_eq_getElem_cons hil,(List.getElem?_eq_some_iff.mp hc).2]
   have hpl:=Paired.length hps
   rw[ed,Ls.linesFrom]at he
   refine⟨t,_,rfl,SqT.of zB,rfl,_,_,rfl,_,_,rfl,rfl,?_⟩
   have st2:Same H2 (upd H2 t (.tup [.int (i:Int),V.int (c.toNat:Int)])):=Same.upd' (Same.refl _) ht
   have hL3:=st2 _ _ hL2
   have hps3:Paired (fun(q:Addr) l=>q≠L∧(upd H2 t (.tup [.int (i:Int),V.int (c.toNat:Int)])) q=some (.lst (vB l))) ps done:=Paired.mapP hps fun x y ⟨h1,h2⟩=>⟨h1,st2 _ _ h2⟩
   have s3:Same H (upd H2 t (.tup [.int (i:Int),V.int (c.toNat:Int)])):=s2.trans st2
   revert hL3 hps3 s3
   generalize upd H2 t (.tup [.int (i:Int),V.int (c.toNat:Int)])=H3
   intro hL3 hps3 s3
   refine⟨_,rfl,rfl,_,rfl,?_⟩
   rw[decV]
   refine ite2 (fun g=>?_) (fun g=>?_)
   ·have hc10:c=10:=(yY (n:=10) (by decide)).mp (of_decide_eq_true g)
    rw[if_pos hc10]at he
    refine⟨_,rfl,.inl ⟨rfl,_,SqL.of hL3⟩,_,rfl,_,rfl,_,rfl,_,rfl,_,rfl,a,_,rfl,s3.seq hb,fun q hq=>?_⟩
    have nqL:L≠q:=zH hL3 hq
    have ecut:cutV (vB b) (some (st:Int)) (some (i:Int))=vB ((b.drop st).take (i-st)):=by rw[cut_mid',vB_drop,vB_take]
    rw[ecut]
    have hL4:(upd H3 q (.lst (vB ((b.drop st).take (i-st))))) L=some (.lst (ps.map V.ref)):=by rw[zF nqL];exact hL3
    refine⟨L,_,_,rfl,rfl,hL4,?_,?_⟩
    ·rw[List.length_map,hpl];have:=zP;omega
    ·refine⟨_,rfl,_,_,rfl,rfl,?_⟩
     refine⟨i+1,ps++[q],done++[(b.drop st).take (i-st)],_,_,rfl,Same.upd' (Same.upd' s3 (s3.free hq)) hL,?_,?_,Nat.le_refl _,by rw[List.length_append];simp;omega,hil,?_⟩
     ·rw[zB,List.map_append];rfl
     ·refine Paired.snoc (Paired.mapP hps3 fun x y ⟨h1,h2⟩=>⟨h1,by rw[zF h1,zF (zH h2 hq)];exact h2⟩) ⟨nqL.symm,?_⟩
      rw[zF nqL.symm,zB]
     ·rw[List.append_assoc,Nat.sub_self,List.take_zero]
      exact he
   ·have hc10:c≠10:=fun e=>g (decide_eq_true ((yY (n:=10) (by decide)).mpr e))
    rw[if_neg hc10]at he
    refine⟨st,ps,done,_,_,rfl,s3,hL3,hps3,by omega,by omega,hil,?_⟩
    have e3:(b.drop st).take (i+1-st)=(b.drop st).take (i-st)++[c]:=by
     rw[show i+1-st=i-st+1 by omega,List.take_succ,List.getElem?_drop,show st+ (i-st)=i by omega,hc];rfl
    rw[e3]
    exact he
  ·rintro σ H2 ⟨st,ps,done,v3,v4,rfl,s2,hL2,hps,hsi,hdl,hib,he⟩
   rw[vB_len]at hsi hdl he
   have hpl:=Paired.length hps
   rw[List.drop_length,Ls.linesFrom]at he
   have e4:(b.drop st).take (b.length-st)=b.drop st:=List.take_of_length_le (by rw[List.length_drop];exact Nat.le_refl _)
   rw[e4]at he
   refine⟨_,rfl,_,rfl,a,_,rfl,.inl (s2.seq hb),_,_,rfl,rfl,_,rfl,?_⟩
   rw[vB_len]
   refine ite2 (fun g=>?_) (fun g=>?_)
   ·have g':st<b.length:=by have:=of_decide_eq_true g;omega
    have hne:¬b.drop st=[]:=fun e=>by have:=congrArg List.length e;rw[List.length_drop]at this;simp at this;omega
    rw[if_neg hne]at he
    refine⟨_,rfl,.inl ⟨rfl,_,SqL.of hL2⟩,_,rfl,_,rfl,_,rfl,a,_,rfl,s2.seq hb,fun q hq=>?_⟩
    have nqL:L≠q:=zH hL2 hq
    have ecut:cutV (vB b) (some (st:Int)) none=vB (b.drop st):=by rw[cut_from',vB_drop]
    rw[ecut]
    have hL4:(upd H2 q (.lst (vB (b.drop st)))) L=some (.lst (ps.map V.ref)):=by rw[zF nqL];exact hL2
    refine⟨L,_,_,rfl,rfl,hL4,?_,?_⟩
    ·rw[List.length_map,hpl];have:=zP;omega
    ·refine⟨_,rfl,?_⟩
     refine k _ L (Same.upd' (Same.upd' s2 (s2.free hq)) hL) hL ⟨ps++[q],?_,?_⟩
     ·rw[zB,List.map_append];rfl
     ·rw[←he]
      refine Paired.snoc (Paired.mapP hps fun x y ⟨h1,h2⟩=>⟨h1,by rw[zF h1,zF (zH h2 hq)];exact h2⟩) ⟨nqL.symm,?_⟩
      rw[zF nqL.symm,zB]
   ·have g':¬st<b.length:=fun z=>g (decide_eq_true (by omega))
    have hne:b.drop st=[]:=List.drop_of_length_le (by omega)
    rw[if_pos hne,List.append_nil]at he
    refine⟨_,rfl,?_⟩
    exact k _ L s2 hL ⟨ps,hL2,by rw[←he];exact hps⟩
def plF(lb ld:Addr):List (Str×V):=[("blocks",.ref lb),("begun",.ref ld)]
theorem plne:¬(("blocks":Str)= "begun"):=by decide +kernel
theorem yS(lb ld:Addr):(plF lb ld).lookup ("blocks":Str)=some (.ref lb):=by
 unfold plF
 rw[List.lookup_cons_self]
theorem plF_begun(lb ld:Addr):(plF lb ld).lookup ("begun":Str)=some (.ref ld):=by
 unfold plF
 rw[List.lookup_cons,beq_false_of_ne (fun e=>plne e.symm),List.lookup_cons_self]
theorem plF_no(lb ld:Addr){m:Str}(h1:¬m= "blocks")(h2:¬m= "begun"):(plF lb ld).lookup m=none:=by
 unfold plF
 rw[List.lookup_cons,beq_false_of_ne h1,List.lookup_cons,beq_false_of_ne h2];rfl
theorem plF_mk(lb ld:Addr):putF "begun" (.ref ld) (putF "blocks" (.ref lb) [])=plF lb ld:=by
 show(if("blocks":Str)= "begun" then _ else(("blocks":Str),V.ref lb)::[(("begun":Str),V.ref ld)])=_
 rw[if_neg plne];rfl
def blV(bl:List Kd):List V:=bl.map fun k=>V.str (kdStr k)
def bgV(bg:List Bytes):List (List Key×V):=bg.map fun w=>(kB w,V.bl true)
structure PlX (C:Addr) (H:Hp) (p lb ld:Addr) (bl:List Kd) (bg:List Bytes):Prop where
 ob:∃dx,H p=some (.ins C dx (plF lb ld))
 lb:H lb=some (.lst (blV bl))
 ld:H ld=some (.dT (bgV bg))
theorem PlX.mono{H H':Hp}{p lb ld:Addr}{bl:List Kd}{bg:List Bytes}(h:PlX C H p lb ld bl bg)(s:Same H H'):PlX C H' p lb ld bl bg:=
 ⟨h.ob.elim fun dx e=>⟨dx,s _ _ e⟩,s _ _ h.lb,s _ _ h.ld⟩
theorem bg_has(bg:List Bytes)(w:Bytes):(valV (bgV bg) (kB w)).isSome=bg.contains w:=by
 induction bg with
 |nil=>rfl
 |cons x r ih=>
  show(valV ((kB x,V.bl true)::bgV r) (kB w)).isSome=_
  by_cases e:x=w
  ·subst e
   rw[yM rfl];simp
  ·rw[yN (fun z=>e (kB_inj z)),ih]
   have:(w==x)=false:=beq_false_of_ne fun z=>e z.symm
   rw[List.contains_cons,this,Bool.false_or]
structure PlT (K:PySem.W.Frag) (mg:Str→Option Value) (C:Addr):Prop where
 cl:Cls K C
 nb:NoAttr K C "blocks"
 ng:NoAttr K C "begun"
 mgC:mg "Place"=some (.ref C)
def spPlInit(C:Addr):Sp:=fun vs H Q _=>∃(p dx:Addr),vs=[.ref p]∧H p=some (.ins C dx [])∧∀H' lb ld,PlX C H' p lb ld [] []→(∀b o,H b=some o→b≠p→H' b=some o)→H lb=none→H ld=none→lb≠p→ld≠p→Q .non H'
theorem scPlInit:FnScope ["self"] ["self"] (defScope sPlInit):=⟨rfl,rfl,rfl,by decide +kernel,rfl,by decide +kernel,by decide +kernel⟩
theorem ok_plInit{f:Addr}{fd:FuncData}(F:Fun K "__init__" "Place.__init__" sPlInit f fd)(T:PlT K mg C):FnOk P w K mg base CX0 1 f fd ["self"] (spPlInit C):=by
 refine F.ok scPlInit (fun vs H Q E h=>?_) (fun cdv A outer s H vs Q E hr h=>?_)
 ·obtain⟨p,dx,rfl,_⟩:=h
  rfl
 ·obtain⟨p,dx,rfl,hp,k⟩:=h
  refine⟨_,zD (zY (pv 0) (yI zG) rfl) (zE (zY (pv 0) pe_dnewT rfl)),?_⟩
  refine⟨zero_line,fun lb hlb=>?_⟩
  have n1:p≠lb:=zH hp hlb
  refine⟨_,rfl,p,C,dx,[],rfl,by rw[zF n1];exact hp,T.cl,T.nb,(by show 0<1000;decide),?_⟩
  intro ld hld
  have n2:ld≠p:=fun z=>by rw[z,zB]at hld;cases hld
  have hld':(upd H lb (.lst [])) ld=none:=by rw[zF n2]at hld;exact hld
  have n3:ld≠lb:=fun z=>by rw[z,zB]at hld';cases hld'
  have hld0:H ld=none:=by rw[zF n3]at hld';exact hld'
  refine⟨_,rfl,p,C,dx,_,rfl,by rw[zF n2.symm,zB],T.cl,T.ng,(by have:=length_putF "blocks" (V.ref lb) [];simp only[List.length_nil]at this;omega),?_⟩
  rw[plF_mk]
  refine k _ lb ld ⟨⟨dx,zB⟩,?_,?_⟩ (fun b o e hb=>?_) hlb hld0 n1.symm n2
  ·rw[zF n1.symm,zF n3.symm,zF n1.symm,zB];rfl
  ·rw[zF n2,zB];rfl
  ·rw[zF hb,zF (zH e hld0),zF hb,zF (zH e hlb)];exact e
def spAllows(C:Addr):Sp:=fun vs H Q _=>∃(p a lb ld:Addr) (ws:List Bytes) (bl:List Kd) (bg:List Bytes),vs=[.ref p,.ref a]∧PlX C H p lb ld bl bg∧Wds H a ws∧Good ws∧(kindOf ws=.proc→2≤ws.length)∧∀H',Same H H'→Q (.bl (allowsP bl bg ws)) H'
theorem scAllows:FnScope ["self","words","kind"] ["self","words"] (defScope sAllows):=⟨rfl,rfl,rfl,by decide +kernel,rfl,by decide +kernel,by decide +kernel⟩
theorem blV_len(bl:List Kd):(blV bl).length=bl.length:=List.length_map ..
theorem blV_last{bl:List Kd}{k:Kd}(h:bl.getLast? =some k):atI (blV bl) (-1)=some (V.str (kdStr k)):=by
 obtain⟨l,rfl⟩:∃l,bl=l++[k]:=by
  rw[List.getLast?_eq_some_iff]at h
  exact h
 unfold blV
 rw[List.map_append]
 exact atI_last _ _
theorem ok_allows{f fK:Addr}{fd fdK:FuncData}(F:Fun K "allows" "Place.allows" sAllows f fd)(T:PlT K mg C)(M:LnT P w K mg aB aC aO)(DK:Dn K mg "line_kind" sKind fK fdK ["words"]):FnOk P w K mg base CX0 2 f fd ["self","words"] (spAllows C):=by
 have GK:FnOk P w K mg base CX0 1 fK fdK ["words"] spKind:=ok_kind DK M
 refine F.ok scAllows (fun vs H Q E h=>?_) (fun cdv A outer s H vs Q E hr h=>?_)
 ·obtain⟨p,a,lb,ld,ws,bl,bg,rfl,_⟩:=h
  rfl
 ·obtain⟨p,a,lb,ld,ws,bl,bg,rfl,hP,hw,hgood,h2,k⟩:=h
  obtain⟨tb,hmb⟩:=M.mblk
  have hu:=hu_of hr
  refine⟨_,zD (zZ (i:=2) scAllows.nd rfl (Or.inl rfl) (zS GK hr (by rfl) DK.at_ DK.fn.kp DK.bd .nil pass0 (zA (pv 1) zG)))
   (zD (zV (zK yR (pv 2) (pe_tup (zA zT (zA zT zG))) rfl) (zE (zN (yK op_lt (zU zR (by rfl) M.wd.len PySem.boot_len (zA (zJ (pv 0) rfl) zG)) (zQ (v:=V.int 40) (by rfl) hmb ⟨tb,rfl⟩) (zM _)))) zL)
   (zD (zV (zK yC (pv 2) zT (zM _)) (zE (zN (pe_and (yK yC (zU zR (by rfl) M.wd.len PySem.boot_len (zA (zJ (pv 0) rfl) zG)) zI (zM _))
     (pe_one (pe_cmp (pc_dnotin hu (yH yB (pv 1) zI (fun _ _=>rfl)) (zJ (pv 0) rfl))))))) zL)
   (zD (zV (zK yC (pv 2) zT (zM _)) (zE (zN (pe_and (yK op_gt (zU zR (by rfl) M.wd.len PySem.boot_len (zA (zJ (pv 0) rfl) zG)) zI (zM _))
     (pe_one (yK yC (yH yB (zJ (pv 0) rfl) (pe_un un_neg zI) (fun _ _=>rfl)) zT (zM _)))))) zL)
   (zD (zV (zK yC (pv 2) zT (zM _)) (zE (zN (yK op_gt (zU zR (by rfl) M.wd.len PySem.boot_len (zA (zJ (pv 0) rfl) zG)) zI (zM _)))) zL)
   (zE (zN pe_bl)))))),?_⟩
  refine⟨_,rfl,a,ws,rfl,hw,hgood,?_⟩
  refine rd_in2 rfl fun H1 s1=>?_
  have hP1:=hP.mono s1
  obtain⟨dx,hob⟩:=hP1.ob
  have kk:=k H1 s1
  unfold allowsP at kk
  show if inV (V.str (kdStr (kindOf ws))) [.str "if",.str "while"]=true then _ else _
  rw[in_c]
  refine ite2 (fun c1=>?_) (fun c1=>?_)
  ·refine⟨_,rfl,p,C,dx,_,_,rfl,hob,T.cl,T.nb,yS _ _,lb,_,rfl,.inl (SqL.of hP1.lb),_,_,rfl,rfl,?_⟩
   show Q (V.bl (decide (((blV bl).length:Int) <40))) H1
   rw[blV_len,decide_eq_decide.mpr (show((bl.length:Int) <40)↔bl.length<40 by omega)]
   rcases of_decide_eq_true c1 with e | e<;>(rw[e]at kk;exact kk)
  have n1:¬(kindOf ws=.if_∨kindOf ws=.while_):=fun z=>c1 (decide_eq_true z)
  refine rd_eqs rfl ?_
  show if decide (V.str (kdStr (kindOf ws))=V.str (kdStr .proc))=true then _ else _
  rw[yL]
  refine ite2 (fun c2=>?_) (fun c2=>?_)
  ·have e2:=of_decide_eq_true c2
   rw[e2]at kk
   refine⟨_,rfl,p,C,dx,_,_,rfl,hob,T.cl,T.nb,yS _ _,lb,_,rfl,.inl (SqL.of hP1.lb),rfl,_,rfl,?_⟩
   rw[decV,blV_len]
   refine ite2 (fun g=>?_) (fun g=>?_)
   ·have g':bl.length=0:=by have:=of_decide_eq_true g;omega
    simp only[decide_eq_true g',Bool.true_and]at kk
    have hl2:=h2 e2
    obtain⟨ps,hps,hpr⟩:=id (hw.mono s1)
    obtain⟨w1,hw1⟩:∃w1,ws[1]? =some w1:=⟨ws[1],List.getElem?_eq_getElem (by omega)⟩
    have ew1:ws.getD 1 []=w1:=by rw[List.getD_eq_getElem?_getD,hw1];rfl
    rw[ew1,←bg_has]at kk
    obtain⟨p1,hp1,hT1⟩:=wd_at hpr hw1
    have hk1:H1 p1=some (.tup ((kB w1).map kV)):=by rw[kB_kV];exact hT1
    exact⟨_,rfl,a,_,_,_,rfl,rfl,SqL.of hps,zW (j:=1) hp1,_,rfl,p,C,dx,_,_,rfl,hob,T.cl,T.ng,plF_begun _ _,ld,_,rfl,.inr ⟨_,kB w1,p1,.inl hP1.ld,rfl,hk1,rfl⟩,kk⟩
   ·have g':¬bl.length=0:=fun z=>g (decide_eq_true (by omega))
    simp only[decide_eq_false g',Bool.false_and]at kk
    exact kk
  refine rd_eqs rfl ?_
  show if decide (V.str (kdStr (kindOf ws))=V.str (kdStr .else_))=true then _ else _
  rw[yL]
  refine ite2 (fun c3=>?_) (fun c3=>?_)
  ·have e3:=of_decide_eq_true c3
   rw[e3]at kk
   refine⟨_,rfl,p,C,dx,_,_,rfl,hob,T.cl,T.nb,yS _ _,lb,_,rfl,.inl (SqL.of hP1.lb),_,_,rfl,rfl,_,rfl,?_⟩
   rw[blV_len]
   refine ite2 (fun g=>?_) (fun g=>?_)
   ·have g':0<bl.length:=by have:=of_decide_eq_true g;omega
    simp only[decide_eq_true g',Bool.true_and]at kk
    obtain⟨k0,hk0⟩:∃k0,bl.getLast? =some k0:=⟨bl.getLast (List.ne_nil_of_length_pos g'),List.getLast?_eq_some_getLast _⟩
    refine⟨_,rfl,p,C,dx,_,_,rfl,hob,T.cl,T.nb,yS _ _,_,rfl,lb,_,_,_,rfl,rfl,SqL.of hP1.lb,blV_last hk0,rfl,?_⟩
    show Q (V.bl (decide (V.str (kdStr k0)=V.str (kdStr .if_)))) H1
    rw[yL]
    rw[hk0]at kk
    rw[decide_eq_decide.mpr (show(k0=Kd.if_)↔(some k0=some Kd.if_) by simp)]
    exact kk
   ·have g':¬0<bl.length:=fun z=>g (decide_eq_true (by omega))
    simp only[decide_eq_false g',Bool.false_and]at kk
    exact kk
  refine rd_eqs rfl ?_
  show if decide (V.str (kdStr (kindOf ws))=V.str (kdStr .end_))=true then _ else _
  rw[yL]
  refine ite2 (fun c4=>?_) (fun c4=>?_)
  ·have e4:=of_decide_eq_true c4
   rw[e4]at kk
   refine⟨_,rfl,p,C,dx,_,_,rfl,hob,T.cl,T.nb,yS _ _,lb,_,rfl,.inl (SqL.of hP1.lb),_,_,rfl,rfl,?_⟩
   show Q (V.bl (decide ((0:Int) < ((blV bl).length:Int)))) H1
   rw[blV_len,decide_eq_decide.mpr (show((0:Int) < (bl.length:Int))↔0<bl.length by omega)]
   exact kk
  show Q (V.bl true) H1
  cases hk:kindOf ws with
  |nothing=>rw[hk]at kk;exact kk
  |unknown=>rw[hk]at kk;exact kk
  |set=>rw[hk]at kk;exact kk
  |get=>rw[hk]at kk;exact kk
  |put=>rw[hk]at kk;exact kk
  |if_=>exact absurd (.inl hk) n1
  |else_=>exact absurd (decide_eq_true hk) c3
  |while_=>exact absurd (.inr hk) n1
  |proc=>exact absurd (decide_eq_true hk) c2
  |end_=>exact absurd (decide_eq_true hk) c4
  |do_=>rw[hk]at kk;exact kk
  |stop=>rw[hk]at kk;exact kk
end
end Ck
namespace Ck
open PySem L2 R
theorem if_skip{i:Nat}{k k':Kd}{t:TS}{D:Ends}{σ:St}{H:Hp}(hs:σ[i]? =some (some (V.str (kdStr k))))(h:k≠k')(n:D.nx σ H):tIfS (tTest (tOp rEq (tVar i) (tC (.str (kdStr k'))))) t tNext D σ H:=
 rd_eqs hs (by
  show if decide (V.str (kdStr k)=V.str (kdStr k'))=true then _ else _
  rw[yL,decide_eq_false h]
  exact iteF n)
theorem if_take{i:Nat}{k:Kd}{t u:TS}{D:Ends}{σ:St}{H:Hp}(hs:σ[i]? =some (some (V.str (kdStr k))))(n:t D σ H):tIfS (tTest (tOp rEq (tVar i) (tC (.str (kdStr k))))) t u D σ H:=
 rd_eqs hs (by
  show if decide (V.str (kdStr k)=V.str (kdStr k))=true then _ else _
  rw[decide_eq_true rfl]
  exact iteT n)
section
variable {P:Program}{w:World}{K:PySem.W.Frag}{mg:Str→Option Value}{base:Heap}{aB aC aO C:Addr}
def spBehind(C:Addr):Sp:=fun vs H Q _=>∃(p a lb ld:Addr) (ws:List Bytes) (bl:List Kd) (bg:List Bytes),vs=[.ref p,.ref a]∧PlX C H p lb ld bl bg∧Wds H a ws∧Good ws∧(kindOf ws=.proc→2≤ws.length)∧allowsP bl bg ws=true∧bl.length≤40∧bg.length≤16500∧
 ∀H',PlX C H' p lb ld (blAfter bl ws) (bgAfter bg ws)→(∀b o,H b=some o→b≠lb→b≠ld→H' b=some o)→Q .non H'
theorem scBehind:FnScope ["self","words","kind"] ["self","words"] (defScope sBehind):=⟨rfl,rfl,rfl,by decide +kernel,rfl,by decide +kernel,by decide +kernel⟩
theorem PlX.lbset{H:Hp}{p lb ld:Addr}{bl bl':List Kd}{bg:List Bytes}(h:PlX C H p lb ld bl bg){xs:List V}(e:xs=blV bl'):PlX C (upd H lb (.lst xs)) p lb ld bl' bg:=by
 obtain⟨⟨dx,h1⟩,h2,h3⟩:=h
 subst e
 refine⟨⟨dx,?_⟩,zB,?_⟩
 ·rw[zF (ne_of h1 h2 (fun z=>nomatch z))];exact h1
 ·rw[zF (ne_of h3 h2 (fun z=>nomatch z))];exact h3
theorem ok_behind{f fK:Addr}{fd fdK:FuncData}(F:Fun K "go_behind" "Place.go_behind" sBehind f fd)(T:PlT K mg C)(M:LnT P w K mg aB aC aO)(DK:Dn K mg "line_kind" sKind fK fdK ["words"]):FnOk P w K mg base CX0 2 f fd ["self","words"] (spBehind C):=by
 have GK:FnOk P w K mg base CX0 1 fK fdK ["words"] spKind:=ok_kind DK M
 refine F.ok scBehind (fun vs H Q E h=>?_) (fun cdv A outer s H vs Q E hr h=>?_)
 ·obtain⟨p,a,lb,ld,ws,bl,bg,rfl,_⟩:=h
  rfl
 ·obtain⟨p,a,lb,ld,ws,bl,bg,rfl,hP,hw,hgood,h2,hal,hbl,hbg,k⟩:=h
  have hu:=hu_of hr
  refine⟨_,zD (zZ (i:=2) scBehind.nd rfl (Or.inl rfl) (zS GK hr (by rfl) DK.at_ DK.fn.kp DK.bd .nil pass0 (zA (pv 1) zG)))
   (zD (zV (zK yR (pv 2) (pe_tup (zA zT (zA zT (zA zT zG)))) rfl) (zE (yA (xA PySem.F.plainAttrs_list PySem.F.slot_list_append PySem.F.type_list_append yD (zJ (pv 0) rfl) (zA (pv 2) zG)))) zL)
   (zD (zV (zK yC (pv 2) zT (zM _)) (zE (ps_dput hu (zJ (pv 0) rfl) (yH yB (pv 1) zI (fun _ _=>rfl)) pe_bl rfl)) zL)
   (zD (zV (zK yC (pv 2) zT (zM _)) (zE (ps_asg (pv 2) (pg_sub (zJ (pv 0) rfl) (pe_un un_neg zI) set_list))) zL)
   (zE (zV (zK yC (pv 2) zT (zM _)) (zE (yA (pe_bm0 PySem.F.plainAttrs_list PySem.F.slot_list_pop PySem.F.type_list_pop mt_pop (zJ (pv 0) rfl)))) zL))))),?_⟩
  refine⟨_,rfl,a,ws,rfl,hw,hgood,?_⟩
  refine rd_in3 rfl fun H1 s1=>?_
  have hP1:=hP.mono s1
  obtain⟨dx,hob⟩:=hP1.ob
  show if inV (V.str (kdStr (kindOf ws))) [.str "if",.str "while",.str "proc"]=true then _ else _
  rw[in_d]
  refine ite2 (fun c1=>?_) (fun c1=>?_)
  ·have e1:=of_decide_eq_true c1
   have ebl:blAfter bl ws=bl++[kindOf ws]:=by
    unfold blAfter
    rcases e1 with e | e | e<;>rw[e]
   refine⟨_,rfl,p,C,dx,_,_,rfl,hob,T.cl,T.nb,yS _ _,.inl ⟨rfl,_,SqL.of hP1.lb⟩,_,rfl,lb,_,_,rfl,rfl,hP1.lb,?_,?_⟩
   ·rw[blV_len];have:=zP;omega
   have hP2:PlX C (upd H1 lb (.lst (blV bl++[V.str (kdStr (kindOf ws))]))) p lb ld (blAfter bl ws) bg:=hP1.lbset (by rw[ebl];unfold blV;rw[List.map_append];rfl)
   have kp2:∀b o,H b=some o→b≠lb→b≠ld→(upd H1 lb (.lst (blV bl++[V.str (kdStr (kindOf ws))]))) b=some o:=fun b o e n1 _=>by rw[zF n1];exact s1 _ _ e
   have hW2:Wds (upd H1 lb (.lst (blV bl++[V.str (kdStr (kindOf ws))]))) a ws∨ws=[]:=by
    obtain⟨ps,hps,hpr⟩:=id (hw.mono s1)
    cases ps with
    |nil=>
     cases hpr
     exact .inr rfl
    |cons q qs=>
     refine .inl ⟨q::qs,?_,Paired.tups (TupKeep.lst (TupKeep.refl _) hP1.lb) hpr⟩
     rw[zF (ne_of hps hP1.lb (fun z=>by
      injection z with z
      unfold blV at z
      cases bl with
      |nil=>cases z
      |cons _ _=>rw[List.map_cons,List.map_cons]at z;injection z with z _;cases z))]
     exact hps
   revert hP2 kp2 hW2
   generalize upd H1 lb (.lst (blV bl++[V.str (kdStr (kindOf ws))]))=H2
   intro hP2 kp2 hW2
   have nelse:kindOf ws≠.else_:=fun z=>by rcases e1 with e | e | e<;>(rw[e]at z;cases z)
   have nend:kindOf ws≠.end_:=fun z=>by rcases e1 with e | e | e<;>(rw[e]at z;cases z)
   by_cases hp:kindOf ws=.proc
   ·have hl2:=h2 hp
    have hW2:Wds H2 a ws:=hW2.resolve_right fun z=>by rw[z]at hl2;simp at hl2
    obtain⟨ps,hps,hpr⟩:=id hW2
    obtain⟨dx2,hob2⟩:=hP2.ob
    obtain⟨w1,hw1⟩:∃w1,ws[1]? =some w1:=⟨ws[1],List.getElem?_eq_getElem (by omega)⟩
    have ew1:ws.getD 1 []=w1:=by rw[List.getD_eq_getElem?_getD,hw1];rfl
    obtain⟨p1,hp1,hT1⟩:=wd_at hpr hw1
    have hk1:H2 p1=some (.tup ((kB w1).map kV)):=by rw[kB_kV];exact hT1
    have hno:valV (bgV bg) (kB w1)=none:=by
     unfold allowsP at hal
     rw[hp]at hal
     simp only[Bool.and_eq_true]at hal
     have h3:=hal.2
     rw[ew1,←bg_has]at h3
     cases e:valV (bgV bg) (kB w1)with
     |none=>rfl
     |some v=>rw[e]at h3;cases h3
    have ebg:bgAfter bg ws=bg++[w1]:=by
     unfold bgAfter
     rw[hp,ew1]
    have hs2:([some (V.ref p),some (V.ref a),some (V.str (kdStr (kindOf ws)))]:St)[2]? =some (some (V.str (kdStr .proc))):=by rw[hp];rfl
    refine if_take (k:=.proc) hs2 ?_
    refine⟨_,rfl,p,C,dx2,_,_,rfl,hob2,T.cl,T.ng,plF_begun _ _,_,rfl,a,_,_,_,rfl,rfl,SqL.of hps,zW (j:=1) hp1,ld,_,rfl,.inr ⟨_,kB w1,p1,hP2.ld,rfl,hk1,?_,rfl⟩,?_⟩
    ·unfold bgV;rw[List.length_map];have:=zP;omega
    have hP3:PlX C (upd H2 ld (.dT (putK (bgV bg) (kB w1) (V.bl true)))) p lb ld (blAfter bl ws) (bgAfter bg ws):=by
     refine⟨⟨dx2,?_⟩,?_,?_⟩
     ·rw[zF (ne_of hob2 hP2.ld (fun z=>nomatch z))];exact hob2
     ·rw[zF (ne_of hP2.lb hP2.ld (fun z=>nomatch z))];exact hP2.lb
     ·rw[zB,putK_new' _ hno,ebg]
      unfold bgV
      rw[List.map_append];rfl
    refine if_skip (k':=.else_) rfl nelse ?_
    refine if_skip (k':=.end_) rfl nend ?_
    exact k _ hP3 fun b o e n1 n2=>by rw[zF n2];exact kp2 b o e n1 n2
   ·have ebg:bgAfter bg ws=bg:=by
     unfold bgAfter
     rcases e1 with e | e | e
     ·rw[e]
     ·rw[e]
     ·exact absurd e hp
    refine if_skip (k':=.proc) rfl hp ?_
    refine if_skip (k':=.else_) rfl nelse ?_
    refine if_skip (k':=.end_) rfl nend ?_
    exact k _ (by rw[ebg];exact hP2) kp2
  ·have n1:¬(kindOf ws=.if_∨kindOf ws=.while_∨kindOf ws=.proc):=fun z=>c1 (decide_eq_true z)
   have ebg:bgAfter bg ws=bg:=by
    unfold bgAfter
    split
    ·rename_i e;exact absurd (.inr (.inr e)) n1
    ·rfl
   have kp1:∀b o,H b=some o→b≠lb→b≠ld→H1 b=some o:=fun b o e _ _=>s1 _ _ e
   refine if_skip (k':=.proc) rfl (fun z=>n1 (.inr (.inr z))) ?_
   by_cases he:kindOf ws=.else_
   ·have hs2:([some (V.ref p),some (V.ref a),some (V.str (kdStr (kindOf ws)))]:St)[2]? =some (some (V.str (kdStr .else_))):=by rw[he];rfl
    have hpos:0<bl.length:=by
     unfold allowsP at hal
     rw[he]at hal
     simp only[Bool.and_eq_true,decide_eq_true_eq]at hal
     exact hal.1
    refine if_take (k:=.else_) hs2 ?_
    refine⟨_,rfl,_,rfl,p,C,dx,_,_,rfl,hob,T.cl,T.nb,yS _ _,_,rfl,lb,_,_,bl.length-1,rfl,rfl,hP1.lb,?_,?_⟩
    ·unfold ixN
     rw[blV_len,if_neg (by decide),if_pos (by omega)]
     congr 1
     omega
    have ebl:(blV bl).set (bl.length-1) (V.str (kdStr (kindOf ws)))=blV (blAfter bl ws):=by
     unfold blAfter
     rw[he]
     obtain⟨l,k0,rfl⟩:∃l k0,bl=l++[k0]:=⟨bl.dropLast,bl.getLast (List.ne_nil_of_length_pos hpos),(List.dropLast_concat_getLast _).symm⟩
     unfold blV
     simp only[List.map_append,List.length_append,List.length_cons,List.length_nil,List.dropLast_concat,List.map_cons,List.map_nil]
     rw[List.set_append_right _ _ (by rw[List.length_map];omega)]
     simp
    refine if_skip (k':=.end_) rfl (fun z=>by rw[he]at z;cases z) ?_
    exact k _ (by rw[ebg];exact hP1.lbset ebl) fun b o e n1 n2=>by rw[zF n1];exact kp1 b o e n1 n2
   ·refine if_skip (k':=.else_) rfl he ?_
    by_cases hn:kindOf ws=.end_
    ·have hs2:([some (V.ref p),some (V.ref a),some (V.str (kdStr (kindOf ws)))]:St)[2]? =some (some (V.str (kdStr .end_))):=by rw[hn];rfl
     have hpos:0<bl.length:=by
      unfold allowsP at hal
      rw[hn]at hal
      simpa using hal
     obtain⟨l,k0,rfl⟩:∃l k0,bl=l++[k0]:=⟨bl.dropLast,bl.getLast (List.ne_nil_of_length_pos hpos),(List.dropLast_concat_getLast _).symm⟩
     refine if_take (k:=.end_) hs2 ?_
     refine⟨_,rfl,p,C,dx,_,_,rfl,hob,T.cl,T.nb,yS _ _,.inl ⟨rfl,_,SqL.of hP1.lb⟩,lb,_,V.str (kdStr k0),rfl,rfl,hP1.lb,?_,?_⟩
     ·unfold blV;simp
     exact k _ (by
      rw[ebg]
      refine hP1.lbset ?_
      unfold blAfter
      rw[hn]
      unfold blV
      simp) fun b o e n1 n2=>by rw[zF n1];exact kp1 b o e n1 n2
    ·refine if_skip (k':=.end_) rfl hn ?_
     have ebl:blAfter bl ws=bl:=by
      unfold blAfter
      split
      ·rename_i e;exact absurd (.inl e) n1
      ·rename_i e;exact absurd (.inr (.inl e)) n1
      ·rename_i e;exact absurd (.inr (.inr e)) n1
      ·rename_i e;exact absurd e he
      ·rename_i e;exact absurd e hn
      ·rfl
     exact k _ (by rw[ebg,ebl];exact hP1) kp1
end
end Ck
namespace Ck
open PySem L2 R
theorem Wds.upd_lst{H:Hp}{l D:Addr}{ws:List Bytes}{xs ys:List V}(h:Wds H l ws)(n:l≠D)(hD:H D=some (.lst xs)):Wds (upd H D (.lst ys)) l ws:=by
 obtain⟨ps,h1,h2⟩:=h
 exact⟨ps,by rw[zF n];exact h1,Paired.tups (TupKeep.lst (TupKeep.refl _) hD) h2⟩
theorem words_count:∀(s acc:Bytes),(wordsP acc s).length≤(if acc=[]then 0 else 1) +s.length
 |[],acc=>by
  unfold wordsP
  split<;>simp
 |c::r,acc=>by
  unfold wordsP
  rw[List.length_cons]
  split
  ·split
   ·have:=words_count r [];simp at this;omega
   ·rw[List.length_cons];have:=words_count r [];simp at this;omega
  ·have:=words_count r (acc++[c])
   rw[if_neg (by simp)]at this
   omega
theorem words_lens:∀(s acc:Bytes),∀w∈wordsP acc s,w.length≤acc.length+s.length
 |[],acc,w,hw=>by
  unfold wordsP at hw
  split at hw
  ·cases hw
  ·simp at hw;subst hw;simp
 |c::r,acc,w,hw=>by
  unfold wordsP at hw
  rw[List.length_cons]
  split at hw
  ·split at hw
   ·have:=words_lens r [] w hw;simp at this;omega
   ·rcases List.mem_cons.mp hw with e | e
    ·subst e;omega
    ·have:=words_lens r [] w e;simp at this;omega
  ·have:=words_lens r (acc++[c]) w hw
   rw[List.length_append]at this;simp at this;omega
theorem lines_lens:∀(s acc:Bytes),(Ls.linesFrom acc s).length≤1+s.length∧∀l∈Ls.linesFrom acc s,l.length≤acc.length+s.length
 |[],acc=>by
  unfold Ls.linesFrom
  split
  ·exact⟨by simp,fun l hl=>nomatch hl⟩
  ·exact⟨by simp,fun l hl=>by simp at hl;subst hl;simp⟩
 |c::r,acc=>by
  unfold Ls.linesFrom
  rw[List.length_cons]
  split
  ·obtain⟨h1,h2⟩:=lines_lens r []
   refine⟨by rw[List.length_cons];omega,fun l hl=>?_⟩
   rcases List.mem_cons.mp hl with e | e
   ·subst e;omega
   ·have:=h2 l e;simp at this;omega
  ·obtain⟨h1,h2⟩:=lines_lens r (acc++[c])
   refine⟨by omega,fun l hl=>?_⟩
   have:=h2 l hl
   rw[List.length_append]at this;simp at this;omega
theorem linesW_good{b:Bytes}(h:b.length≤16400):∀ws∈linesW b,Good ws∧ws.length≤16500:=fun ws hws=>by
 unfold linesW at hws
 obtain⟨l,hl,rfl⟩:=List.mem_map.mp hws
 have hll:=(lines_lens b []).2 l hl
 simp at hll
 refine⟨fun w hw=>⟨words_ne _ _ w hw,?_⟩,?_⟩
 ·have:=words_lens _ _ w hw;simp at this;omega
 ·have:=words_count l [];simp at this;omega
theorem isWr_proc{T:List (Bytes×Nat)}{ws:List Bytes}(h:isWr T ws=true)(hp:kindOf ws=.proc):2≤ws.length:=by
 unfold isWr at h
 split at h
 ·cases h
 ·rw[hp]at h
  unfold isProcL at h
  simp only[Bool.and_eq_true,decide_eq_true_eq]at h
  exact h.1.1.1.1.2
theorem bl_bound{bl:List Kd}{bg:List Bytes}{ws:List Bytes}(ha:allowsP bl bg ws=true)(h:bl.length≤40):(blAfter bl ws).length≤40:=by
 unfold allowsP at ha
 unfold blAfter
 cases hk:kindOf ws<;>rw[hk]at ha<;>simp only[Bool.and_eq_true,decide_eq_true_eq]at ha<;>simp only[List.length_append,List.length_dropLast,List.length_cons,List.length_nil]<;>omega
theorem bg_bound{bg:List Bytes}{ws:List Bytes}:(bgAfter bg ws).length≤bg.length+1:=by
 unfold bgAfter
 split
 ·rw[List.length_append];simp
 ·omega
section
variable {P:Program}{w:World}{K:PySem.W.Frag}{mg:Str→Option Value}{base:Heap}{aB aC aO C:Addr}
def spFirst(K:PySem.W.Frag):Sp:=fun vs H Q _=>∃(a:Addr) (b:Bytes),vs=[.ref a]∧SqL K H a (vB b)∧b.length≤16400∧∀H',Same H H'→Q (.int (firstP b:Nat)) H'
theorem scFirst:FnScope ["text","lines","told","place","number","words","line"] ["text"] (defScope sFirst):=⟨rfl,rfl,rfl,by decide +kernel,rfl,by decide +kernel,by decide +kernel⟩
theorem blkFirst:blkC ["text","lines","told","place","number","words","line"] (defScope sFirst) { kind:=.function,names:=[(".0",.local),("line",.local),("split_words",.globalImplicit)],isGenerator:=false,isCoroutine:=false } [("line",6)]=true:=by decide +kernel
theorem ok_first{f fL fW fT fI fA fG fWr:Addr}{fd fdL fdW fdT fdI fdA fdG fdWr:FuncData}(D:Dn K mg "first_wrong_line" sFirst f fd ["text"])(M:LnT P w K mg aB aC aO)(TP:PlT K mg C)
  (DL:Dn K mg "split_lines" sLines fL fdL ["text"])(DW:Dn K mg "split_words" sWords fW fdW ["line"])(DT:Dn K mg "told_procedures" sTold fT fdT ["lines"])(GT:FnOk P w K mg base CX0 3 fT fdT ["lines"] spTold)
  (DWr:Dn K mg "is_written" sIsWr fWr fdWr ["words","told"])(GWr:FnOk P w K mg base CX0 6 fWr fdWr ["words","told"] spIsWr)
  (MK:Mk K C fI)(FI:Fun K "__init__" "Place.__init__" sPlInit fI fdI)(bI:Binds K fdI ["self"] [])(MA:Meth K C "allows" fA)(GA:FnOk P w K mg base CX0 2 fA fdA ["self","words"] (spAllows C))(bA:Binds K fdA ["self","words"] [])
  (MG:Meth K C "go_behind" fG)(GG:FnOk P w K mg base CX0 2 fG fdG ["self","words"] (spBehind C))(bG:Binds K fdG ["self","words"] []):FnOk P w K mg base CX0 7 f fd ["text"] (spFirst K):=by
 have GL:FnOk P w K mg base CX0 1 fL fdL ["text"] (spLines K):=ok_lines DL M
 have GW:FnOk P w K mg base CX0 1 fW fdW ["line"] (spWords K):=ok_words DW M.wd
 have GI:FnOk P w K mg base CX0 1 fI fdI ["self"] (spPlInit C):=ok_plInit FI TP
 refine D.fn.ok scFirst (fun vs H Q E h=>?_) (fun cdv A outer s H vs Q E hr h=>?_)
 ·obtain⟨a,b,rfl,_⟩:=h
  rfl
 ·obtain⟨a,b,rfl,hb,hlen,k⟩:=h
  have hr1:Room 1 _:=hr.mono (by decide)
  have hr2:Room 2 _:=hr.mono (by decide)
  have hr3:Room 3 _:=hr.mono (by decide)
  refine⟨_,zD (ps_setLc (i:=1) rfl scFirst.nd rfl rfl rfl (pi_list (zS GL hr1 (by rfl) DL.at_ DL.fn.kp DL.bd .nil pass0 (zA (pv 0) zG))) (blkOk_by (own:=[("line",6)]) blkFirst) (fun _ _ _ _ _=>yJ (i:=6) scFirst.nd rfl (Or.inl rfl)) (fun _ _ _ _ _=>pts_nil)
    (fun _ _ _ _ _=>zS GW hr1 (by rfl) DW.at_ DW.fn.kp DW.bd .nil pass0 (zA (pv 6) zG)))
   (zD (zZ (i:=2) scFirst.nd rfl (Or.inl rfl) (zS GT hr3 (by rfl) DT.at_ DT.fn.kp DT.bd .nil pass0 (zA (pv 1) zG)))
   (zD (zZ (i:=3) scFirst.nd rfl (Or.inl rfl) (pe_make0 MK GI hr2 (by rfl) TP.mgC bI .nil pass0))
   (zD (ps_for PassesOwn.never rfl (pi_enumS (c:=1) (by decide) (by rfl) M.enum (zA (pv 1) zG)) (pg_tup rfl (pgs_cons (yJ (i:=4) scFirst.nd rfl (Or.inl rfl)) (pgs_cons (yJ (i:=5) scFirst.nd rfl (Or.inl rfl)) pgs_nil)))
    (zD (zV (pw_or (pt_not (pt_val (zS GWr hr (by rfl) DWr.at_ DWr.fn.kp DWr.bd .nil pass0 (zA (pv 5) (zA (pv 2) zG))) (fun _=>rfl)))
      (pw_or1 (pt_not (pt_val (pe_meth (pv 3) TP.cl MA GA hr2 bA .nil pass0 (zA (pv 5) zG)) (fun _=>rfl))))).pt (zE (zN (pv 4))) zL)
    (zE (yA (pe_meth (pv 3) TP.cl MG GG hr2 bG .nil pass0 (zA (pv 5) zG))))))
   (zD (zV (pt_truth (zJ (pv 3) rfl) (fun _=>rfl)) (zE (zN (yQ op_add (zU zR (by rfl) M.wd.len PySem.boot_len (zA (pv 1) zG)) zI))) zL)
   (zE (zN zI)))))),?_⟩
  refine⟨_,rfl,a,b,rfl,hb,by omega,fun H1 L s1 hL0 hLL=>?_⟩
  obtain⟨ps,hps,hpr⟩:=id hLL
  have hpl:=Paired.length hpr
  have hlw:=linesW_good hlen
  have hll:=lines_lens b []
  refine⟨L,rfl,⟨_,SqL.of hps⟩,fun D0 hD0=>?_⟩
  have hD00:H D0=none:=s1.free hD0
  refine lc_list (K:=K) (a:=L) (xs:=ps.map V.ref) (fun i H'=>∃rs:List Addr,Same H1 H'∧H' D0=some (.lst (rs.map V.ref))∧Paired (fun(p:Addr) ws=>p≠D0∧Wds H' p ws) rs ((linesW b).take i)) ⟨[],Same.upd' (Same.refl _) hD0,zB,by rw[List.take_zero];exact .nil⟩ (fun i H' _ ⟨_,s2,_⟩=>SqL.of (s2 _ _ hps)) ?_ ?_
  ·rintro i x H' hx ⟨rs,s2,hD2,hrs⟩
   rw[List.getElem?_map]at hx
   obtain⟨q,hq,rfl⟩:=Option.map_eq_some_iff.mp hx
   obtain⟨l,hl,hql⟩:=paired_at' hpr hq
   have hlm:l∈Ls.lines b:=List.mem_of_getElem? hl
   have hlen2:=hll.2 l hlm
   simp at hlen2
   refine⟨rfl,tYes_if' ?_⟩
   refine⟨_,rfl,q,l,rfl,SqL.of (s2 _ _ hql.2),by omega,fun H3 p s3 hp0 hWp=>?_⟩
   have hD3:=s3 _ _ hD2
   have hpD:p≠D0:=fun z=>by rw[z,hD2]at hp0;cases hp0
   refine⟨_,hD3,?_,rs++[p],Same.upd' (s2.trans s3) hD0,?_,?_⟩
   ·have:=Paired.length hrs
    rw[List.length_map,this,List.length_take]
    unfold linesW
    rw[List.length_map]
    have:=hll.1
    have:=zP
    have e:Ls.lines b=Ls.linesFrom [] b:=rfl
    rw[e]
    omega
   ·rw[zB,List.map_append];rfl
   ·have ex:(linesW b)[i]? =some (wordsP [] l):=by
     unfold linesW
     rw[List.getElem?_map,hl];rfl
    rw[List.take_succ,ex]
    refine Paired.snoc (Paired.mapP hrs fun x y ⟨h1,h2⟩=>⟨h1,(h2.mono s3).upd_lst h1 hD3⟩) ⟨hpD,hWp.upd_lst hpD hD3⟩
  ·rintro H2 ⟨rs,s2,hD2,hrs⟩
   have hln:(ps.map V.ref).length=(linesW b).length:=by unfold linesW;rw[List.length_map,List.length_map,hpl]
   rw[hln,List.take_length]at hrs
   have hWl:(linesW b).length≤16500:=by
    unfold linesW
    rw[List.length_map]
    have:=hll.1
    have e:Ls.lines b=Ls.linesFrom [] b:=rfl
    rw[e]
    omega
   have s12:Same H H2:=s1.trans s2
   have hLns:Lns H2 D0 (linesW b):=⟨rs,hD2,Paired.mapP hrs fun x y h=>h.2⟩
   refine⟨_,rfl,D0,linesW b,rfl,hLns,hlw,hWl,fun H3 t s3 ht0 ht=>?_⟩
   have s13:Same H H3:=s12.trans s3
   have hLns3:=hLns.mono s3
   obtain⟨rs3,hD3,hrs3⟩:=id hLns3
   have hrl:=Paired.length hrs3
   intro x dx nx ndx nex
   refine⟨x,dx,rfl,zB,fun H4 lb ld hP kp hlb hld n1 n2=>⟨rfl,?_⟩⟩
   have s34:Same H3 H4:=Same.made nx ndx kp
   have hlb3:H3 lb=none:=by
    have z:=hlb
    rw[zF n1]at z
    by_cases e:lb=dx
    ·rw[e];exact ndx
    ·rw[zF e]at z;exact z
   have hld3:H3 ld=none:=by
    have z:=hld
    rw[zF n2]at z
    by_cases e:ld=dx
    ·rw[e];exact ndx
    ·rw[zF e]at z;exact z
   have hfp:scanP (toldP [] (linesW b)) 1 [] [] (linesW b)=firstP b:=rfl
   refine⟨_,rfl,D0,_,rfl,SqL.of (s34 _ _ hD3),for_enum (K:=K) (a:=D0) (J:=IteS K D0 1) (xs:=rs3.map V.ref) (num:=fun i=>((i+1:Nat):Int)) (fun i H h=>h) (fun i H h=>h) (fun i H v H' h=>h)
    (fun i σ H5=>∃(bl:List Kd) (bg:List Bytes) (v4 v5:Option V),σ=[some (.ref a),some (.ref D0),some (.ref t),some (.ref x),v4,v5,none]∧Same H3 H5∧PlX C H5 x lb ld bl bg∧bl.length≤40∧bg.length≤i∧i≤(linesW b).length∧
     scanP (toldP [] (linesW b)) (i+1) bl bg ((linesW b).drop i)=firstP b)
    ⟨[],[],none,none,rfl,s34,hP,Nat.zero_le _,Nat.zero_le _,Nat.zero_le _,hfp⟩ (fun i σ H5 _ ⟨_,_,_,_,_,s5,_⟩=>SqL.of (s5 _ _ hD3)) ?_ ?_⟩
   ·rintro i y σ H5 q hy hq ⟨bl,bg,v4,v5,rfl,s5,hP5,hb40,hbgi,hiW,he⟩
    rw[List.getElem?_map]at hy
    obtain⟨p,hp,rfl⟩:=Option.map_eq_some_iff.mp hy
    obtain⟨ws,hws,hpw⟩:=paired_at' hrs3 hp
    have hil:i< (linesW b).length:=(List.getElem?_eq_some_iff.mp hws).1
    have ed:(linesW b).drop i=ws::(linesW b).drop (i+1):=by rw[List.drop_eq_getElem_cons hil,(List.getElem?_eq_some_iff.mp hws).2]
    rw[ed,scanP]at he
    obtain⟨hgd,hwsl⟩:=hlw ws (List.mem_of_getElem? hws)
    refine⟨q,_,rfl,SqT.of zB,rfl,_,_,rfl,_,_,rfl,rfl,?_⟩
    have s56:Same H5 (upd H5 q (.tup [.int ((i+1:Nat):Int),V.ref p])):=Same.upd' (Same.refl _) hq
    have hP6:=hP5.mono s56
    have s36:Same H3 (upd H5 q (.tup [.int ((i+1:Nat):Int),V.ref p])):=s5.trans s56
    revert hP6 s36
    generalize upd H5 q (.tup [.int ((i+1:Nat):Int),V.ref p])=H6
    intro hP6 s36
    have hW6:Wds H6 p ws:=hpw.mono s36
    refine⟨_,rfl,_,rfl,p,t,ws,toldP [] (linesW b),rfl,hW6,s36 _ _ ht,hgd,hwsl,fun H7 s7=>⟨_,rfl,?_⟩⟩
    have s37:=s36.trans s7
    cases hwr:isWr (toldP [] (linesW b)) ws with
    |false=>
     rw[hwr]at he
     have he':firstP b=i+1:=by rw[←he];rfl
     refine iteT (iteT ⟨_,rfl,?_⟩)
     have:=k H7 (s13.trans s37)
     rw[he']at this
     exact this
    |true=>
     rw[hwr]at he
     have hP7:=hP6.mono s7
     obtain⟨dx7,hob7⟩:=hP7.ob
     refine iteF ⟨_,rfl,x,dx7,_,rfl,hob7,plF_no _ _ (by decide +kernel) (by decide +kernel),_,rfl,x,p,lb,ld,ws,bl,bg,rfl,hP7,hW6.mono s7,hgd,fun z=>isWr_proc hwr z,fun H8 s8=>⟨_,rfl,?_⟩⟩
     have s38:=s37.trans s8
     cases hal:allowsP bl bg ws with
     |false=>
      rw[hal]at he
      have he':firstP b=i+1:=by rw[←he];rfl
      refine iteT ⟨_,rfl,?_⟩
      have:=k H8 (s13.trans s38)
      rw[he']at this
      exact this
     |true=>
      rw[hal]at he
      have hP8:=hP7.mono s8
      obtain⟨dx8,hob8⟩:=hP8.ob
      refine iteF ⟨_,rfl,x,dx8,_,rfl,hob8,plF_no _ _ (by decide +kernel) (by decide +kernel),_,rfl,x,p,lb,ld,ws,bl,bg,rfl,hP8,(hW6.mono s7).mono s8,hgd,fun z=>isWr_proc hwr z,hal,hb40,by omega,fun H9 hP9 kp9=>?_⟩
      refine⟨blAfter bl ws,bgAfter bg ws,_,_,rfl,fun b' o e=>kp9 b' o (s38 _ _ e) (zH e hlb3) (zH e hld3),hP9,bl_bound hal hb40,?_,hil,he⟩
      have:=bg_bound (bg:=bg) (ws:=ws)
      omega
   ·rintro σ H5 ⟨bl,bg,v4,v5,rfl,s5,hP5,hb40,hbgi,hiW,he⟩
    rw[List.length_map,hrl,List.drop_length,scanP]at he
    obtain⟨dx5,hob5⟩:=hP5.ob
    refine⟨_,rfl,x,C,dx5,_,_,rfl,hob5,TP.cl,TP.nb,yS _ _,_,.inl ⟨_,SqL.of hP5.lb,rfl⟩,?_⟩
    cases bl with
    |nil=>
     rw[if_pos rfl]at he
     refine iteF ?_
     have:=k H5 (s13.trans s5)
     rw[←he]at this
     exact this
    |cons k0 r=>
     rw[if_neg (by simp)]at he
     refine iteT ⟨_,rfl,D0,_,rfl,.inl (SqL.of (s5 _ _ hD3)),_,_,rfl,rfl,?_⟩
     have:=k H5 (s13.trans s5)
     rw[←he]at this
     rw[List.length_map,hrl]
     exact this
def spCheck(K:PySem.W.Frag):Sp:=fun vs H Q _=>∃(a:Addr) (b:Bytes),vs=[.ref a]∧SqL K H a (vB b)∧b.length≤16500∧∀H' p,Same H H'→H p=none→H' p=some (.lst [.int (checkP b)])→Q (.ref p) H'
theorem scCheck:FnScope ["text"] ["text"] (defScope sCheck):=⟨rfl,rfl,rfl,by decide +kernel,rfl,by decide +kernel,by decide +kernel⟩
theorem ok_check{f fF:Addr}{fd fdF:FuncData}(D:Dn K mg "check" sCheck f fd ["text"])(M:LnT P w K mg aB aC aO)(hmb:∃t,mg "MOST_BYTES"=some (.int 16384 t))(DF:Dn K mg "first_wrong_line" sFirst fF fdF ["text"])(GF:FnOk P w K mg base CX0 7 fF fdF ["text"] (spFirst K)):FnOk P w K mg base CX0 8 f fd ["text"] (spCheck K):=by
 refine D.fn.ok scCheck (fun vs H Q E h=>?_) (fun cdv A outer s H vs Q E hr h=>?_)
 ·obtain⟨a,b,rfl,_⟩:=h
  rfl
 ·obtain⟨a,b,rfl,hb,hlen,k⟩:=h
  obtain⟨tm,hm⟩:=hmb
  refine⟨_,zD (zV (zK op_gt (zU zR (by rfl) M.wd.len PySem.boot_len (zA (pv 0) zG)) (zQ (v:=V.int 16384) (by rfl) hm ⟨tm,rfl⟩) (zM _)) (zE (zN (yI (zA (pe_un un_neg zI) zG)))) zL)
   (zE (zN (yI (zA (zS GF hr (by rfl) DF.at_ DF.fn.kp DF.bd .nil pass0 (zA (pv 0) zG)) zG)))),?_⟩
  have h1:(1:Nat)≤sizeLine:=by have:=zP;omega
  refine⟨_,rfl,a,_,rfl,.inl hb,_,_,rfl,rfl,_,rfl,?_⟩
  rw[vB_len]
  unfold checkP at k
  refine ite2 (fun g=>?_) (fun g=>?_)
  ·have g':16384<b.length:=by have:=of_decide_eq_true g;omega
   rw[if_pos g']at k
   exact⟨_,rfl,h1,fun q hq=>k _ q (Same.upd' (Same.refl _) hq) hq zB⟩
  ·have g':¬16384<b.length:=fun z=>g (decide_eq_true (by omega))
   rw[if_neg g']at k
   refine⟨_,rfl,a,b,rfl,hb,by omega,fun H1 s1=>⟨h1,fun q hq=>k _ q (s1.trans (Same.upd' (Same.refl _) hq)) (s1.free hq) zB⟩⟩
end
end Ck
namespace Ck
open PySem L2 R
theorem kB_ints(b:Bytes):kB b=(b.map fun c=>(c.toNat:Int)).map Sum.inl:=by
 unfold kB
 rw[List.map_map];rfl
theorem mod_tab{P:Program}{w:World}{K:PySem.W.Frag}{a:Addr}{α:Type}{f:α→V}{T:List (Bytes×α)}{l:List (Int×Addr×List Int×V)}(z:(a==sysModules)=false)(h:dictTAt K a=some l)
  (hh:l.map (·.1)=l.map (fun x=>(tupleKind (mixKind P w)).hash (x.2.2.1.map Sum.inl)))(e:(l.map fun x=>(x.2.2.1,x.2.2.2))=T.map fun p=>(p.1.map fun c=>(c.toNat:Int),f p.2))(nd:(T.map (·.1)).Nodup):ModD P w K a (tabKV f T):=by
 have e2:(l.map fun x=>((x.2.2.1.map Sum.inl:List Key),x.2.2.2))=tabKV f T:=by
  have:(l.map fun x=>((x.2.2.1.map Sum.inl:List Key),x.2.2.2))=(l.map fun x=>(x.2.2.1,x.2.2.2)).map fun y=>(y.1.map Sum.inl,y.2):=by rw[List.map_map];rfl
  rw[this,e]
  unfold tabKV
  rw[List.map_map]
  refine List.map_congr_left fun p _=>?_
  show(_,_)=(_,_)
  rw[kB_ints]
 rw[←e2]
 refine modD_of z h hh ?_
 have e3:(l.map fun x=>(x.2.2.1.map Sum.inl:List Key))=(tabKV f T).map (·.1):=by rw[←e2,List.map_map];rfl
 rw[e3]
 have e4:(tabKV f T).map (·.1)=(T.map (·.1)).map kB:=by unfold tabKV;rw[List.map_map,List.map_map];rfl
 rw[e4]
 exact(kB_nodup _).mpr nd
def tabL(K:PySem.W.Frag)(a:Addr):List (Int×Addr×List Int×V):=match dictTAt K a with
 |some l=>l
 |none=>[]
theorem lnT_mk{P:Program}{w:World}{K:PySem.W.Frag}{h:Heap}{mg:Str→Option Value}{aB aC aO:Addr}{t1 t2 t3 t4 t5 t6:Tok}(X:K.In h)(G:h.Ns mainGlobals mg)(wd:WdT K mg aB)
  (g1:PySem.W.nsIn K mainGlobals "LINE_FEED"=some (some (.int 10 t1)))(g2:PySem.W.nsIn K mainGlobals "HASH"=some (some (.int 35 t2)))(g3:PySem.W.nsIn K mainGlobals "MOST_WORDS"=some (some (.int 60 t3)))
  (g4:PySem.W.nsIn K mainGlobals "MOST_DIGITS"=some (some (.int 18 t4)))(g5:PySem.W.nsIn K mainGlobals "MOST_PARAMETERS"=some (some (.int 4 t5)))(g6:PySem.W.nsIn K mainGlobals "MOST_BLOCKS"=some (some (.int 40 t6)))
  (gC:PySem.W.nsIn K mainGlobals "COMMANDS"=some (some (.ref aC)))(gO:PySem.W.nsIn K mainGlobals nOps=some (some (.ref aO)))(b1:PySem.W.nsIn K mainGlobals "enumerate"=some none)(b2:PySem.W.nsIn K mainGlobals "set"=some none)
  (zC:(aC==sysModules)=false)(c1:dictTAt K aC=some (tabL K aC))(c2:(tabL K aC).map (·.1)=(tabL K aC).map (fun x=>(tupleKind (mixKind P w)).hash (x.2.2.1.map Sum.inl)))(c3:((tabL K aC).map fun x=>(x.2.2.1,x.2.2.2))=COMM.map fun p=>(p.1.map fun c=>(c.toNat:Int),V.str (kdStr p.2)))
  (zO:(aO==sysModules)=false)(o1:dictTAt K aO=some (tabL K aO))(o2:(tabL K aO).map (·.1)=(tabL K aO).map (fun x=>(tupleKind (mixKind P w)).hash (x.2.2.1.map Sum.inl)))(o3:((tabL K aO).map fun x=>(x.2.2.1,x.2.2.2))=OPS.map fun p=>(p.1.map fun c=>(c.toNat:Int),V.int (p.2:Int))):LnT P w K mg aB aC aO:=
 ⟨wd,⟨t1,PySem.W.mg_of X G g1⟩,⟨t2,PySem.W.mg_of X G g2⟩,⟨t3,PySem.W.mg_of X G g3⟩,⟨t4,PySem.W.mg_of X G g4⟩,⟨t5,PySem.W.mg_of X G g5⟩,⟨t6,PySem.W.mg_of X G g6⟩,PySem.W.mg_of X G gC,mod_tab zC c1 c2 c3 (by decide),PySem.W.mg_of X G gO,mod_tab zO o1 o2 o3 (by decide),PySem.W.mg_none_of X G b1,PySem.W.mg_none_of X G b2⟩
theorem plT_mk{K:PySem.W.Frag}{h:Heap}{mg:Str→Option Value}{C:Addr}(X:K.In h)(G:h.Ns mainGlobals mg)(gC:PySem.W.nsIn K mainGlobals "Place"=some (some (.ref C)))
  (pg:PySem.W.plainGet K C Str.empty=true)(hd:PySem.W.hasDictIn K C=true)(po:PySem.W.plainOver K C=true)(sa:PySem.W.findIn K (.ref C) "__setattr__"=some (some (.builtin "object.__setattr__")))
  (n1:PySem.W.findIn K (.ref C) "blocks"=some none)(n2:PySem.W.findIn K (.ref C) "begun"=some none):PlT K mg C:=⟨⟨pg,hd,po,sa⟩,n1,n2,PySem.W.mg_of X G gC⟩
theorem first_mk{P:Program}{w:World}{K:PySem.W.Frag}{mg:Str→Option Value}{base:Heap}{aB aC aO C f1 f2 f3 f4 f5 f6 f7 f8 f9 f10 f11 f12 f13 f14 f15 f16 f17:Addr}{d1 d2 d3 d4 d5 d6 d7 d8 d9 d10 d11 d12 d13 d14 d15 d16 d17:FuncData}(M:LnT P w K mg aB aC aO)(TP:PlT K mg C)
  (D1:Dn K mg "split_lines" sLines f1 d1 ["text"])(D2:Dn K mg "split_words" sWords f2 d2 ["line"])(D3:Dn K mg "is_variable" sIsVar f3 d3 ["word"])(D4:Dn K mg "is_procedure" sIsPro f4 d4 ["word"])(D5:Dn K mg "are_digits" sDigits f5 d5 ["signs"])(D6:Dn K mg "is_number" sIsNum f6 d6 ["word"])
  (D7:Dn K mg "operands_wanted" sOps f7 d7 ["word"])(D8:Dn K mg "are_expressions" sExprs f8 d8 ["words","count"])(D9:Dn K mg "line_kind" sKind f9 d9 ["words"])(D10:Dn K mg "is_proc" sIsProc f10 d10 ["words"])(D11:Dn K mg "is_do" sIsDo f11 d11 ["words","told"])(D12:Dn K mg "told_procedures" sTold f12 d12 ["lines"])
  (D13:Dn K mg "is_written" sIsWr f13 d13 ["words","told"])(M1:Mt K C "__init__" "Place.__init__" sPlInit f14 d14 ["self"])(M2:Mt K C "allows" "Place.allows" sAllows f15 d15 ["self","words"])(M3:Mt K C "go_behind" "Place.go_behind" sBehind f16 d16 ["self","words"])
  (mk:PySem.W.makesIn K C=true)(kc:PySem.W.keepIn K (.ref C)=true)(D17:Dn K mg "first_wrong_line" sFirst f17 d17 ["text"]):FnOk P w K mg base CX0 7 f17 d17 ["text"] (spFirst K):=by
 have GP:FnOk P w K mg base CX0 2 f10 d10 ["words"] spIsProc:=ok_isProc D10 M D9 D4 D3
 have GE:FnOk P w K mg base CX0 4 f8 d8 ["words","count"] spExprs:=ok_exprs D8 M D3 D6 D5 D7
 have GD:FnOk P w K mg base CX0 5 f11 d11 ["words","told"] spIsDo:=ok_isDo D11 M D8 GE
 exact ok_first D17 M TP D1 D2 D12 (ok_told D12 M D10 GP) D13 (ok_isWr D13 M D9 D3 D8 GE D10 GP D11 GD) ⟨mk,M1.me.at_,M1.me.fn,kc⟩ M1.fn M1.bd M2.me (ok_allows M2.fn TP M D9) M2.bd M3.me (ok_behind M3.fn TP M D9) M3.bd
end Ck
namespace Ck
open PySem L2 R
section
variable {P:Program}{w:World}{K:PySem.W.Frag}{mg:Str→Option Value}{base:Heap}{aB:Addr}
def nvI(b:Bytes):Int:=b.foldl (fun(v:Int) (c:UInt8)=>if c=45 then v else v*10+ (c.toNat:Int) -48) 0
def numV(b:Bytes):Int:=if(45:UInt8)∈b then -nvI b else nvI b
def spValue:Sp:=fun vs H Q _=>∃(a:Addr) (b:Bytes),vs=[.ref a]∧TupAt H a b∧b.length≤16500∧Q (.int (numV b)) H
theorem scValue:FnScope ["word","value","sign"] ["word"] (defScope sValue):=⟨rfl,rfl,rfl,by decide +kernel,rfl,by decide +kernel,by decide +kernel⟩
theorem minus_in(b:Bytes):inV (V.int 45) (vB b)=decide ((45:UInt8)∈b):=by
 unfold inV vB
 rw[List.any_map]
 induction b with
 |nil=>rfl
 |cons c r ih=>
  rw[List.any_cons,ih]
  show(((c.toNat:Int)==45) || _)=_
  by_cases h:c=45
  ·subst h;simp
  ·have:((c.toNat:Int)==45)=false:=beq_false_of_ne fun e=>h ((yY (n:=45) (by decide)).mp e)
   rw[this,Bool.false_or]
   simp[Ne.symm h]
theorem ok_value{f:Addr}{fd:FuncData}(D:Dn K mg "number_value" sValue f fd ["word"])(T:WdT K mg aB):FnOk P w K mg base CX0 1 f fd ["word"] spValue:=by
 refine D.fn.ok scValue (fun vs H Q E h=>?_) (fun cdv A outer s H vs Q E hr h=>?_)
 ·obtain⟨a,b,rfl,_⟩:=h
  rfl
 ·obtain⟨a,b,rfl,hp,hl,k⟩:=h
  obtain⟨tz,hz⟩:=T.zero
  obtain⟨tm,hm⟩:=T.minus
  refine⟨_,zD (zZ (i:=1) scValue.nd rfl (Or.inl rfl) zI)
   (zD (ps_for PassesOwn.never rfl (pi_tup (pv 0)) (yJ (i:=2) scValue.nd rfl (Or.inl rfl))
    (zE (zV (zK op_ne (pv 2) (zQ (v:=V.int 45) (by rfl) hm ⟨tm,rfl⟩) (zM _))
     (zE (zZ (i:=1) scValue.nd rfl (Or.inl rfl) (yQ op_sub (yQ op_add (yQ op_mul (pv 1) zI) (pv 2)) (zQ (v:=V.int 48) (by rfl) hz ⟨tz,rfl⟩)))) zL)))
   (zE (zN (pe_ifExp (zK yR (zQ (v:=V.int 45) (by rfl) hm ⟨tm,rfl⟩) (pv 0) rfl) (pe_un un_neg (pv 1)) (pv 1))))),?_⟩
  refine⟨_,rfl,a,rfl,⟨_,SqT.of hp⟩,for_tup (K:=K) (a:=a) (xs:=vB b) (fun i σ H2=>∃v2:Option V,H2=H∧σ=[some (.ref a),some (.int ((b.take i).foldl (fun(v:Int) (c:UInt8)=>if c=45 then v else v*10+ (c.toNat:Int) -48) 0)),v2])
   ⟨none,rfl,rfl⟩ (fun i σ H2 _ ⟨_,e,_⟩=>by rw[e];exact SqT.of hp) ?_ ?_⟩
  ·rintro i x σ H2 hx ⟨v2,rfl,rfl⟩
   obtain⟨c,hc,rfl⟩:=vB_get hx
   have e2:b.take (i+1)=b.take i++[c]:=by rw[List.take_succ,hc];rfl
   refine⟨_,rfl,rfl,_,rfl,?_⟩
   show if(!decide (V.int (c.toNat:Int)=V.int 45))=true then _ else _
   rw[decV]
   by_cases h:c=45
   ·have e3:decide ((c.toNat:Int)=45)=true:=decide_eq_true ((yY (n:=45) (by decide)).mpr h)
    rw[e3]
    refine iteF ⟨some (.int (c.toNat:Int)),rfl,?_⟩
    rw[e2,List.foldl_append,List.foldl_cons,List.foldl_nil,if_pos h];rfl
   ·have e3:decide ((c.toNat:Int)=45)=false:=decide_eq_false fun z=>h ((yY (n:=45) (by decide)).mp z)
    rw[e3]
    refine iteT ⟨_,rfl,_,_,rfl,rfl,.inr ⟨by decide,by decide⟩,_,rfl,_,_,rfl,rfl,_,_,rfl,rfl,some (.int (c.toNat:Int)),rfl,?_⟩
    rw[e2,List.foldl_append,List.foldl_cons,List.foldl_nil,if_neg h];rfl
  ·rintro σ H2 ⟨v2,rfl,rfl⟩
   rw[vB_len,List.take_length]
   refine⟨_,rfl,a,_,rfl,.inr (SqT.of hp),rfl,?_,_,rfl,?_⟩
   ·unfold vB
    rw[List.all_map]
    exact List.all_eq_true.mpr fun _ _=>rfl
   ·show if inV (V.int 45) (vB b)=true then _ else _
    rw[minus_in]
    unfold numV at k
    by_cases h:(45:UInt8)∈b
    ·rw[decide_eq_true h]
     rw[if_pos h]at k
     exact iteT ⟨_,rfl,_,rfl,k⟩
    ·rw[decide_eq_false h]
     rw[if_neg h]at k
     exact iteF ⟨_,rfl,k⟩
theorem nv_digits:∀(b:Bytes) (n:Nat),b.all Ls.isDigit=true→b.foldl (fun(v:Int) (c:UInt8)=>if c=45 then v else v*10+ (c.toNat:Int) -48) (n:Int)=((b.foldl (fun(n:Nat) (c:UInt8)=>10*n+ (c.toNat-48)) n:Nat):Int)
 |[],n,_=>rfl
 |c::r,n,h=>by
  rw[List.all_cons]at h
  obtain⟨h1,h2⟩:=Bool.and_eq_true_iff.mp h
  unfold Ls.isDigit at h1
  simp only[Bool.and_eq_true,decide_eq_true_eq]at h1
  have hc:c≠45:=fun e=>by rw[e]at h1;exact absurd h1.1 (by decide)
  rw[List.foldl_cons,List.foldl_cons,if_neg hc]
  have e:(n:Int) *10+ (c.toNat:Int) -48=((10*n+ (c.toNat-48):Nat):Int):=by omega
  rw[e]
  exact nv_digits r _ h2
theorem no_minus{b:Bytes}(h:b.all Ls.isDigit=true):(45:UInt8)∉b:=fun m=>by
 have:=List.all_eq_true.mp h 45 m
 exact absurd this (by decide)
theorem numV_digits{b:Bytes}(h:b.all Ls.isDigit=true):numV b=(Ls.valueOf b:Int):=by
 unfold numV
 rw[if_neg (no_minus h)]
 exact nv_digits b 0 h
end
end Ck
namespace Sh
open Ls
def widthsOf(n:Nat):List Nat:=WIDTHS.getD n []
theorem text_back{l:List Int}(h:∀x∈l,0≤x∧x≤255):(LsNeutral.text l).map (fun(c:UInt8)=>(c.toNat:Int))=l:=by
 unfold LsNeutral.text LsNeutral.nats
 rw[List.map_map,List.map_map]
 conv=>rhs;rw[←List.map_id l]
 refine List.map_congr_left fun x hx=>?_
 obtain⟨h1,h2⟩:=h x hx
 show((UInt8.ofNat x.toNat).toNat:Int)=x
 rw[UInt8.toNat_ofNat',Nat.mod_eq_of_lt (by omega)]
 omega
end Sh
namespace Ins
open PySem L2 Ck
def wI(n:Nat):List Int:=(Sh.widthsOf n).map fun(x:Nat)=>(x:Int)
def sizeOf(n:Nat):Int:=1+ (wI n).sum
def insF(n:Nat)(l:Addr):List (Str×V):=[("number",.int (n:Int)),("operands",.ref l),("size",.int (sizeOf n))]
theorem ne1:¬(("number":Str)= "operands"):=by decide +kernel
theorem ne2:¬(("number":Str)= "size"):=by decide +kernel
theorem ne3:¬(("operands":Str)= "size"):=by decide +kernel
theorem zX(n:Nat)(l:Addr):(insF n l).lookup ("number":Str)=some (.int (n:Int)):=by
 unfold insF
 rw[List.lookup_cons_self]
theorem xB(n:Nat)(l:Addr):(insF n l).lookup ("operands":Str)=some (.ref l):=by
 unfold insF
 rw[List.lookup_cons,beq_false_of_ne (fun e=>ne1 e.symm),List.lookup_cons_self]
theorem insF_mk(n:Nat)(l:Addr):putF "size" (.int (sizeOf n)) (putF "operands" (.ref l) (putF "number" (.int (n:Int)) []))=insF n l:=by
 show putF "size" (.int (sizeOf n)) (if("number":Str)= "operands" then _ else(("number":Str),V.int (n:Int))::[(("operands":Str),V.ref l)])=_
 rw[if_neg ne1]
 show(if("number":Str)= "size" then _ else(("number":Str),V.int (n:Int))::(if("operands":Str)= "size" then _ else(("operands":Str),V.ref l)::[(("size":Str),V.int (sizeOf n))]))=_
 rw[if_neg ne2,if_neg ne3];rfl
structure InsC (K:PySem.W.Frag) (mg:Str→Option Value) (C aW:Addr) (wA:Nat→Addr):Prop where
 widths:mg "WIDTHS"=some (.ref aW)
 widT:∀H,SqT K H aW ((List.range 21).map fun n=>V.ref (wA n))
 wat:∀n,n<21→∀H,SqT K H (wA n) ((wI n).map V.int)
 cl:Cls K C
 nN:NoAttr K C "number"
 nO:NoAttr K C "operands"
 nS:NoAttr K C "size"
 mgC:mg "Instruction"=some (.ref C)
 sum:mg "sum"=none
theorem InsC.wix{K:PySem.W.Frag}{mg:Str→Option Value}{C aW:Addr}{wA:Nat→Addr}(T:InsC K mg C aW wA){n:Nat}(h:n<21):atI ((List.range 21).map fun n=>V.ref (wA n)) (n:Int)=some (V.ref (wA n)):=by
 refine zW ?_
 rw[List.getElem?_map,List.getElem?_range h];rfl
theorem widths_le:∀n,n<21→(∀w∈Sh.widthsOf n,w≤8)∧(Sh.widthsOf n).length≤4:=by decide
theorem insC_mk{K:PySem.W.Frag}{h:Heap}{mg:Str→Option Value}{C aW:Addr}(X:K.In h)(G:h.Ns mainGlobals mg)
  (gW:PySem.W.nsIn K mainGlobals "WIDTHS"=some (some (.ref aW)))(gC:PySem.W.nsIn K mainGlobals "Instruction"=some (some (.ref C)))
  (pg:PySem.W.plainGet K C Str.empty=true)(hd:PySem.W.hasDictIn K C=true)(po:PySem.W.plainOver K C=true)(sa:PySem.W.findIn K (.ref C) "__setattr__"=some (some (.builtin "object.__setattr__")))
  (nN:PySem.W.findIn K (.ref C) "number"=some none)(nO:PySem.W.findIn K (.ref C) "operands"=some none)(nS:PySem.W.findIn K (.ref C) "size"=some none)
  (bs:PySem.W.nsIn K mainGlobals "sum"=some none)
  (w1:tabAt K aW=some ((List.range 21).map fun n=>V.ref (refAt K aW n)))(w2:(List.range 21).map (fun n=>tabAt K (refAt K aW n))=(List.range 21).map (fun n=>some ((wI n).map V.int))):InsC K mg C aW (refAt K aW):=
 ⟨PySem.W.mg_of X G gW,tab_sq w1 (by rw[List.length_map,List.length_range];decide),
  fun n hn H=>tab_sq (range_at w2 hn) (by have:=(widths_le n hn).2;unfold wI;rw[List.length_map,List.length_map];omega) H,⟨pg,hd,po,sa⟩,nN,nO,nS,PySem.W.mg_of X G gC,PySem.W.mg_none_of X G bs⟩
def InsAt(C:Addr)(H:Hp)(p:Addr)(n:Nat)(zs:List Int):Prop:=∃dx l,H p=some (.ins C dx (insF n l))∧H l=some (.lst (zs.map V.int))
end Ins
namespace Ins
open PySem L2 Ck R
section
variable {P:Program}{w:World}{K:PySem.W.Frag}{mg:Str→Option Value}{base:Heap}{C aW:Addr}{wA:Nat→Addr}
def spInit(C:Addr):Sp:=fun vs H Q _=>∃(p dx l:Addr) (n:Nat),vs=[.ref p,.int (n:Int),.ref l]∧n<21∧H p=some (.ins C dx [])∧Q .non (upd H p (.ins C dx (insF n l)))
theorem scInit:FnScope ["self","number","operands"] ["self","number","operands"] (defScope sInit):=⟨rfl,rfl,rfl,by decide +kernel,rfl,by decide +kernel,by decide +kernel⟩
theorem ok_init{f:Addr}{fd:FuncData}(F:Fun K "__init__" "Instruction.__init__" sInit f fd)(T:InsC K mg C aW wA):FnOk P w K mg base CX0 1 f fd ["self","number","operands"] (spInit C):=by
 refine F.ok scInit (fun vs H Q E h=>?_) (fun cdv A outer s H vs Q E hr h=>?_)
 ·obtain⟨p,dx,l,n,rfl,_⟩:=h
  rfl
 ·obtain⟨p,dx,l,n,rfl,hn,hp,k⟩:=h
  refine⟨_,zD (zY (pv 0) (pv 1) rfl) (zD (zY (pv 0) (pv 2) rfl)
   (zE (zY (pv 0) (yQ op_add zI (zU (cr_sumT rfl) (by rfl) T.sum PyProof.Rows.boot_sum (zA (yH ix_tup (zQ (v:=V.ref aW) (by rfl) T.widths rfl) (pv 1) (fun _ _=>rfl)) zG))) rfl))),?_⟩
  refine⟨_,rfl,_,rfl,p,C,dx,[],rfl,hp,T.cl,T.nN,(by show 0<1000;decide),?_⟩
  refine⟨_,rfl,_,rfl,p,C,dx,_,rfl,zB,T.cl,T.nO,(by show 1<1000;decide),?_⟩
  refine⟨_,rfl,aW,_,_,_,rfl,rfl,T.widT _,T.wix hn,_,_,rfl,T.wat n hn _,_,_,rfl,rfl,_,rfl,p,C,dx,_,rfl,zB,T.cl,T.nS,?_,?_⟩
  ·have:=length_putF "operands" (V.ref l) (putF "number" (V.int (n:Int)) [])
   have:=length_putF "number" (V.int (n:Int)) []
   simp only[List.length_nil]at this
   omega
  ·show Q .non (upd (upd (upd H p _) p _) p _)
   rw[yP,yP]
   have e:=insF_mk n l
   unfold sizeOf at e
   rw[e]
   exact k
end
end Ins
namespace As
open Ls
theorem whole_eq(w:Bytes):whole w=if Ck.digits w≠[]∧(Ck.digits w).all isDigit=true then some (if w.head? =some 45 then -(valueOf (Ck.digits w):Int)else(valueOf (Ck.digits w):Int))else none:=rfl
end As
namespace Ck
open PySem PySem.Spec PyProof.Rows L2
def dB(b:Bytes):PyData:=.tuple (b.map fun c=>.int (c.toNat:Int))
theorem dp_ints{K:PySem.W.Frag}{H:Hp}:∀b:Bytes,DpAll K H (vB b) (b.map fun c=>.int (c.toNat:Int))
 |[]=>.nil
 |c::r=>.cons (.int _) (dp_ints r)
theorem dp_tup{K:PySem.W.Frag}{H:Hp}{a:Addr}{b:Bytes}(h:TupAt H a b):Dp K H (.ref a) (dB b):=.tup (SqT.of h) (dp_ints b)
theorem lay_ints:∀b:Bytes,PyData.canLayAll0 (b.map fun c=>PyData.int (c.toNat:Int))=true
 |[]=>by rw[List.map_nil,PyData.canLayAll0]
 |c::r=>by rw[List.map_cons,PyData.canLayAll0,lay_ints r,PyData.canLay0];rfl
theorem dep_ints:∀b:Bytes,PyData.depthAll (b.map fun c=>PyData.int (c.toNat:Int))=0
 |[]=>by rw[List.map_nil,PyData.depthAll]
 |c::r=>by rw[List.map_cons,PyData.depthAll,dep_ints r,PyData.depth];rfl
theorem dB_lay(b:Bytes):(dB b).canLay0=true:=by unfold dB;rw[PyData.canLay0];exact lay_ints b
theorem dB_depth(b:Bytes):(dB b).depth=1:=by unfold dB;rw[PyData.depth,dep_ints]
theorem eqv_ints:∀a b:Bytes,PyData.eqvAll (a.map fun c=>PyData.int (c.toNat:Int)) (b.map fun c=>PyData.int (c.toNat:Int))=decide (a=b)
 |[],[]=>by rw[List.map_nil,PyData.eqvAll];rfl
 |[],d::r=>by rw[List.map_nil,List.map_cons,PyData.eqvAll];rfl
 |c::r,[]=>by rw[List.map_nil,List.map_cons,PyData.eqvAll];rfl
 |c::r,d::t=>by
  rw[List.map_cons,List.map_cons,PyData.eqvAll,eqv_ints r t,PyData.eqv]
  by_cases h:c=d
  ·subst h
   simp
  ·have:((c.toNat:Int)==(d.toNat:Int))=false:=beq_false_of_ne fun e=>h (UInt8.toNat_inj.mp (by omega))
   rw[this]
   simp[h]
theorem eqv_dB(a b:Bytes):PyData.eqv (dB a) (dB b)=decide (a=b):=by unfold dB;rw[PyData.eqv];exact eqv_ints a b
open Classical in
noncomputable def eqW (H:Hp) (w:Bytes) (u:Value):Bool:=match u with
 |.ref p=>decide (TupAt H p w)
 |_=>false
theorem vB_inj:∀{a b:Bytes},vB a=vB b→a=b
 |[],[],_=>rfl
 |[],_::_,h=>by cases h
 |_::_,[],h=>by cases h
 |x::a,y::b,h=>by
  unfold vB at h
  rw[List.map_cons,List.map_cons]at h
  injection h with h1 h2
  have e:x.toNat=y.toNat:=by injection h1 with h1;omega
  rw[UInt8.toNat_inj.mp e,vB_inj h2]
theorem tup_eq{H:Hp}{p:Addr}{a b:Bytes}(h:TupAt H p a):TupAt H p b↔a=b:=by
 constructor
 ·intro z
  have:=h.symm.trans z
  injection this with this
  injection this with this
  exact vB_inj this
 ·intro z;rw[←z];exact h
theorem eqW_at{H:Hp}{p:Addr}{a w:Bytes}(h:TupAt H p a):eqW H w (.ref p)=decide (a=w):=by
 unfold eqW
 exact decide_eq_decide.mpr (tup_eq h)
theorem any_eqW{H:Hp}{w:Bytes}:∀{ps:List Addr} {ws:List Bytes},Paired (fun(p:Addr) v=>TupAt H p v) ps ws→(ps.map fun p=>Value.ref p).any (eqW H w)=decide (w∈ws)
 |_,_,.nil=>rfl
 |_,_,.cons h t=>by
  rw[List.map_cons,List.any_cons,eqW_at h,any_eqW t]
  rename_i p v ps vs
  by_cases e:v=w
  ·subst e;simp
  ·simp[e,Ne.symm e]
theorem refs_vals{ps:List Addr}{us:List Value}(h:Vals (ps.map V.ref) us):us=ps.map fun p=>Value.ref p:=by
 induction ps generalizing us with
 |nil=>cases h;rfl
 |cons p r ih=>
  cases h with
  |cons r1 r2=>cases r1;rw[ih r2];rfl
section
variable {X:Cx}
theorem eqAt_word{pins:List (Addr×Obj)}{σ:L2.St}{H:Hp}{s:Shared}(hu:X.A.units+64<cLine)(I:Inv X pins σ H s){p q:Addr}{a w:Bytes}(h:TupAt H p a)(g:TupAt H q w):SeqAt.EqAt X.A.in1 s (.ref p) (.ref q) (eqW H w (.ref p)):=by
 obtain⟨as,r1⟩:=Dp.reads I (dB a) _ _ (dp_tup h) rfl
 obtain⟨bs,r2⟩:=Dp.reads I (dB w) _ _ (dp_tup g) rfl
 rw[eqW_at h,←eqv_dB]
 refine SeqAt.eqAt_reads _ _ _ _ _ _ _ _ r1 r2 (dB_lay a) (dB_lay w) ?_
 rw[dB_depth,dB_depth]
 show X.A.units+1+1<cLine
 omega
def rInW:R2:=fun x y H Q=>∃(q l:Addr) (w:Bytes) (ws:List Bytes),x=.ref q∧y=.ref l∧TupAt H q w∧Wds H l ws∧Q (.bl (decide (w∈ws))) H
theorem op_inW(hu:X.A.units+64<cLine):OpR X (compareOp .In) rInW:=by
 intro pins s σ H x y v u Q I rx ry h
 obtain⟨q,l,w,ws,rfl,rfl,hq,⟨ps,hl,hp⟩,k⟩:=h
 cases rx
 cases ry
 obtain⟨its,r,pl,hz⟩:=I.list (SqL.of (K:=X.K) hl)
 have e:=refs_vals r
 refine SeqAt.in_listAt (eqW H w) pl.isList (fun y hy=>?_) ⟨.bl _,H,I,rfl,?_⟩
 ·have hy':y∈its:=by simpa using hy
  rw[e]at hy'
  obtain⟨p,hpm,rfl⟩:=List.mem_map.mp hy'
  obtain⟨i,hi⟩:=List.mem_iff_getElem?.mp hpm
  obtain⟨a,_,ha⟩:=paired_at' hp hi
  exact eqAt_word hu I ha hq
 ·rw[show its.toArray.any (eqW H w)=its.any (eqW H w) by simp,e,any_eqW hp]
  exact k
def rIndexW:V→List V→Hp→VK→Prop:=fun x xs H Q=>∃(l q:Addr) (w:Bytes) (ws:List Bytes),x=V.ref l∧xs=[.ref q]∧Wds H l ws∧ws.length≤16500∧TupAt H q w∧w∈ws∧Q (.int ((ws.idxOf w:Nat):Int)) H
theorem mt_indexW(hu:X.A.units+64<cLine):MtR X "list.index" rIndexW:=by
 intro pins s σ H x xs v us Q I rx rxs h
 obtain⟨l,q,w,ws,rfl,rfl,⟨ps,hl,hp⟩,h16,hq,hw,k⟩:=h
 cases rx
 cases rxs with
 |cons ry rt=>
  cases ry
  cases rt
  obtain⟨its,rv,⟨⟨cls,dd,data,sl⟩,n,ho,hc,hdn,hd⟩,hlen⟩:=I.list (SqL.of (K:=X.K) hl)
  simp only at hc hd
  subst hc hd
  have e:=refs_vals rv
  subst e
  have hpl:=Paired.length hp
  have hj:ws.idxOf w<ws.length:=List.idxOf_lt_length_of_mem hw
  obtain⟨pj,hpj,hTj⟩:=paired_at hp (List.getElem?_eq_getElem hj)
  have hjs:ws.idxOf w< (ps.map fun p=>Value.ref p).toArray.size:=by simp[hpl,hj]
  refine call_meets PySem.F.slot_list_index ⟨_,ho,rfl⟩ PySem.F.entry_list_index (PySem.F.args_list_index_2 _ _)
   (SeqAt.list_indexAt l (ps.map fun p=>Value.ref p).toArray n dd sl (.ref q) (eqW H w) (ws.idxOf w) hjs (by omega) ?_ ?_) ⟨ho,fun u' hu'=>?_,?_⟩
  ·have e1:(ps.map fun p=>Value.ref p).toArray[ws.idxOf w]=Value.ref pj:=by
    have:=(List.getElem?_eq_some_iff.mp hpj).2
    simp[this]
   rw[e1,eqW_at hTj]
   exact decide_eq_true (by rw[List.getElem_idxOf])
  ·intro m hm hmj
   have hml:m<ws.length:=by omega
   obtain⟨pm,hpm,hTm⟩:=paired_at hp (List.getElem?_eq_getElem hml)
   have e1:(ps.map fun p=>Value.ref p).toArray[m]=Value.ref pm:=by
    have:=(List.getElem?_eq_some_iff.mp hpm).2
    simp[this]
   rw[e1,eqW_at hTm]
   refine decide_eq_false fun z=>?_
   have:=List.not_of_lt_findIdx (p:=(· ==w)) (xs:=ws) (i:=m) hmj
   simp[z]at this
  ·have hy':u'∈ps.map fun p=>Value.ref p:=by simpa using hu'
   obtain⟨p,hpm,rfl⟩:=List.mem_map.mp hy'
   obtain⟨i,hi⟩:=List.mem_iff_getElem?.mp hpm
   obtain⟨a,_,ha⟩:=paired_at' hp hi
   exact eqAt_word hu I ha hq
  ·exact⟨.int ((ws.idxOf w:Nat):Int),H,I.tok _,⟨_,rfl⟩,k⟩
end
end Ck
namespace Cc
open Ls
open Ck hiding Bytes
abbrev Ii:=Nat×List Int
def OPN:List (Bytes×Nat):=[([43],6),([45],7),([42],8),([47],9),([37],10),([60],11),([61],12),([33],13)]
def numVal(w:Bytes):Int:=if w.head? =some 45 then -(valueOf (digits w):Int)else(valueOf (digits w):Int)
def varIns(ps:List Bytes)(w:Bytes)(own shared:Nat):Ii:=if w∈ps then(own,[((ps.idxOf w:Nat):Int)])else(shared,[((w.headD 0).toNat:Int) -97])
def wordIns(ps:List Bytes)(w:Bytes):Ii:=match OPN.lookup w with
 |some n=>(n,[])
 |none=>if isVar w then varIns ps w 4 2 else(1,[numVal w])
def readyP(ps:List Bytes):List Bytes→List (List Ii)
 |[]=>[]
 |w::r=>(((readyP ps r).take (opsW w).toNat).flatten++[wordIns ps w])::(readyP ps r).drop (opsW w).toNat
def stepsP(ps:List Bytes)(ws:List Bytes):List Ii:=(readyP ps ws).flatten
theorem ready_len(ps:List Bytes):∀(ws:List Bytes) (m:Nat),exprsP (m:Int) ws=true→(readyP ps ws).length=m∧∀w∈ws,0≤opsW w
 |[],m,h=>by
  simp[exprsP]at h
  exact⟨by simp[readyP];omega,by simp⟩
 |w::r,m,h=>by
  rw[exprsP]at h
  by_cases c:(m:Int)=0∨opsW w<0
  ·rw[if_pos c]at h;cases h
  ·rw[if_neg c]at h
   have c1:¬((m:Int)=0):=fun z=>c (.inl z)
   have c2:¬(opsW w<0):=fun z=>c (.inr z)
   have e:(m:Int) -1+opsW w=((m-1+ (opsW w).toNat:Nat):Int):=by omega
   rw[e]at h
   obtain⟨h1,h2⟩:=ready_len ps r _ h
   refine⟨?_,fun x hx=>?_⟩
   ·rw[readyP,List.length_cons,List.length_drop,h1];omega
   ·rcases List.mem_cons.mp hx with z | z
    ·subst z;omega
    ·exact h2 x z
def varI(vs:List Nat)(v:Nat)(own shared:Nat):Ii:=match vs.findIdx? fun(x:Nat)=>x==v with
 |some i=>(own,[(i:Int)])
 |none=>(shared,[(v:Int)])
def exprI(vs:List Nat):Expr→List Ii
 |.num n=>[(1,[n])]
 |.var v=>[varI vs v 4 2]
 |.bin o a b=>exprI vs a++(exprI vs b++[(6+o,[])])
 |.not a=>exprI vs a++[(13,[])]
theorem varOf_head{w:Bytes}{v:Nat}(h:varOf w=some v):∃c:UInt8,w=[c]∧(c.toNat:Int) -97=(v:Int):=by
 match w with
 |[]=>cases h
 |_::_::_=>cases h
 |[c]=>
  simp only[varOf]at h
  split at h
  ·have:=Option.some.inj h
   exact⟨c,rfl,by omega⟩
  ·cases h
theorem vars_idx{w:Bytes}{v:Nat}(hv:varOf w=some v):∀(ps:List Bytes) (vs:List Nat),varsOf ps=some vs→
  (w∈ps∧vs.findIdx? (fun(x:Nat)=>x==v)=some (ps.idxOf w))∨(w∉ps∧vs.findIdx? (fun(x:Nat)=>x==v)=none)
 |[],vs,h=>by cases h;right;exact⟨by simp,rfl⟩
 |p::r,vs,h=>by
  rw[varsOf]at h
  cases hp:varOf p with
  |none=>rw[hp]at h;cases h
  |some u=>
   cases hr:varsOf r with
   |none=>rw[hp,hr]at h;cases h
   |some l=>
    rw[hp,hr]at h
    cases h
    by_cases e:w=p
    ·subst e
     have:u=v:=Option.some.inj (hp.symm.trans hv)
     subst this
     left
     exact⟨by simp,by simp[List.findIdx?_cons,List.idxOf_cons]⟩
    ·have hu:(u==v)=false:=by simpa using fun z=>e (varOf_inj hv (by rw[←z];exact hp))
     have hpw:(p==w)=false:=by simpa using fun z=>e z.symm
     rcases vars_idx hv r l hr with⟨h1,h2⟩ | ⟨h1,h2⟩
     ·left
      refine⟨by simp[h1],?_⟩
      rw[List.findIdx?_cons,hu,h2,List.idxOf_cons,hpw]
      rfl
     ·right
      refine⟨by simp[h1,e],?_⟩
      rw[List.findIdx?_cons,hu,h2];rfl
theorem varIns_eq{w:Bytes}{v:Nat}(hv:varOf w=some v){ps:List Bytes}{vs:List Nat}(h:varsOf ps=some vs)(own shared:Nat):varIns ps w own shared=varI vs v own shared:=by
 unfold varIns varI
 rcases vars_idx hv ps vs h with⟨h1,h2⟩ | ⟨h1,h2⟩
 ·rw[if_pos h1,h2]
 ·rw[if_neg h1,h2]
  obtain⟨c,rfl,hc⟩:=varOf_head hv
  show(shared,[((c.toNat:Int) -97)])=_
  rw[hc]
theorem opn_none{w:Bytes}(h:0=opsW w):OPN.lookup w=none:=by
 unfold opsW at h
 cases e:OPN.lookup w with
 |none=>rfl
 |some n=>
  exfalso
  have ho:∃k,OPS.lookup w=some k∧0<k:=by
   by_cases h43:w=[43];· subst h43;exact⟨2,rfl,by decide⟩
   by_cases h45:w=[45];· subst h45;exact⟨2,rfl,by decide⟩
   by_cases h42:w=[42];· subst h42;exact⟨2,rfl,by decide⟩
   by_cases h47:w=[47];· subst h47;exact⟨2,rfl,by decide⟩
   by_cases h37:w=[37];· subst h37;exact⟨2,rfl,by decide⟩
   by_cases h60:w=[60];· subst h60;exact⟨2,rfl,by decide⟩
   by_cases h61:w=[61];· subst h61;exact⟨2,rfl,by decide⟩
   by_cases h33:w=[33];· subst h33;exact⟨1,rfl,by decide⟩
   exfalso
   have t:∀x:Bytes,¬w=x→(w==x)=false:=fun x h=>by simpa using h
   simp[OPN,List.lookup,t _ h43,t _ h45,t _ h42,t _ h47,t _ h37,t _ h60,t _ h61,t _ h33]at e
  obtain⟨k,hk,hp⟩:=ho
  rw[hk]at h
  simp at h
  omega
theorem op_word{w:Bytes}{o:Nat}(h:opOf w=some o):o≤6∧OPN.lookup w=some (6+o)∧opsW w=2:=by
 by_cases h43:w=[43];· subst h43;cases h;decide
 by_cases h45:w=[45];· subst h45;cases h;decide
 by_cases h42:w=[42];· subst h42;cases h;decide
 by_cases h47:w=[47];· subst h47;cases h;decide
 by_cases h37:w=[37];· subst h37;cases h;decide
 by_cases h60:w=[60];· subst h60;cases h;decide
 by_cases h61:w=[61];· subst h61;cases h;decide
 exfalso
 unfold opOf at h
 have:∀x:Bytes,¬w=x→(x==w)=false:=fun x h=>by simpa using fun e=>h e.symm
 simp[List.findIdx?,List.findIdx?.go,this _ h43,this _ h45,this _ h42,this _ h47,this _ h37,this _ h60,this _ h61]at h
theorem number_val{w:Bytes}{z:Int}(h:numberOf w=some z):numVal w=z:=by
 unfold numberOf at h
 split at h
 ·rw[As.whole_eq]at h
  split at h
  ·exact Option.some.inj h
  ·cases h
 ·cases h
theorem wordIns_num{ps:List Bytes}{w:Bytes}{z:Int}(h:numberOf w=some z)(hv:varOf w=none):wordIns ps w=(1,[z]):=by
 have h0:opsW w=0:=by rw[opsW_look];unfold look;rw[h];rfl
 unfold wordIns
 rw[opn_none h0.symm]
 show(if isVar w=true then _ else _)=_
 rw[yT,hv,if_neg (by decide),number_val h]
theorem num_novar{w:Bytes}{z:Int}(h:numberOf w=some z):varOf w=none:=by
 cases hv:varOf w with
 |none=>rfl
 |some v=>
  exfalso
  obtain⟨c,rfl,hc⟩:=varOf_head hv
  have hn:isNum [c]=true:=by rw[isNum_iff,h];rfl
  unfold isNum at hn
  simp only[Bool.and_eq_true,decide_eq_true_eq]at hn
  obtain⟨⟨h1,_⟩,h2⟩:=hn
  unfold digits at h1 h2
  by_cases e:([c]:Bytes).head? =some 45
  ·rw[if_pos e]at h1;simp at h1
  ·rw[if_neg e]at h2
   simp[isDigit]at h2
   omega
theorem wordIns_var{ps:List Bytes}{vs:List Nat}{w:Bytes}{v:Nat}(hp:varsOf ps=some vs)(hn:numberOf w=none)(h:varOf w=some v):wordIns ps w=varI vs v 4 2:=by
 have h0:opsW w=0:=by rw[opsW_look];unfold look;rw[hn,h];rfl
 unfold wordIns
 rw[opn_none h0.symm]
 show(if isVar w=true then _ else _)=_
 rw[yT,h,if_pos (by rfl),varIns_eq h hp]
theorem ready_expr{ps:List Bytes}{vs:List Nat}(hp:varsOf ps=some vs):∀(n:Nat) (ws:List Bytes) (e:Expr) (r:List Bytes),expr n ws=some (e,r)→readyP ps ws=exprI vs e::readyP ps r
 |0,ws,e,r,h=>by cases ws<;>simp[expr]at h
 |n+1,[],e,r,h=>by simp[expr]at h
 |n+1,w::t,e,r,h=>by
  rw[expr]at h
  rw[readyP]
  cases hn:numberOf w with
  |some z=>
   rw[hn]at h
   simp only[Option.some.injEq,Prod.mk.injEq]at h
   obtain⟨rfl,rfl⟩:=h
   have h0:opsW w=0:=by rw[opsW_look];unfold look;rw[hn];rfl
   rw[h0,wordIns_num hn (num_novar hn)]
   rfl
  |none=>
   rw[hn]at h
   cases hv:varOf w with
   |some v=>
    rw[hv]at h
    simp only[Option.some.injEq,Prod.mk.injEq]at h
    obtain⟨rfl,rfl⟩:=h
    have h0:opsW w=0:=by rw[opsW_look];unfold look;rw[hn,hv];rfl
    rw[h0,wordIns_var hp hn hv]
    rfl
   |none=>
    rw[hv]at h
    cases ho:opOf w with
    |some o=>
     rw[ho]at h
     simp only at h
     obtain⟨o6,e1,e2⟩:=op_word ho
     cases h1:expr n t with
     |none=>rw[h1]at h;cases h
     |some x=>
      obtain⟨x1,x2⟩:=x
      rw[h1]at h
      simp only[Option.bind_some]at h
      cases h2:expr n x2 with
      |none=>rw[h2]at h;cases h
      |some y=>
       obtain⟨y1,y2⟩:=y
       rw[h2]at h
       simp only[Option.map_some,Option.some.injEq,Prod.mk.injEq]at h
       obtain⟨rfl,rfl⟩:=h
       rw[ready_expr hp n t x1 x2 h1,ready_expr hp n x2 y1 y2 h2,e2]
       unfold wordIns
       rw[e1]
       simp[exprI]
    |none=>
     rw[ho]at h
     simp only at h
     by_cases h33:w=[33]
     ·rw[if_pos h33]at h
      subst h33
      cases h1:expr n t with
      |none=>rw[h1]at h;cases h
      |some x=>
       obtain⟨x1,x2⟩:=x
       rw[h1]at h
       simp only[Option.map_some,Option.some.injEq,Prod.mk.injEq]at h
       obtain⟨rfl,rfl⟩:=h
       rw[ready_expr hp n t x1 x2 h1]
       have e2:opsW [33]=1:=by decide
       have e1:wordIns ps [33]=(13,[]):=rfl
       rw[e2,e1]
       simp[exprI]
     ·rw[if_neg h33]at h;cases h
theorem steps_one{ps:List Bytes}{vs:List Nat}(hp:varsOf ps=some vs){ws:List Bytes}{e:Expr}(h:one ws=some e):stepsP ps ws=exprI vs e:=by
 unfold one at h
 cases h1:expr (ws.length+1) ws with
 |none=>rw[h1]at h;cases h
 |some x=>
  obtain⟨x1,x2⟩:=x
  rw[h1]at h
  simp only[Option.bind_some]at h
  by_cases c:x2=[]
  ·rw[if_pos c]at h
   subst c
   cases h
   unfold stepsP
   rw[ready_expr hp _ _ _ _ h1]
   simp[readyP]
  ·rw[if_neg c]at h;cases h
theorem steps_several{ps:List Bytes}{vs:List Nat}(hp:varsOf ps=some vs):∀(n:Nat) (ws:List Bytes) (es:List Expr),several n ws=some es→stepsP ps ws=es.flatMap (exprI vs)
 |0,ws,es,h=>by cases ws<;>simp[several]at h
 |n+1,[],es,h=>by
  simp[several]at h
  subst h
  rfl
 |n+1,w::r,es,h=>by
  rw[several]at h
  cases h1:expr (r.length+2) (w::r)with
  |none=>rw[h1]at h;cases h
  |some x=>
   obtain⟨x1,x2⟩:=x
   rw[h1]at h
   simp only[Option.bind_some]at h
   cases h2:several n x2 with
   |none=>rw[h2]at h;cases h
   |some l=>
    rw[h2]at h
    cases h
    have:=steps_several hp n x2 l h2
    unfold stepsP at this ⊢
    rw[ready_expr hp _ _ _ _ h1,List.flatten_cons,this]
    rfl
end Cc
namespace Cc
open Ls
open Ck hiding Bytes
inductive Rd (ar:Nat→Option Nat):List Bytes→L→Prop
 |skip {ws}:kindOf ws=.nothing→Rd ar ws .skip
 |set {v t x e}:varOf v=some x→one t=some e→Rd ar ([115,101,116]::v::t) (.set x e)
 |get {v x}:varOf v=some x→Rd ar [[103,101,116],v] (.get x)
 |put {t e}:one t=some e→Rd ar ([112,117,116]::t) (.put e)
 |cond {t e}:one t=some e→Rd ar ([105,102]::t) (.cond e)
 |loop {t e}:one t=some e→Rd ar ([119,104,105,108,101]::t) (.loop e)
 |els:Rd ar [[101,108,115,101]] .els
 |ends:Rd ar [[101,110,100]] .ends
 |stop:Rd ar [[115,116,111,112]] .halt_
 |proc {q vs p l}:procOf q=some p→varsOf vs=some l→Rd ar ([112,114,111,99]::q::vs) (.proc p l)
 |call {q es p l}:procOf q=some p→several (es.length+1) es=some l→ar p=some l.length→Rd ar ([100,111]::q::es) (.call p l)
theorem rd_of{ar:Nat→Option Nat}{T:List (Bytes×Nat)}(hT:Told ar T){ws:List Bytes}(h:isWr T ws=true):Rd ar ws (lineW ws):=by
 by_cases hw:WORDS<ws.length
 ·unfold isWr at h
  rw[if_pos (show 60<ws.length from hw)]at h;cases h
 have hw':¬60<ws.length:=hw
 match ws with
 |[]=>exact .skip rfl
 |w::r=>
  rcases kind_cases w r with⟨k,e⟩ | ⟨h0,⟨k,e⟩ | ⟨k,e⟩ | ⟨k,e⟩ | ⟨k,e⟩ | ⟨k,e⟩ | ⟨k,e⟩ | ⟨k,e⟩ | ⟨k,e⟩ | ⟨k,e⟩ | ⟨k,e⟩ | ⟨k,e⟩⟩
  ·rw[lw_hash e hw];exact .skip k
  ·subst e
   rw[lw_set hw]
   cases r with
   |nil=>cases h
   |cons v t=>
    have hwr:isWr T ([115,101,116]::v::t)=(isVar v&&exprsP 1 t):=by rw[isWr,if_neg hw',k];simp
    rw[hwr,yT,one_iff,Bool.and_eq_true]at h
    obtain⟨x,hx⟩:=Option.isSome_iff_exists.mp h.1
    obtain⟨y,hy⟩:=Option.isSome_iff_exists.mp h.2
    rw[mSet,hx,hy]
    exact .set hx hy
  ·subst e
   rw[lw_get hw]
   match r with
   |[]=>cases h
   |[v]=>
    have hwr:isWr T ([103,101,116]::[v])=isVar v:=by rw[isWr,if_neg hw',k];simp
    rw[hwr,yT]at h
    obtain⟨x,hx⟩:=Option.isSome_iff_exists.mp h
    rw[mGet,hx]
    exact .get hx
   |a::b::t=>
    rw[isWr,if_neg hw',k]at h;simp at h
  ·subst e
   rw[lw_put hw]
   have hwr:isWr T ([112,117,116]::r)=exprsP 1 r:=by rw[isWr,if_neg hw',k];simp
   rw[hwr,one_iff]at h
   obtain⟨y,hy⟩:=Option.isSome_iff_exists.mp h
   rw[hy];exact .put hy
  ·subst e
   rw[lw_if hw]
   have hwr:isWr T ([105,102]::r)=exprsP 1 r:=by rw[isWr,if_neg hw',k];simp
   rw[hwr,one_iff]at h
   obtain⟨y,hy⟩:=Option.isSome_iff_exists.mp h
   rw[hy];exact .cond hy
  ·subst e
   rw[lw_else hw]
   cases r with
   |cons a t=>rw[isWr,if_neg hw',k]at h;simp at h
   |nil=>exact .els
  ·subst e
   rw[lw_while hw]
   have hwr:isWr T ([119,104,105,108,101]::r)=exprsP 1 r:=by rw[isWr,if_neg hw',k];simp
   rw[hwr,one_iff]at h
   obtain⟨y,hy⟩:=Option.isSome_iff_exists.mp h
   rw[hy];exact .loop hy
  ·subst e
   have hwr:isWr T ([112,114,111,99]::r)=isProcL ([112,114,111,99]::r):=by rw[isWr,if_neg hw',k]
   rw[hwr]at h
   rw[lw_proc hw]
   obtain⟨q,vs,e,hl4⟩:=proc_words _ h
   cases e
   unfold isProcL at h
   simp only[Bool.and_eq_true,decide_eq_true_eq]at h
   obtain⟨⟨⟨⟨⟨_,_⟩,h3⟩,h4⟩,h5⟩,h6⟩:=h
   have h3':isPro q=true:=h3
   rw[isPro_iff]at h3'
   obtain⟨p,hp⟩:=Option.isSome_iff_exists.mp h3'
   obtain⟨l,l1,l2,l3,_⟩:=varsOf_some vs h6
   rw[mProc,hp,l1]
   have h5':vs.Nodup:=h5
   have:l.length≤4∧distinct l=true:=⟨by omega,by rw[l3];exact decide_eq_true h5'⟩
   simp only[Option.bind_some]
   rw[if_pos this]
   exact .proc hp l1
  ·subst e
   rw[lw_end hw]
   cases r with
   |cons a t=>rw[isWr,if_neg hw',k]at h;simp at h
   |nil=>exact .ends
  ·subst e
   rw[lw_do hw]
   cases r with
   |nil=>cases h
   |cons p es=>
    have hwr:isWr T ([100,111]::p::es)=(match T.lookup p with
      |some j=>exprsP j es
      |none=>false):=by
     rw[isWr,if_neg hw',k]
     show isDoL T _=_
     unfold isDoL
     simp
     all_goals (cases List.lookup p T<;>rfl)
    rw[hwr]at h
    cases h1:procOf p with
    |none=>rw[hT.no p h1]at h;cases h
    |some x=>
     rw[hT.yes p x h1]at h
     cases h3:ar x with
     |none=>rw[h3]at h;cases h
     |some j=>
      rw[h3]at h
      have h':exprsP (j:Int) es=true:=h
      rw[several_iff (es.length+1) es (Nat.lt_succ_self _) j]at h'
      have h2:=of_decide_eq_true h'
      cases h4:several (es.length+1) es with
      |none=>rw[h4]at h2;cases h2
      |some l=>
       rw[h4]at h2
       have h5:l.length=j:=Option.some.inj h2
       rw[mDo,h1,h4]
       exact .call h1 h4 (by rw[h3,h5])
  ·subst e
   rw[lw_stop hw]
   cases r with
   |cons a t=>rw[isWr,if_neg hw',k]at h;simp at h
   |nil=>exact .stop
  ·rw[isWr,if_neg hw',k]at h;cases h
def putB{α:Type}(T:List (Bytes×α))(w:Bytes)(a:α):List (Bytes×α):=if(T.lookup w).isSome then T.map fun p=>if p.1=w then(w,a)else p else T++[(w,a)]
theorem putB_lookup{α:Type}(T:List (Bytes×α))(w q:Bytes)(a:α):(putB T w a).lookup q=if q=w then some a else T.lookup q:=by
 unfold putB
 by_cases h:(T.lookup w).isSome=true
 ·rw[if_pos h]
  induction T with
  |nil=>cases h
  |cons x r ih=>
   obtain⟨y,b⟩:=x
   rw[List.map_cons]
   by_cases e:y=w
   ·subst e
    rw[if_pos rfl]
    by_cases e2:q=y
    ·subst e2;rw[if_pos rfl,List.lookup_cons_self]
    ·have:(q==y)=false:=by simpa using e2
     rw[if_neg e2,List.lookup_cons,this,List.lookup_cons,this]
     by_cases h3:(r.lookup y).isSome=true
     ·have:=ih h3;rw[if_neg e2]at this;exact this
     ·have key:∀(r:List (Bytes×α)),¬(r.lookup y).isSome=true→(r.map fun p=>if p.1=y then(y,a)else p)=r:=by
       intro r
       induction r with
       |nil=>intro _;rfl
       |cons z t iht=>
        intro hz
        obtain⟨z1,z2⟩:=z
        rw[List.lookup_cons]at hz
        by_cases e3:y=z1
        ·have:(y==z1)=true:=by simpa using e3
         rw[this]at hz;exact absurd rfl hz
        ·have h4:(y==z1)=false:=by simpa using e3
         rw[h4]at hz
         rw[List.map_cons,if_neg (fun z=>e3 z.symm),iht hz]
      rw[key r h3]
   ·rw[if_neg e]
    have hw:(w==y)=false:=by simpa using fun z=>e z.symm
    rw[List.lookup_cons,hw]at h
    rw[List.lookup_cons,List.lookup_cons,ih h]
    by_cases e2:q=y
    ·subst e2
     simp[e]
    ·have:(q==y)=false:=by simpa using e2
     rw[this]
 ·rw[if_neg h]
  have hn:T.lookup w=none:=by
   cases e:T.lookup w with
   |none=>rfl
   |some v=>rw[e]at h;exact absurd rfl h
  rw[List.lookup_append]
  by_cases e:q=w
  ·subst e
   rw[if_pos rfl,hn]
   simp
  ·rw[if_neg e]
   have:(q==w)=false:=by simpa using e
   simp[List.lookup,this]
def procsP:Nat→List (Bytes× (Nat×Nat))→List (List Bytes)→List (Bytes× (Nat×Nat))
 |_,T,[]=>T
 |k,T,ws::r=>procsP (k+1) (if kindOf ws=.proc then putB T (ws.getD 1 []) (k+1,ws.length-2)else T) r
theorem scan_zero{T:List (Bytes×Nat)}{n:Nat}{bl:List Kd}{bg:List Bytes}{ws:List Bytes}{r:List (List Bytes)}(hn:n≠0)(h:scanP T n bl bg (ws::r)=0):isWr T ws=true∧allowsP bl bg ws=true∧scanP T (n+1) (blAfter bl ws) (bgAfter bg ws) r=0:=by
 rw[scanP]at h
 cases h1:isWr T ws with
 |false=>rw[h1]at h;exact absurd h hn
 |true=>
  cases h2:allowsP bl bg ws with
  |false=>rw[h1,h2]at h;exact absurd h hn
  |true=>rw[h1,h2]at h;exact⟨rfl,rfl,h⟩
theorem procs_lookup{T:List (Bytes×Nat)}{q:Bytes}{p:Nat}(hp:procOf q=some p):∀(Ws:List (List Bytes)) (n k:Nat) (bl:List Kd) (bg:List Bytes) (R:List (Bytes× (Nat×Nat))),n≠0→scanP T n bl bg Ws=0→
  (procsP k R Ws).lookup q=if q∈bg then R.lookup q else((procAt p k (Ws.map lineW)).map fun x=>(x.1+1,x.2.length)).or (R.lookup q)
 |[],n,k,bl,bg,R,hn,h=>by
  rw[procsP,List.map_nil,procAt]
  simp
 |ws::r,n,k,bl,bg,R,hn,h=>by
  obtain⟨h1,h2,h3⟩:=scan_zero hn h
  rw[procsP,procs_lookup hp r (n+1) (k+1) _ _ _ (by omega) h3,List.map_cons]
  by_cases c:kindOf ws=.proc
  ·rw[if_pos c]
   have hpl:isProcL ws=true:=by
    unfold isWr at h1
    rw[c]at h1
    split at h1
    ·cases h1
    ·exact h1
   rcases proc_iff ws with⟨_,q',vs,e1,e2,e3⟩ | ⟨e0,_⟩
   ·have hb:bgAfter bg ws=bg++[ws.getD 1 []]:=by unfold bgAfter;rw[c]
    have hnb:ws.getD 1 []∉bg:=by
     unfold allowsP at h2
     rw[c]at h2
     simp only[Bool.and_eq_true]at h2
     have:=h2.2
     simpa using this
    rw[hb,putB_lookup,e1,procAt]
    by_cases e:q=ws.getD 1 []
    ·have eq:q'=p:=by rw[←e,hp]at e2;exact(Option.some.inj e2).symm
     rw[if_pos (by rw[e];simp),if_pos e,if_neg (by rw[e];exact hnb),if_pos eq]
     simp[e3]
    ·have eq:¬q'=p:=fun z=>e (procOf_inj hp (by rw[←z];exact e2))
     rw[if_neg e,if_neg eq]
     by_cases m:q∈bg
     ·rw[if_pos (by simp[m]),if_pos m]
     ·rw[if_neg (by simp[m];exact e),if_neg m]
   ·rw[hpl]at e0;cases e0
  ·rw[if_neg c]
   have hb:bgAfter bg ws=bg:=by unfold bgAfter;split<;>first | rfl | (rename_i e;exact absurd e c)
   have hnp:∀q vs,lineW ws≠.proc q vs:=by
    rcases proc_iff ws with⟨e0,_⟩ | ⟨_,e⟩
    ·unfold isProcL at e0
     simp only[Bool.and_eq_true,decide_eq_true_eq]at e0
     exact absurd e0.1.1.1.1.1 c
    ·exact e
   rw[hb,procAt_other hnp]
end Cc
namespace Cc
open Ls
open Ck hiding Bytes
inductive KE where
 |of (k:Kd)
 |ew
 |ep
 deriving DecidableEq
structure Ln where
 kind:KE
 steps:List Ii
 store:Option Ii
 target:Option Nat
 amount:Nat
abbrev PrT:=List (Bytes× (Nat×Nat))
def fillP(R:PrT)(ps:List Bytes)(ws:List Bytes):Ln:=match kindOf ws with
 |.put=>⟨.of .put,stepsP ps (ws.drop 1),none,none,0⟩
 |.if_=>⟨.of .if_,stepsP ps (ws.drop 1),none,none,0⟩
 |.while_=>⟨.of .while_,stepsP ps (ws.drop 1),none,none,0⟩
 |.set=>⟨.of .set,stepsP ps (ws.drop 2),some (varIns ps (ws.getD 1 []) 5 3),none,0⟩
 |.get=>⟨.of .get,[],some (varIns ps (ws.getD 1 []) 5 3),none,0⟩
 |.do_=>⟨.of .do_,stepsP ps (ws.drop 2),none,some (((R.lookup (ws.getD 1 [])).getD (0,0)).1),((R.lookup (ws.getD 1 [])).getD (0,0)).2⟩
 |k=>⟨.of k,[],none,none,0⟩
structure Bd where
 lines:List Ln
 heads:List Nat
 params:List Bytes
def setT(t:Nat)(l:Ln):Ln:={ l with target:=some t }
def closeP(B:Bd)(h:Nat)(hs:List Nat)(l:Ln):Bd:=
 let n:=B.lines.length
 let ls:=B.lines.modify h (setT (n+1))
 match (B.lines.getD h l).kind with
 |.of .while_=>⟨ls++[{ l with kind:=.ew,target:=some h }],hs,B.params⟩
 |.of .proc=>⟨ls++[{ l with kind:=.ep }],hs,[]⟩
 |_=>⟨ls++[l],hs,B.params⟩
def takeP(R:PrT)(B:Bd)(ws:List Bytes):Bd:=
 let n:=B.lines.length
 let l:=fillP R B.params ws
 match kindOf ws with
 |.if_=>⟨B.lines++[l],n::B.heads,B.params⟩
 |.while_=>⟨B.lines++[l],n::B.heads,B.params⟩
 |.proc=>⟨B.lines++[l],n::B.heads,ws.drop 2⟩
 |.else_=>(match B.heads with
  |h::hs=>⟨B.lines.modify h (setT (n+1))++[l],n::hs,B.params⟩
  |[]=>B)
 |.end_=>(match B.heads with
  |h::hs=>closeP B h hs l
  |[]=>B)
 |_=>⟨B.lines++[l],B.heads,B.params⟩
def buildP(R:PrT):Bd→List (List Bytes)→Bd
 |B,[]=>B
 |B,ws::r=>buildP R (takeP R B ws) r
def lineIs(l:Ln)(i:Nat):List Ii:=
 let told:Ii:=(20,[((i+1:Nat):Int)])
 let st:List Ii:=match l.store with | some x=>[x] | none=>[]
 let tg:Int:=((l.target.getD 0:Nat):Int)
 match l.kind with
 |.of .set=>told::(l.steps++st)
 |.of .get=>(19,[])::st
 |.of .put=>told::(l.steps++[(18,[])])
 |.of .if_=>told::(l.steps++[(15,[tg])])
 |.of .while_=>told::(l.steps++[(15,[tg])])
 |.of .else_=>[(14,[tg])]
 |.ew=>[(14,[tg])]
 |.of .proc=>[(14,[tg])]
 |.ep=>[(17,[])]
 |.of .do_=>told::(l.steps++[(16,[tg,(l.amount:Int)])])
 |.of .stop=>[(0,[])]
 |_=>[]
def specI(P:List L)(i:Nat):List Ii:=
 let vs:=inProc P i
 let told:Ii:=(20,[((i+1:Nat):Int)])
 match P.getD i .wrong with
 |.set v e=>told::(exprI vs e++[varI vs v 5 3])
 |.get v=>[(19,[]),varI vs v 5 3]
 |.put e=>told::(exprI vs e++[(18,[])])
 |.cond e=>told::(exprI vs e++[(15,[((elseOf P i+1:Nat):Int)])])
 |.els=>[(14,[((close P i+1:Nat):Int)])]
 |.loop e=>told::(exprI vs e++[(15,[((close P i+1:Nat):Int)])])
 |.ends=>(match (opener P i).bind fun(j:Nat)=>P[j]? with
  |some (.loop _)=>[(14,[(((opener P i).getD 0:Nat):Int)])]
  |some (.proc _ _)=>[(17,[])]
  |_=>[])
 |.proc _ _=>[(14,[((close P i+1:Nat):Int)])]
 |.call p es=>told::(es.flatMap (exprI vs)++[(16,[((((procAt p 0 P).map fun(x:Nat×List Nat)=>x.1).getD 0+1:Nat):Int),(es.length:Int)])])
 |.halt_=>[(0,[])]
 |_=>[]
def dueT(P:List L)(h:Nat):Nat:=match P[h]? with
 |some (.cond _)=>elseOf P h+1
 |_=>close P h+1
def blockK(P:List L)(o h:Nat):Kd→Prop
 |.if_=>h=o∧∃e,P[o]? =some (.cond e)
 |.else_=>o<h∧(∃e,P[o]? =some (.cond e))∧P[h]? =some .els
 |.while_=>h=o∧∃e,P[o]? =some (.loop e)
 |.proc=>h=o∧∃p vs,P[o]? =some (.proc p vs)
 |_=>False
structure BlockOk (P:List L) (B:Bd) (k d:Nat) (o h:Nat) (kd:Kd):Prop where
 kd_:blockK P o h kd
 lt:h<k
 cl:close P o=k+closeIn d (P.drop k)
 clh:close P h=k+closeIn d (P.drop k)
 el:kd=.if_→elseOf P o=k+elseIn d (P.drop k)
 ln:∃l,B.lines[h]? =some l∧l.kind=.of kd∧lineIs (setT (dueT P h) l) h=specI P h
def ParOk(P:List L)(ps:List Bytes)(S:List (Nat×Nat)):Prop:=match S.getLast? with
 |some (o,_)=>(match P[o]? with
  |some (.proc _ vs)=>varsOf ps=some vs
  |_=>ps=[])
 |none=>ps=[]
structure BInv (P:List L) (B:Bd) (k:Nat) (bl:List Kd) (S:List (Nat×Nat)):Prop where
 len:B.lines.length=k
 hd:B.heads=S.map (·.2)
 sl:S.length=bl.length
 blk:∀(d o h:Nat) (kd:Kd),S[d]? =some (o,h)→bl.reverse[d]? =some kd→BlockOk P B k d o h kd
 dec:(S.map (·.2)).Pairwise (· > ·)
 done:∀j:Nat,j<k→j∉B.heads→∃l,B.lines[j]? =some l∧lineIs l j=specI P j
 shut:∀i:Nat,i<k→((P[i]?).map opens).getD false=true→(∃d h:Nat,S[d]? =some (i,h))∨close P i<k
 par:ParOk P B.params S
 bot:∀(d o h:Nat),S[d]? =some (o,h)→(∃p vs,P[o]? =some (.proc p vs))→d+1=S.length
theorem xH{P:List L}{k:Nat}{l:L}(h:P[k]? =some l):P.drop k=l::P.drop (k+1):=by
 obtain⟨h1,h2⟩:=List.getElem?_eq_some_iff.mp h
 rw[List.drop_eq_getElem_cons h1,h2]
section
variable {P:List L}{k:Nat}{l:L}
theorem cl_open(h:P[k]? =some l)(ho:opens l=true)(d:Nat):k+closeIn d (P.drop k)=k+1+closeIn (d+1) (P.drop (k+1)):=by
 rw[xH h]
 cases l<;>simp[opens,closeIn]at ho ⊢<;>omega
theorem el_open(h:P[k]? =some l)(ho:opens l=true)(d:Nat):k+elseIn d (P.drop k)=k+1+elseIn (d+1) (P.drop (k+1)):=by
 rw[xH h]
 cases l<;>simp[opens,elseIn]at ho ⊢<;>omega
theorem cl_end0(h:P[k]? =some .ends):k+closeIn 0 (P.drop k)=k:=by rw[xH h];simp[opens,closeIn]
theorem el_end0(h:P[k]? =some .ends):k+elseIn 0 (P.drop k)=k:=by rw[xH h];simp[opens,elseIn]
theorem cl_endS(h:P[k]? =some .ends)(d:Nat):k+closeIn (d+1) (P.drop k)=k+1+closeIn d (P.drop (k+1)):=by
 rw[xH h];simp[opens,closeIn];omega
theorem el_endS(h:P[k]? =some .ends)(d:Nat):k+elseIn (d+1) (P.drop k)=k+1+elseIn d (P.drop (k+1)):=by
 rw[xH h];simp[opens,elseIn];omega
theorem cl_else(h:P[k]? =some .els)(d:Nat):k+closeIn d (P.drop k)=k+1+closeIn d (P.drop (k+1)):=by
 rw[xH h];simp[opens,closeIn];omega
theorem el_else0(h:P[k]? =some .els):k+elseIn 0 (P.drop k)=k:=by rw[xH h];simp[opens,elseIn]
theorem el_elseS(h:P[k]? =some .els)(d:Nat):k+elseIn (d+1) (P.drop k)=k+1+elseIn (d+1) (P.drop (k+1)):=by
 rw[xH h];simp[opens,elseIn];omega
def plainL:L→Bool
 |.skip | .set _ _ | .get _ | .put _ | .call _ _ | .halt_=>true
 |_=>false
theorem cl_plain(h:P[k]? =some l)(hp:plainL l=true)(d:Nat):k+closeIn d (P.drop k)=k+1+closeIn d (P.drop (k+1)):=by
 rw[xH h]
 cases l<;>simp[opens,plainL,closeIn]at hp ⊢<;>omega
theorem el_plain(h:P[k]? =some l)(hp:plainL l=true)(d:Nat):k+elseIn d (P.drop k)=k+1+elseIn d (P.drop (k+1)):=by
 rw[xH h]
 cases l<;>simp[opens,plainL,elseIn]at hp ⊢<;>omega
end
theorem getD_at{P:List L}{k:Nat}{l:L}(h:P[k]? =some l):P.getD k .wrong=l:=by rw[List.getD_eq_getElem?_getD,h];rfl
def inTest(P:List L)(k j:Nat):Bool:=match P[j]? with
 |some (.proc _ _)=>decide (k<close P j)
 |_=>false
theorem inProc_eq(P:List L)(k:Nat):inProc P k=(match (List.range k).find? (inTest P k)with
 |some j=>(match P[j]? with
  |some (.proc _ vs)=>vs
  |_=>[])
 |none=>[]):=rfl
theorem inProc_of{P:List L}{B:Bd}{k:Nat}{bl:List Kd}{S:List (Nat×Nat)}(I:BInv P B k bl S)(hk:∀d,k<k+closeIn d (P.drop k)):varsOf B.params=some (inProc P k):=by
 have hpar:=I.par
 have nofind:(∀j,j<k→∀p vs,P[j]? =some (.proc p vs)→¬k<close P j)→inProc P k=[]:=by
  intro hno
  rw[inProc_eq]
  have:(List.range k).find? (inTest P k)=none:=by
   rw[List.find?_eq_none]
   intro j hj
   have hj':=List.mem_range.mp hj
   unfold inTest
   split
   ·rename_i p vs e
    simpa using hno j hj' p vs e
   ·simp
  rw[this]
 have key:∀j,j<k→∀p vs,P[j]? =some (.proc p vs)→k<close P j→∃h,S.getLast? =some (j,h):=by
  intro j hj p vs e hc
  rcases I.shut j hj (by rw[e];rfl)with⟨d,h,hd⟩ | hd
  ·have:=I.bot d j h hd ⟨p,vs,e⟩
   refine⟨h,?_⟩
   rw[List.getLast?_eq_getElem?,←hd]
   congr 1
   omega
  ·omega
 unfold ParOk at hpar
 cases hS:S.getLast? with
 |none=>
  rw[hS]at hpar
  rw[nofind (fun j hj p vs e hc=>by obtain⟨h,hh⟩:=key j hj p vs e hc;rw[hS]at hh;cases hh)]
  have:B.params=[]:=hpar
  rw[this];rfl
 |some x=>
  obtain⟨o,h⟩:=x
  rw[hS]at hpar
  have hsl:S≠[]:=fun z=>by rw[z]at hS;cases hS
  have hlen:0<S.length:=List.length_pos_iff.mpr hsl
  have hat:S[S.length-1]? =some (o,h):=by rw[←List.getLast?_eq_getElem?];exact hS
  have hb:S.length-1<bl.reverse.length:=by rw[List.length_reverse,←I.sl];omega
  have hblk:=I.blk (S.length-1) o h _ hat (List.getElem?_eq_getElem hb)
  have hoh:o≤h:=by
   have:=hblk.kd_
   revert this
   generalize bl.reverse[S.length-1]=kd
   intro this
   cases kd<;>first | exact this.elim | exact Nat.le_of_eq this.1.symm | exact Nat.le_of_lt this.1
  have hok:o<k:=Nat.lt_of_le_of_lt hoh hblk.lt
  by_cases c:∃p vs,P[o]? =some (.proc p vs)
  ·obtain⟨p,vs,e⟩:=c
   simp only[e]at hpar
   have hcl:k<close P o:=by rw[hblk.cl];exact hk _
   have hf:(List.range k).find? (inTest P k)=some o:=by
    rw[List.find?_eq_some_iff_append]
    refine⟨by unfold inTest;simp only[e];exact decide_eq_true hcl,(List.range k).take o,(List.range k).drop (o+1),?_,?_⟩
    ·have h1:(List.range k).drop o=o::(List.range k).drop (o+1):=by
      rw[List.drop_eq_getElem_cons (by rw[List.length_range];exact hok),List.getElem_range]
     rw[←h1,List.take_append_drop]
    ·intro j hj
     have hjo:j<o:=by
      rw[List.take_range]at hj
      have:=List.mem_range.mp hj
      omega
     unfold inTest
     split
     ·rename_i p' vs' e'
      have:¬k<close P j:=fun hc=>by
       obtain⟨h',hh⟩:=key j (by omega) p' vs' e' hc
       rw[hS]at hh
       simp only[Option.some.injEq,Prod.mk.injEq]at hh
       omega
      simp[this]
     ·rfl
   rw[inProc_eq,hf]
   simp only[e]
   exact hpar
  ·have hps:B.params=[]:=by
    split at hpar
    ·rename_i heq
     simp only[Option.some.injEq,Prod.mk.injEq]at heq
     obtain⟨rfl,rfl⟩:=heq
     split at hpar
     ·rename_i p vs e
      exact absurd ⟨p,vs,e⟩ c
     ·exact hpar
    ·rename_i heq;cases heq
   rw[nofind (fun j hj p vs e hc=>by
    obtain⟨h',hh⟩:=key j hj p vs e hc
    rw[hS]at hh
    simp only[Option.some.injEq,Prod.mk.injEq]at hh
    exact c ⟨p,vs,by rw[hh.1];exact e⟩),hps]
   rfl
end Cc
namespace Cc
open Ls
open Ck hiding Bytes
section
variable {P:List L}{B:Bd}{k:Nat}{bl:List Kd}{S:List (Nat×Nat)}{l:Ln}{l0:L}
theorem yX{xs:List Ln}{x:Ln}(h:xs.length=k){j:Nat}(hj:j<k):(xs++[x])[j]? =xs[j]? :=List.getElem?_append_left (by omega)
theorem app_end{xs:List Ln}{x:Ln}(h:xs.length=k):(xs++[x])[k]? =some x:=by rw[List.getElem?_append_right (by omega),h];simp
theorem heads_lt(I:BInv P B k bl S){d o h:Nat}(hS:S[d]? =some (o,h)):∃kd,bl.reverse[d]? =some kd∧BlockOk P B k d o h kd:=by
 have hd:=(List.getElem?_eq_some_iff.mp hS).1
 have hb:d<bl.reverse.length:=by rw[List.length_reverse,←I.sl];exact hd
 exact⟨_,List.getElem?_eq_getElem hb,I.blk d o h _ hS (List.getElem?_eq_getElem hb)⟩
theorem mem_heads(I:BInv P B k bl S){j:Nat}(h:j∈B.heads):j<k:=by
 rw[I.hd]at h
 obtain⟨x,hx,rfl⟩:=List.mem_map.mp h
 obtain⟨d,hd⟩:=List.mem_iff_getElem?.mp hx
 obtain⟨kd,_,hb⟩:=heads_lt I (o:=x.1) (h:=x.2) hd
 exact hb.lt
theorem binv_plain(I:BInv P B k bl S)(hP:P[k]? =some l0)(hp:plainL l0=true)(hl:lineIs l k=specI P k):BInv P ⟨B.lines++[l],B.heads,B.params⟩ (k+1) bl S where
 len:=by show(B.lines++[l]).length=_;rw[List.length_append,I.len];rfl
 hd:=I.hd
 sl:=I.sl
 blk:=fun d o h kd hS hk=>by
  have b:=I.blk d o h kd hS hk
  refine⟨b.kd_,Nat.lt_succ_of_lt b.lt,by rw[b.cl,cl_plain hP hp],by rw[b.clh,cl_plain hP hp],fun e=>by rw[b.el e,el_plain hP hp],?_⟩
  obtain⟨x,hx,h2⟩:=b.ln
  exact⟨x,by rw[←hx];exact yX I.len b.lt,h2⟩
 dec:=I.dec
 done:=fun j hj hn=>by
  by_cases e:j=k
  ·subst e;exact⟨l,app_end I.len,hl⟩
  ·obtain⟨x,hx,h2⟩:=I.done j (by omega) hn
   exact⟨x,by rw[←hx];exact yX I.len (by omega),h2⟩
 shut:=fun i hi ho=>by
  by_cases e:i=k
  ·subst e
   rw[hP]at ho
   cases l0<;>simp[opens,plainL]at hp ho
  ·rcases I.shut i (by omega) ho with h | h
   ·exact .inl h
   ·exact .inr (by omega)
 par:=I.par
 bot:=I.bot
theorem binv_open(I:BInv P B k bl S)(hP:P[k]? =some l0)(ho:opens l0=true){kd:Kd}(hkd:blockK P k k kd)(hk:l.kind=.of kd)(hl:lineIs (setT (dueT P k) l) k=specI P k){ps:List Bytes}
  (hps:ParOk P ps ((k,k)::S))(hb:(∃p vs,l0=.proc p vs)→S=[]):BInv P ⟨B.lines++[l],k::B.heads,ps⟩ (k+1) (bl++[kd]) ((k,k)::S) where
 len:=by show(B.lines++[l]).length=_;rw[List.length_append,I.len];rfl
 hd:=by show k::B.heads=_;rw[I.hd];rfl
 sl:=by rw[List.length_cons,I.sl,List.length_append];rfl
 blk:=fun d o h kd' hS hk'=>by
  rw[List.reverse_append]at hk'
  cases d with
  |zero=>
   simp at hS hk'
   obtain⟨rfl,rfl⟩:=hS
   subst hk'
   exact⟨hkd,Nat.lt_succ_self _,rfl,rfl,fun _=>rfl,l,app_end I.len,hk,hl⟩
  |succ d=>
   simp only[List.getElem?_cons_succ,List.reverse_cons,List.reverse_nil,List.nil_append,List.cons_append]at hS hk'
   have b:=I.blk d o h kd' hS hk'
   refine⟨b.kd_,Nat.lt_succ_of_lt b.lt,by rw[b.cl,cl_open hP ho],by rw[b.clh,cl_open hP ho],fun e=>by rw[b.el e,el_open hP ho],?_⟩
   obtain⟨x,hx,h2⟩:=b.ln
   exact⟨x,by rw[←hx];exact yX I.len b.lt,h2⟩
 dec:=by
  rw[List.map_cons,List.pairwise_cons]
  refine⟨fun j hj=>mem_heads I (by rw[I.hd];exact hj),I.dec⟩
 done:=fun j hj hn=>by
  have hn1:j≠k:=fun e=>hn (by show j∈k::B.heads;rw[e];simp)
  have hn2:j∉B.heads:=fun e=>hn (List.mem_cons_of_mem _ e)
  obtain⟨x,hx,h2⟩:=I.done j (by omega) hn2
  exact⟨x,by rw[←hx];exact yX I.len (by omega),h2⟩
 shut:=fun i hi hoi=>by
  by_cases e:i=k
  ·subst e;exact .inl ⟨0,i,rfl⟩
  ·rcases I.shut i (by omega) hoi with⟨d,h,hd⟩ | h
   ·exact .inl ⟨d+1,h,hd⟩
   ·exact .inr (by omega)
 par:=hps
 bot:=fun d o h hS hpr=>by
  cases d with
  |zero=>
   simp at hS
   obtain⟨rfl,rfl⟩:=hS
   obtain⟨p,vs,e⟩:=hpr
   rw[hP]at e
   rw[hb ⟨p,vs,Option.some.inj e⟩]
   rfl
  |succ d=>
   rw[List.length_cons,I.bot d o h hS hpr]
theorem yW{xs:List Ln}{h j:Nat}{f:Ln→Ln}(n:h≠j):(xs.modify h f)[j]? =xs[j]?:=by
 rw[List.getElem?_modify];simp[n]
theorem yU{xs:List Ln}{h:Nat}{f:Ln→Ln}{x:Ln}(e:xs[h]? =some x):(xs.modify h f)[h]? =some (f x):=by
 rw[List.getElem?_modify,e];simp
theorem par_cons{ps:List Bytes}{x y:Nat×Nat}{S:List (Nat×Nat)}(e:x.1=y.1)(h:ParOk P ps (x::S)):ParOk P ps (y::S):=by
 unfold ParOk at h ⊢
 cases S with
 |nil=>
  obtain⟨a,b⟩:=x
  obtain⟨c,d⟩:=y
  cases e
  exact h
 |cons z t=>rw[List.getLast?_cons_cons]at h ⊢;exact h
theorem not_head{h:Nat}{hs:List Nat}(dec:(h::hs).Pairwise (· > ·)){j:Nat}(hj:j∈hs):h≠j:=by
 have:=(List.pairwise_cons.mp dec).1 j hj
 omega
theorem binv_else{o h:Nat}{bl:List Kd}(I:BInv P B k (bl++[.if_]) ((o,h)::S))(hP:P[k]? =some .els)(hk:l.kind=.of .else_):BInv P ⟨B.lines.modify h (setT (k+1))++[l],k::S.map (·.2),B.params⟩ (k+1) (bl++[.else_]) ((o,k)::S):=by
 have b0:=I.blk 0 o h .if_ rfl (by simp)
 obtain⟨rfl,e,hoe⟩:=b0.kd_
 have hlen:(B.lines.modify h (setT (k+1))).length=k:=by rw[List.length_modify];exact I.len
 have hel:elseOf P h=k:=by rw[b0.el rfl,el_else0 hP]
 have hdue:dueT P h=k+1:=by unfold dueT;rw[hoe];show elseOf P h+1=_;rw[hel]
 have hdec:=I.dec
 rw[List.map_cons]at hdec
 have hlk:h<k:=b0.lt
 constructor
 ·show(_++[l]).length=_;rw[List.length_append,hlen];rfl
 ·rfl
 ·have:=I.sl;rw[List.length_cons,List.length_append]at this ⊢;exact this
 ·intro d o' h' kd hS hk'
  rw[List.reverse_append]at hk'
  cases d with
  |zero=>
   simp at hS hk'
   obtain⟨rfl,rfl⟩:=hS
   subst hk'
   refine⟨⟨hlk,⟨e,hoe⟩,hP⟩,Nat.lt_succ_self _,by rw[b0.cl,cl_else hP],rfl,(fun z=>nomatch z),⟨l,app_end hlen,hk,?_⟩⟩
   have hd2:dueT P k=close P k+1:=by unfold dueT;rw[hP]
   unfold lineIs specI
   rw[getD_at hP]
   show(match l.kind with
    |.of .set=>_ | .of .get=>_ | .of .put=>_ | .of .if_=>_ | .of .while_=>_ | .of .else_=>_ | .ew=>_ | .of .proc=>_ | .ep=>_ | .of .do_=>_ | .of .stop=>_ | _=>_)=_
   rw[hk,hd2]
   rfl
  |succ d=>
   simp only[List.getElem?_cons_succ,List.reverse_cons,List.reverse_nil,List.nil_append,List.cons_append]at hS hk'
   have b:=I.blk (d+1) o' h' kd hS (by rw[List.reverse_append];simpa using hk')
   refine⟨b.kd_,Nat.lt_succ_of_lt b.lt,by rw[b.cl,cl_else hP],by rw[b.clh,cl_else hP],fun z=>by rw[b.el z,el_elseS hP],?_⟩
   obtain⟨x,hx,h2⟩:=b.ln
   have hne:h≠h':=not_head hdec (List.mem_map.mpr ⟨(o',h'),List.mem_of_getElem? hS,rfl⟩)
   exact⟨x,(yX hlen b.lt).trans ((yW hne).trans hx),h2⟩
 ·rw[List.map_cons,List.pairwise_cons]
  refine⟨fun j hj=>?_,(List.pairwise_cons.mp hdec).2⟩
  have:=(List.pairwise_cons.mp hdec).1 j hj
  show k > j
  omega
 ·intro j hj hn
  have hn1:j≠k:=fun z=>hn (by show j∈k::_;rw[z];simp)
  by_cases hjh:j=h
  ·subst hjh
   obtain⟨x,hx,_,h2⟩:=b0.ln
   rw[hdue]at h2
   exact⟨_,(yX hlen hlk).trans (yU hx),h2⟩
  ·have hn2:j∉B.heads:=fun z=>by
    rw[I.hd,List.map_cons]at z
    rcases List.mem_cons.mp z with z | z
    ·exact hjh z
    ·exact hn (List.mem_cons_of_mem _ z)
   obtain⟨x,hx,h2⟩:=I.done j (by omega) hn2
   exact⟨x,(yX hlen (by omega)).trans ((yW (fun z=>hjh z.symm)).trans hx),h2⟩
 ·intro i hi ho
  by_cases z:i=k
  ·subst z;rw[hP]at ho;cases ho
  ·rcases I.shut i (by omega) ho with⟨d,h',hd⟩ | h'
   ·cases d with
    |zero=>
     simp at hd
     exact .inl ⟨0,k,by simp[hd.1]⟩
    |succ d=>exact .inl ⟨d+1,h',hd⟩
   ·exact .inr (by omega)
 ·exact par_cons (x:=(h,h)) (y:=(h,k)) rfl I.par
 ·intro d o' h' hS hpr
  cases d with
  |zero=>
   simp at hS
   obtain⟨p,vs,z⟩:=hpr
   rw[←hS.1,hoe]at z
   cases z
  |succ d=>exact I.bot (d+1) o' h' hS hpr
theorem opener_of{o h:Nat}(I:BInv P B k bl ((o,h)::S))(hP:P[k]? =some .ends):opener P k=some o:=by
 obtain⟨kd,hkd,b0⟩:=heads_lt I (d:=0) (o:=o) (h:=h) rfl
 have hoh:o≤h∧((P[o]?).map opens).getD false=true:=by
  have:=b0.kd_
  cases kd with
  |if_=>obtain⟨e,x,hx⟩:=this;exact⟨by omega,by rw[hx];rfl⟩
  |else_=>obtain⟨e,⟨x,hx⟩,_⟩:=this;exact⟨by omega,by rw[hx];rfl⟩
  |while_=>obtain⟨e,x,hx⟩:=this;exact⟨by omega,by rw[hx];rfl⟩
  |proc=>obtain⟨e,x,y,hx⟩:=this;exact⟨by omega,by rw[hx];rfl⟩
  |_=>exact this.elim
 have hok:o<k:=Nat.lt_of_le_of_lt hoh.1 b0.lt
 have hcl:close P o=k:=by rw[b0.cl,cl_end0 hP]
 unfold opener
 rw[List.find?_eq_some_iff_append]
 refine⟨by rw[hoh.2,hcl];simp,(List.range k).take o,(List.range k).drop (o+1),?_,?_⟩
 ·have h1:(List.range k).drop o=o::(List.range k).drop (o+1):=by
   rw[List.drop_eq_getElem_cons (by rw[List.length_range];exact hok),List.getElem_range]
  rw[←h1,List.take_append_drop]
 ·intro j hj
  have hjo:j<o:=by
   rw[List.take_range]at hj
   have:=List.mem_range.mp hj
   omega
  cases c:((P[j]?).map opens).getD false with
  |false=>rfl
  |true=>
   have:close P j≠k:=by
    rcases I.shut j (by omega) c with⟨d,h',hd⟩ | h'
    ·cases d with
     |zero=>simp at hd;omega
     |succ d=>
      obtain⟨kd',_,b⟩:=heads_lt I hd
      rw[b.cl,cl_endS hP];omega
    ·omega
   simp[this]
theorem binv_end{o h:Nat}{bl:List Kd}{kd:Kd}(I:BInv P B k (bl++[kd]) ((o,h)::S))(hP:P[k]? =some .ends){ps:List Bytes}(hl:lineIs l k=specI P k)(hps:ParOk P ps S):
  BInv P ⟨B.lines.modify h (setT (k+1))++[l],S.map (·.2),ps⟩ (k+1) bl S:=by
 have b0:=I.blk 0 o h kd rfl (by simp)
 have hlen:(B.lines.modify h (setT (k+1))).length=k:=by rw[List.length_modify];exact I.len
 have hlk:h<k:=b0.lt
 have hdue:dueT P h=k+1:=by
  unfold dueT
  have hc:close P h=k:=by rw[b0.clh,cl_end0 hP]
  have:=b0.kd_
  cases kd with
  |if_=>
   obtain⟨e,x,hx⟩:=this
   subst e
   rw[hx]
   show elseOf P h+1=_
   rw[b0.el rfl,el_end0 hP]
  |else_=>obtain⟨_,_,hx⟩:=this;rw[hx];show close P h+1=_;rw[hc]
  |while_=>obtain⟨e,x,hx⟩:=this;subst e;rw[hx];show close P h+1=_;rw[hc]
  |proc=>obtain⟨e,x,y,hx⟩:=this;subst e;rw[hx];show close P h+1=_;rw[hc]
  |_=>exact this.elim
 have hdec:=I.dec
 rw[List.map_cons]at hdec
 constructor
 ·show(_++[l]).length=_;rw[List.length_append,hlen];rfl
 ·rfl
 ·have:=I.sl;rw[List.length_cons,List.length_append]at this;simpa using this
 ·intro d o' h' kd' hS hk'
  have b:=I.blk (d+1) o' h' kd' hS (by rw[List.reverse_append];simpa using hk')
  refine⟨b.kd_,Nat.lt_succ_of_lt b.lt,by rw[b.cl,cl_endS hP],by rw[b.clh,cl_endS hP],fun z=>by rw[b.el z,el_endS hP],?_⟩
  obtain⟨x,hx,h2⟩:=b.ln
  have hne:h≠h':=not_head hdec (List.mem_map.mpr ⟨(o',h'),List.mem_of_getElem? hS,rfl⟩)
  exact⟨x,(yX hlen b.lt).trans ((yW hne).trans hx),h2⟩
 ·exact(List.pairwise_cons.mp hdec).2
 ·intro j hj hn
  by_cases e:j=k
  ·subst e;exact⟨l,app_end hlen,hl⟩
  ·by_cases hjh:j=h
   ·subst hjh
    obtain⟨x,hx,_,h2⟩:=b0.ln
    rw[hdue]at h2
    exact⟨_,(yX hlen hlk).trans (yU hx),h2⟩
   ·have hn2:j∉B.heads:=fun z=>by
     rw[I.hd,List.map_cons]at z
     rcases List.mem_cons.mp z with z | z
     ·exact hjh z
     ·exact hn z
    obtain⟨x,hx,h2⟩:=I.done j (by omega) hn2
    exact⟨x,(yX hlen (by omega)).trans ((yW (fun z=>hjh z.symm)).trans hx),h2⟩
 ·intro i hi ho
  by_cases z:i=k
  ·subst z;rw[hP]at ho;cases ho
  ·rcases I.shut i (by omega) ho with⟨d,h',hd⟩ | h'
   ·cases d with
    |zero=>
     simp at hd
     right
     rw[←hd.1,b0.cl,cl_end0 hP];omega
    |succ d=>exact .inl ⟨d,h',hd⟩
   ·exact .inr (by omega)
 ·exact hps
 ·intro d o' h' hS hpr
  have:=I.bot (d+1) o' h' hS hpr
  rw[List.length_cons]at this
  omega
theorem par_end{o h:Nat}{ps:List Bytes}(hp:ParOk P ps ((o,h)::S))(hn:∀p vs,P[o]? ≠some (.proc p vs)):ParOk P ps S:=by
 unfold ParOk at hp ⊢
 cases S with
 |nil=>
  have hp':(match P[o]? with
   |some (.proc _ vs)=>varsOf ps=some vs
   |_=>ps=[]):=hp
  split at hp'
  ·rename_i p vs e;exact absurd e (hn p vs)
  ·exact hp'
 |cons z t=>rw[List.getLast?_cons_cons]at hp;exact hp
end
end Cc
namespace Cc
open Ls
open Ck hiding Bytes
section
variable {P:List L}{B:Bd}{k:Nat}{bl:List Kd}{bg:List Bytes}{S:List (Nat×Nat)}{R:PrT}{ws:List Bytes}{ar:Nat→Option Nat}
def ProcOk(R:PrT)(P:List L):Prop:=∀q p,procOf q=some p→R.lookup q=(procAt p 0 P).map fun x=>(x.1+1,x.2.length)
theorem plain_lt{l0:L}(hP:P[k]? =some l0)(h:plainL l0=true∨opens l0=true∨l0=.els):∀d,k<k+closeIn d (P.drop k):=by
 intro d
 rcases h with h | h | h
 ·rw[cl_plain hP h];omega
 ·rw[cl_open hP h];omega
 ·subst h;rw[cl_else hP];omega
theorem last_split{bl:List Kd}{k0:Kd}(h:bl.getLast? =some k0):bl=bl.dropLast++[k0]:=by
 have hne:bl≠[]:=fun z=>by rw[z]at h;cases h
 rw[List.getLast?_eq_some_getLast hne]at h
 rw[←Option.some.inj h,List.dropLast_concat_getLast]
theorem binv_step(I:BInv P B k bl S)(hP:P[k]? =some (lineW ws))(rd:Rd ar ws (lineW ws))(hal:allowsP bl bg ws=true)(hR:ProcOk R P)(har:∀p,ar p=(procAt p 0 P).map fun x=>x.2.length):
  ∃S',BInv P (takeP R B ws) (k+1) (blAfter bl ws) S':=by
 generalize hl0:lineW ws=l0 at hP rd
 have hgd:=getD_at hP
 cases rd with
 |skip hk=>
  refine⟨S,?_⟩
  have e1:takeP R B ws=⟨B.lines++[⟨.of .nothing,[],none,none,0⟩],B.heads,B.params⟩:=by unfold takeP fillP;rw[hk]
  have e2:blAfter bl ws=bl:=by unfold blAfter;rw[hk]
  rw[e1,e2]
  refine binv_plain I hP rfl ?_
  unfold lineIs specI;rw[hgd]
 |@set v t x e hx he=>
  refine⟨S,binv_plain I hP rfl ?_⟩
  have hps:=inProc_of I (plain_lt hP (.inl rfl))
  show(20,[((k+1:Nat):Int)])::(stepsP B.params t++[varIns B.params v 5 3])=_
  unfold specI
  rw[hgd,steps_one hps he,varIns_eq hx hps]
 |@get v x hx=>
  refine⟨S,binv_plain I hP rfl ?_⟩
  have hps:=inProc_of I (plain_lt hP (.inl rfl))
  show(19,[])::[varIns B.params v 5 3]=_
  unfold specI
  rw[hgd,varIns_eq hx hps]
 |@put t e he=>
  refine⟨S,binv_plain I hP rfl ?_⟩
  have hps:=inProc_of I (plain_lt hP (.inl rfl))
  show(20,[((k+1:Nat):Int)])::(stepsP B.params t++[(18,[])])=_
  unfold specI
  rw[hgd,steps_one hps he]
 |@cond t e he=>
  refine⟨(k,k)::S,?_⟩
  have hps:=inProc_of I (plain_lt hP (.inr (.inl rfl)))
  have e1:takeP R B ([105,102]::t)=⟨B.lines++[⟨.of .if_,stepsP B.params t,none,none,0⟩],k::B.heads,B.params⟩:=by rw[←I.len];rfl
  rw[e1]
  refine binv_open (kd:=.if_) I hP rfl ⟨rfl,e,hP⟩ rfl ?_ ?_ (fun⟨p,vs,z⟩=>nomatch z)
  ·show(20,[((k+1:Nat):Int)])::(stepsP B.params t++[(15,[((dueT P k:Nat):Int)])])=_
   unfold specI dueT
   rw[hgd,steps_one hps he,hP]
  ·have hp:=I.par
   unfold ParOk at hp ⊢
   cases S with
   |nil=>
    rw[List.getLast?_singleton]
    simp only[hP]
    exact hp
   |cons z r=>rw[List.getLast?_cons_cons];exact hp
 |@loop t e he=>
  refine⟨(k,k)::S,?_⟩
  have hps:=inProc_of I (plain_lt hP (.inr (.inl rfl)))
  have e1:takeP R B ([119,104,105,108,101]::t)=⟨B.lines++[⟨.of .while_,stepsP B.params t,none,none,0⟩],k::B.heads,B.params⟩:=by rw[←I.len];rfl
  rw[e1]
  refine binv_open (kd:=.while_) I hP rfl ⟨rfl,e,hP⟩ rfl ?_ ?_ (fun⟨p,vs,z⟩=>nomatch z)
  ·show(20,[((k+1:Nat):Int)])::(stepsP B.params t++[(15,[((dueT P k:Nat):Int)])])=_
   unfold specI dueT
   rw[hgd,steps_one hps he,hP]
  ·have hp:=I.par
   unfold ParOk at hp ⊢
   cases S with
   |nil=>
    rw[List.getLast?_singleton]
    simp only[hP]
    exact hp
   |cons z r=>rw[List.getLast?_cons_cons];exact hp
 |els=>
  have hal':(decide (0<bl.length)&&decide (bl.getLast? =some .if_))=true:=hal
  simp only[Bool.and_eq_true,decide_eq_true_eq]at hal'
  have hbl:=last_split hal'.2
  cases S with
  |nil=>have:=I.sl;simp at this;have h0:=hal'.1;omega
  |cons x S=>
   obtain⟨o,h⟩:=x
   rw[hbl]at I
   refine⟨(o,k)::S,?_⟩
   have e1:takeP R B [[101,108,115,101]]=⟨B.lines.modify h (setT (k+1))++[⟨.of .else_,[],none,none,0⟩],k::S.map (·.2),B.params⟩:=by
    rw[←I.len]
    show(match B.heads with | h::hs=>_ | []=>_)=_
    rw[I.hd]
    rfl
   rw[e1]
   exact binv_else I hP rfl
 |ends=>
  have hal':decide (0<bl.length)=true:=hal
  have hal2:=of_decide_eq_true hal'
  obtain⟨bl0,kd,rfl⟩:∃bl0 kd,bl=bl0++[kd]:=⟨bl.dropLast,bl.getLast (List.ne_nil_of_length_pos hal2),(List.dropLast_concat_getLast _).symm⟩
  cases S with
  |nil=>have:=I.sl;simp at this
  |cons x S=>
   obtain⟨o,h⟩:=x
   have b0:=I.blk 0 o h kd rfl (by simp)
   have hop:=opener_of I hP
   obtain⟨lh,hlh,hkind,_⟩:=b0.ln
   have e2:blAfter (bl0++[kd]) [[101,110,100]]=bl0:=by show(bl0++[kd]).dropLast=bl0;simp
   rw[e2]
   refine⟨S,?_⟩
   have e1:takeP R B [[101,110,100]]=closeP B h (S.map (·.2)) ⟨.of .end_,[],none,none,0⟩:=by
    show(match B.heads with | h::hs=>_ | []=>_)=_
    rw[I.hd]
    rfl
   rw[e1]
   unfold closeP
   have e3:(B.lines.getD h ⟨.of .end_,[],none,none,0⟩).kind=.of kd:=by rw[List.getD_eq_getElem?_getD,hlh];exact hkind
   rw[e3,I.len]
   have hsp:∀l1:L,P[o]? =some l1→specI P k=(match some l1 with
     |some (.loop _)=>[(14,[((o:Nat):Int)])]
     |some (.proc _ _)=>[(17,[])]
     |_=>[]):=fun l1 h1=>by
    unfold specI
    rw[hgd,hop]
    simp only[Option.bind_some,h1]
    rfl
   cases kd with
   |if_=>
    obtain⟨eo,x,hx⟩:=b0.kd_
    exact binv_end I hP (by rw[hsp _ hx];rfl) (par_end I.par (fun p vs z=>by rw[hx]at z;cases z))
   |else_=>
    obtain⟨_,⟨x,hx⟩,_⟩:=b0.kd_
    exact binv_end I hP (by rw[hsp _ hx];rfl) (par_end I.par (fun p vs z=>by rw[hx]at z;cases z))
   |while_=>
    obtain⟨eo,x,hx⟩:=b0.kd_
    subst eo
    exact binv_end I hP (by rw[hsp _ hx];rfl) (par_end I.par (fun p vs z=>by rw[hx]at z;cases z))
   |proc=>
    obtain⟨eo,x,y,hx⟩:=b0.kd_
    have h1:=I.bot 0 o h rfl ⟨x,y,hx⟩
    have:S=[]:=by
     rw[List.length_cons]at h1
     exact List.length_eq_zero_iff.mp (by omega)
    subst this
    exact binv_end I hP (by rw[hsp _ hx];rfl) rfl
   |_=>exact b0.kd_.elim
 |stop=>
  refine⟨S,binv_plain I hP rfl ?_⟩
  unfold specI
  rw[hgd]
  rfl
 |@proc q vs p l hq hl=>
  have hal':(decide (bl.length=0)&& !bg.contains q)=true:=hal
  simp only[Bool.and_eq_true,decide_eq_true_eq]at hal'
  have hS:S=[]:=List.length_eq_zero_iff.mp (by rw[I.sl];exact hal'.1)
  subst hS
  refine⟨[(k,k)],?_⟩
  have e1:takeP R B ([112,114,111,99]::q::vs)=⟨B.lines++[⟨.of .proc,[],none,none,0⟩],k::B.heads,vs⟩:=by rw[←I.len];rfl
  rw[e1]
  refine binv_open (kd:=.proc) I hP rfl ⟨rfl,p,l,hP⟩ rfl ?_ ?_ (fun _=>rfl)
  ·unfold specI
   show [(14,[((dueT P k:Nat):Int)])]=_
   unfold dueT
   rw[hgd,hP]
  ·unfold ParOk
   rw[List.getLast?_singleton]
   simp only[hP]
   exact hl
 |@call q es p l hq hl hlen=>
  refine⟨S,binv_plain I hP rfl ?_⟩
  have hps:=inProc_of I (plain_lt hP (.inl rfl))
  rw[har p]at hlen
  obtain⟨x,hx,hxl⟩:=Option.map_eq_some_iff.mp hlen
  have e2:=hR q p hq
  rw[hx]at e2
  show(20,[((k+1:Nat):Int)])::(stepsP B.params es++[(16,[((((R.lookup q).getD (0,0)).1:Nat):Int),((((R.lookup q).getD (0,0)).2:Nat):Int)])])=_
  unfold specI
  rw[hgd,steps_several hps _ _ _ hl,e2]
  simp only[hx,Option.map_some,Option.getD_some,hxl]
theorem binv_all(hR:ProcOk R P)(har:∀p,ar p=(procAt p 0 P).map fun x=>x.2.length){T:List (Bytes×Nat)}(hT:Told ar T):∀(Ws:List (List Bytes)) (k n:Nat) (B:Bd) (bl:List Kd) (bg:List Bytes) (S:List (Nat×Nat)),n≠0→scanP T n bl bg Ws=0→
  P.drop k=Ws.map lineW→k≤P.length→BInv P B k bl S→BInv P (buildP R B Ws) P.length [] []
 |[],k,n,B,bl,bg,S,hn,h,hd,hkl,I=>by
  rw[scanP]at h
  have hb:bl=[]:=by
   by_cases c:bl=[]
   ·exact c
   ·rw[if_neg c]at h;exact absurd h hn
  subst hb
  have hS:S=[]:=List.length_eq_zero_iff.mp I.sl
  subst hS
  have:k=P.length:=by
   have:=congrArg List.length hd
   rw[List.length_drop]at this
   simp at this
   omega
  subst this
  exact I
 |ws::r,k,n,B,bl,bg,S,hn,h,hd,hkl,I=>by
  obtain⟨h1,h2,h3⟩:=scan_zero hn h
  have hk:k<P.length:=by
   have:=congrArg List.length hd
   rw[List.length_drop]at this
   simp at this
   omega
  have hd':=List.drop_eq_getElem_cons hk
  rw[hd,List.map_cons]at hd'
  have hP:P[k]? =some (lineW ws):=by
   rw[List.getElem?_eq_getElem hk]
   exact congrArg some (List.cons.inj hd').1.symm
  obtain⟨S',I'⟩:=binv_step I hP (rd_of hT h1) h2 hR har
  exact binv_all hR har hT r (k+1) (n+1) _ _ _ S' (by omega) h3 (List.cons.inj hd').2.symm (by omega) I'
theorem binv_nil:BInv P ⟨[],[],[]⟩ 0 [] [] where
 len:=rfl
 hd:=rfl
 sl:=rfl
 blk:=fun d o h kd hS=>by simp at hS
 dec:=by simp
 done:=fun j hj=>absurd hj (by omega)
 shut:=fun i hi=>absurd hi (by omega)
 par:=rfl
 bot:=fun d o h hS=>by simp at hS
end
def progP(Ws:List (List Bytes)):List Ln:=(buildP (procsP 0 [] Ws) ⟨[],[],[]⟩ Ws).lines
theorem told_ok(Ws:List (List Bytes)):Told (fun p=>(procAt p 0 (Ws.map lineW)).map fun x=>x.2.length) (toldP [] Ws):=⟨fun w p hp=>by rw[told_lookup hp];rfl,fun w hp=>told_none hp _ [] rfl⟩
theorem prog_lines{Ws:List (List Bytes)}(h:scanP (toldP [] Ws) 1 [] [] Ws=0):(progP Ws).length=Ws.length∧∀j,j<Ws.length→∃l,(progP Ws)[j]? =some l∧lineIs l j=specI (Ws.map lineW) j:=by
 have hR:ProcOk (procsP 0 [] Ws) (Ws.map lineW):=fun q p hp=>by
  rw[procs_lookup hp Ws 1 0 [] [] [] (by decide) h,if_neg (by simp)]
  simp
 have I:=binv_all (P:=Ws.map lineW) hR (fun _=>rfl) (told_ok Ws) Ws 0 1 ⟨[],[],[]⟩ [] [] [] (by decide) h rfl (Nat.zero_le _) binv_nil
 refine⟨by have:=I.len;rw[List.length_map]at this;exact this,fun j hj=>?_⟩
 exact I.done j (by rw[List.length_map];exact hj) (by rw[I.hd];simp)
end Cc
namespace Cc
open Ls
open Ck hiding Bytes
def wellI(x:Ii):Prop:=x.1<21∧x.2.length=(Sh.widthsOf x.1).length
end Cc
namespace Cc
open Ls
open Ck hiding Bytes
def stepOk(x:Ii):Prop:=wellI x∧x.1≤13
theorem varIns_ok(ps:List Bytes)(w:Bytes){a b:Nat}(ha:stepOk (a,[0]))(hb:stepOk (b,[0])):stepOk (varIns ps w a b):=by
 unfold varIns
 split
 ·exact⟨⟨ha.1.1,ha.1.2⟩,ha.2⟩
 ·exact⟨⟨hb.1.1,hb.1.2⟩,hb.2⟩
theorem ok42:stepOk (4,[0])∧stepOk (2,[0]):=⟨⟨⟨by decide,by decide⟩,by decide⟩,⟨⟨by decide,by decide⟩,by decide⟩⟩
theorem ok53:stepOk (5,[0])∧stepOk (3,[0]):=⟨⟨⟨by decide,by decide⟩,by decide⟩,⟨⟨by decide,by decide⟩,by decide⟩⟩
theorem wordIns_ok(ps:List Bytes)(w:Bytes):stepOk (wordIns ps w):=by
 unfold wordIns
 cases h:OPN.lookup w with
 |some n=>
  have key:∀(l:List (Bytes×Nat)),(∀p∈l,stepOk (p.2,[]))→∀n,l.lookup w=some n→stepOk (n,[]):=by
   intro l
   induction l with
   |nil=>intro _ n h;cases h
   |cons x r ih=>
    intro hl n h
    obtain⟨a,b⟩:=x
    rw[List.lookup_cons]at h
    split at h
    ·cases h;exact hl (a,n) (by simp)
    ·exact ih (fun p hp=>hl p (List.mem_cons_of_mem _ hp)) n h
  refine key OPN ?_ n h
  intro p hp
  simp only[OPN,List.mem_cons,List.not_mem_nil,or_false]at hp
  rcases hp with h | h | h | h | h | h | h | h<;>(subst h;exact⟨⟨by decide,by decide⟩,by decide⟩)
 |none=>
  show stepOk (if isVar w=true then varIns ps w 4 2 else(1,[numVal w]))
  by_cases c:isVar w=true
  ·rw[if_pos c];exact varIns_ok ps w ok42.1 ok42.2
  ·rw[if_neg c];exact⟨⟨by show 1<21;decide,rfl⟩,by show 1≤13;decide⟩
theorem ready_ok(ps:List Bytes):∀(ws:List Bytes),∀s∈readyP ps ws,∀x∈s,stepOk x
 |[],s,hs=>by simp[readyP]at hs
 |w::r,s,hs=>by
  rw[readyP]at hs
  rcases List.mem_cons.mp hs with e | e
  ·subst e
   intro x hx
   rcases List.mem_append.mp hx with h | h
   ·obtain⟨t,ht,hxt⟩:=List.mem_flatten.mp h
    exact ready_ok ps r t (List.mem_of_mem_take ht) x hxt
   ·simp at h;subst h;exact wordIns_ok ps w
  ·exact ready_ok ps r s (List.mem_of_mem_drop e)
theorem steps_ok(ps ws:List Bytes):∀x∈stepsP ps ws,stepOk x:=fun x hx=>by
 obtain⟨s,hs,hxs⟩:=List.mem_flatten.mp hx
 exact ready_ok ps ws s hs x hxs
theorem ready_count(ps:List Bytes):∀ws:List Bytes,(readyP ps ws).flatten.length=ws.length
 |[]=>rfl
 |w::r=>by
  rw[readyP,List.flatten_cons,List.length_append,List.length_append,List.length_cons,List.length_nil,List.length_cons]
  have h:((readyP ps r).take (opsW w).toNat).flatten.length + ((readyP ps r).drop (opsW w).toNat).flatten.length=r.length:=by
   rw[←List.length_append,←List.flatten_append,List.take_append_drop]
   exact ready_count ps r
  omega
theorem steps_count(ps ws:List Bytes):(stepsP ps ws).length=ws.length:=ready_count ps ws
def wantsT:KE→Bool
 |.of .if_ | .of .while_ | .of .else_ | .of .proc | .of .do_ | .ew=>true
 |_=>false
structure LnOk (N:Nat) (l:Ln):Prop where
 steps:∀x∈l.steps,stepOk x
 few:l.steps.length≤16500
 store:∀x,l.store=some x→stepOk x
 target:∀t,l.target=some t→t≤N
 has:l.kind=.of .set∨l.kind=.of .get→l.store.isSome=true
structure BOk (N:Nat) (B:Bd):Prop where
 all:∀l∈B.lines,LnOk N l
 tgt:∀(j:Nat) (l:Ln),B.lines[j]? =some l→wantsT l.kind=true→l.target.isSome=true∨j∈B.heads
 hds:∀h∈B.heads,h<B.lines.length
theorem fill_ok{N:Nat}{R:PrT}(hR:∀q e,R.lookup q=some e→e.1≤N)(ps ws:List Bytes)(hw:ws.length≤16500):LnOk N (fillP R ps ws):=by
 have h1:(stepsP ps (ws.drop 1)).length≤16500:=by rw[steps_count,List.length_drop];omega
 have h2:(stepsP ps (ws.drop 2)).length≤16500:=by rw[steps_count,List.length_drop];omega
 unfold fillP
 split
 ·exact⟨steps_ok _ _,h1,(fun _ h=>nomatch h),(fun _ h=>nomatch h),fun h=>by rcases h with h | h<;>cases h⟩
 ·exact⟨steps_ok _ _,h1,(fun _ h=>nomatch h),(fun _ h=>nomatch h),fun h=>by rcases h with h | h<;>cases h⟩
 ·exact⟨steps_ok _ _,h1,(fun _ h=>nomatch h),(fun _ h=>nomatch h),fun h=>by rcases h with h | h<;>cases h⟩
 ·exact⟨steps_ok _ _,h2,fun x h=>by cases h;exact varIns_ok _ _ ok53.1 ok53.2,(fun _ h=>nomatch h),fun _=>rfl⟩
 ·exact⟨(fun _ h=>nomatch h),Nat.zero_le _,fun x h=>by cases h;exact varIns_ok _ _ ok53.1 ok53.2,(fun _ h=>nomatch h),fun _=>rfl⟩
 ·refine⟨steps_ok _ _,h2,(fun _ h=>nomatch h),fun t h=>?_,fun h=>by rcases h with h | h<;>cases h⟩
  have e:=Option.some.inj h
  cases hl:R.lookup (ws.getD 1 [])with
  |none=>rw[hl]at e;simp at e;omega
  |some x=>rw[hl]at e;simp at e;have:=hR _ _ hl;omega
 ·rename_i k h1 h2 h3 h4 h5 h6
  refine⟨(fun _ h=>nomatch h),Nat.zero_le _,(fun _ h=>nomatch h),(fun _ h=>nomatch h),fun h=>?_⟩
  rcases h with h | h
  ·exact absurd (KE.of.inj h) h4
  ·exact absurd (KE.of.inj h) h5
theorem setT_ok{N t:Nat}{l:Ln}(h:LnOk N l)(ht:t≤N):LnOk N (setT t l):=⟨h.steps,h.few,h.store,fun x hx=>by cases hx;exact ht,h.has⟩
theorem mem_modify{xs:List Ln}{h:Nat}{f:Ln→Ln}{y:Ln}(hy:y∈xs.modify h f):y∈xs∨∃x∈xs,y=f x:=by
 obtain⟨j,hj⟩:=List.mem_iff_getElem?.mp hy
 by_cases e:h=j
 ·subst e
  cases hx:xs[h]? with
  |none=>
   rw[List.getElem?_modify,hx]at hj;cases hj
  |some x=>
   rw[yU hx]at hj
   exact .inr ⟨x,List.mem_of_getElem? hx,(Option.some.inj hj).symm⟩
 ·rw[yW e]at hj
  exact .inl (List.mem_of_getElem? hj)
theorem fill_kind(R:PrT)(ps ws:List Bytes):(fillP R ps ws).kind=.of (kindOf ws)∧(kindOf ws=.do_→(fillP R ps ws).target.isSome=true):=by
 unfold fillP
 split<;>rename_i h
 ·rw[h];exact⟨rfl,fun z=>nomatch z⟩
 ·rw[h];exact⟨rfl,fun z=>nomatch z⟩
 ·rw[h];exact⟨rfl,fun z=>nomatch z⟩
 ·rw[h];exact⟨rfl,fun z=>nomatch z⟩
 ·rw[h];exact⟨rfl,fun z=>nomatch z⟩
 ·rw[h];exact⟨rfl,fun _=>rfl⟩
 ·rename_i h1 h2 h3 h4 h5
  exact⟨rfl,fun z=>absurd z (by first | exact h5 | exact h | assumption)⟩
theorem bok_add{N:Nat}{B:Bd}(h:BOk N B){l:Ln}(hl:LnOk N l){hs:List Nat}{ps:List Bytes}(hh:∀j∈B.heads,j∈hs)(hlt:∀j∈hs,j≤B.lines.length)(ht:wantsT l.kind=true→l.target.isSome=true∨B.lines.length∈hs):BOk N ⟨B.lines++[l],hs,ps⟩:=by
 refine⟨fun x hx=>?_,fun j x hj hw=>?_,fun j hj=>?_⟩
 ·rcases List.mem_append.mp hx with e | e
  ·exact h.all x e
  ·simp at e;subst e;exact hl
 ·have hj':(B.lines++[l])[j]? =some x:=hj
  by_cases c:j<B.lines.length
  ·rw[List.getElem?_append_left c]at hj'
   rcases h.tgt j x hj' hw with e | e
   ·exact .inl e
   ·exact .inr (hh j e)
  ·have hlt:=(List.getElem?_eq_some_iff.mp hj').1
   rw[List.length_append]at hlt
   have e:j=B.lines.length:=by simp at hlt;omega
   subst e
   rw[List.getElem?_append_right (Nat.le_refl _)]at hj'
   simp at hj'
   subst hj'
   exact ht hw
 ·show j< (B.lines++[l]).length
  rw[List.length_append]
  have:=hlt j hj
  simp;omega
theorem bok_set{N:Nat}{B:Bd}{h0 t:Nat}{hs:List Nat}(h:BOk N B)(e:B.heads=h0::hs)(ht:t≤N):BOk N ⟨B.lines.modify h0 (setT t),hs,B.params⟩:=by
 refine⟨fun x hx=>?_,fun j x hj hw=>?_,fun j hj=>?_⟩
 ·rcases mem_modify hx with z | ⟨y,hy,rfl⟩
  ·exact h.all x z
  ·exact setT_ok (h.all y hy) ht
 ·have hj':(B.lines.modify h0 (setT t))[j]? =some x:=hj
  by_cases c:h0=j
  ·subst c
   cases hx:B.lines[h0]? with
   |none=>rw[List.getElem?_modify,hx]at hj';cases hj'
   |some y=>
    rw[yU hx]at hj'
    cases hj'
    exact .inl rfl
  ·rw[yW c]at hj'
   rcases h.tgt j x hj' hw with z | z
   ·exact .inl z
   ·rw[e]at z
    rcases List.mem_cons.mp z with z | z
    ·exact absurd z.symm c
    ·exact .inr z
 ·show j< (B.lines.modify h0 (setT t)).length
  rw[List.length_modify]
  exact h.hds j (by rw[e];exact List.mem_cons_of_mem _ hj)
theorem take_ok{N:Nat}{R:PrT}{B:Bd}{ws:List Bytes}(hR:∀q e,R.lookup q=some e→e.1≤N)(h:BOk N B)(hw:ws.length≤16500)(hN:B.lines.length+1≤N):BOk N (takeP R B ws)∧(takeP R B ws).lines.length≤B.lines.length+1:=by
 have hf:=fill_ok hR B.params ws hw
 obtain⟨fk,ft⟩:=fill_kind R B.params ws
 have hle:∀j∈B.heads,j≤B.lines.length:=fun j hj=>Nat.le_of_lt (h.hds j hj)
 unfold takeP
 dsimp only
 split
 ·exact⟨bok_add h hf (fun j hj=>List.mem_cons_of_mem _ hj) (fun j hj=>(List.mem_cons.mp hj).elim (fun z=>Nat.le_of_eq z) (fun z=>hle j z)) (fun _=>.inr (by simp)),by simp⟩
 ·exact⟨bok_add h hf (fun j hj=>List.mem_cons_of_mem _ hj) (fun j hj=>(List.mem_cons.mp hj).elim (fun z=>Nat.le_of_eq z) (fun z=>hle j z)) (fun _=>.inr (by simp)),by simp⟩
 ·exact⟨bok_add h hf (fun j hj=>List.mem_cons_of_mem _ hj) (fun j hj=>(List.mem_cons.mp hj).elim (fun z=>Nat.le_of_eq z) (fun z=>hle j z)) (fun _=>.inr (by simp)),by simp⟩
 ·split
  ·rename_i h0 hs e
   have h2:=bok_set h e hN
   have hl:(B.lines.modify h0 (setT (B.lines.length+1))).length=B.lines.length:=List.length_modify _ _ _
   refine⟨bok_add h2 hf (fun j hj=>List.mem_cons_of_mem _ hj) (fun j hj=>?_) (fun _=>.inr ?_),by rw[List.length_append,hl];simp⟩
   ·show j≤(B.lines.modify h0 (setT (B.lines.length+1))).length
    rw[hl]
    rcases List.mem_cons.mp hj with z | z
    ·omega
    ·exact hle j (by rw[e];exact List.mem_cons_of_mem _ z)
   ·show(B.lines.modify h0 (setT (B.lines.length+1))).length∈_
    rw[hl];simp
  ·exact⟨h,by omega⟩
 ·rename_i hkw
  split
  ·rename_i h0 hs e
   have h2:=bok_set h e hN
   have hl:(B.lines.modify h0 (setT (B.lines.length+1))).length=B.lines.length:=List.length_modify _ _ _
   have hlt:∀j∈hs,j≤(B.lines.modify h0 (setT (B.lines.length+1))).length:=fun j hj=>by rw[hl];exact hle j (by rw[e];exact List.mem_cons_of_mem _ hj)
   have hh0:h0<B.lines.length:=h.hds h0 (by rw[e];simp)
   unfold closeP
   dsimp only
   split
   ·refine⟨bok_add h2 (l:={ fillP R B.params ws with kind:=.ew,target:=some h0 }) ⟨hf.steps,hf.few,hf.store,fun t z=>by cases z;omega,fun z=>by rcases z with z | z<;>cases z⟩ (fun j hj=>hj) hlt (fun _=>.inl rfl),by rw[List.length_append,hl];simp⟩
   ·refine⟨bok_add h2 (l:={ fillP R B.params ws with kind:=.ep }) ⟨hf.steps,hf.few,hf.store,hf.target,fun z=>by rcases z with z | z<;>cases z⟩ (fun j hj=>hj) hlt (fun z=>nomatch z),by rw[List.length_append,hl];simp⟩
   ·exact⟨bok_add h2 hf (fun j hj=>hj) hlt (fun z=>by rw[fk,hkw]at z;cases z),by rw[List.length_append,hl];simp⟩
  ·exact⟨h,by omega⟩
 ·rename_i h1 h2 h3 h4 h5
  refine⟨bok_add h hf (fun j hj=>hj) hle (fun z=>?_),by simp⟩
  by_cases c:kindOf ws=.do_
  ·exact .inl (ft c)
  ·exfalso
   rw[fk]at z
   generalize kindOf ws=kk at *
   cases kk<;>first | (cases z;done) | exact h1 rfl | exact h2 rfl | exact h3 rfl | exact h4 rfl | exact h5 rfl | exact c rfl
theorem build_ok{N:Nat}{R:PrT}(hR:∀q e,R.lookup q=some e→e.1≤N):∀(Ws:List (List Bytes)) (B:Bd),(∀ws∈Ws,ws.length≤16500)→BOk N B→B.lines.length+Ws.length≤N→BOk N (buildP R B Ws)
 |[],B,_,h,_=>h
 |ws::r,B,hw,h,hN=>by
  rw[List.length_cons]at hN
  obtain⟨h1,h2⟩:=take_ok (ws:=ws) hR h (hw ws (by simp)) (by omega)
  exact build_ok hR r _ (fun x hx=>hw x (List.mem_cons_of_mem _ hx)) h1 (by omega)
theorem procs_ok{N:Nat}:∀(Ws:List (List Bytes)) (k:Nat) (R:PrT),k+Ws.length≤N→(∀q e,R.lookup q=some e→e.1≤N)→∀q e,(procsP k R Ws).lookup q=some e→e.1≤N
 |[],k,R,_,h=>h
 |ws::r,k,R,hN,h=>by
  rw[procsP]
  rw[List.length_cons]at hN
  refine procs_ok r (k+1) _ (by omega) ?_
  intro q e he
  split at he
  ·rw[putB_lookup]at he
   split at he
   ·cases he;show k+1≤N;omega
   ·exact h q e he
  ·exact h q e he
theorem prog_ok(Ws:List (List Bytes))(hw:∀ws∈Ws,ws.length≤16500):BOk Ws.length (buildP (procsP 0 [] Ws) ⟨[],[],[]⟩ Ws):=
 build_ok (procs_ok Ws 0 [] (by omega) (fun q e h=>by cases h)) Ws _ hw ⟨(fun l hl=>nomatch hl),fun j l h=>by simp at h,(fun j hj=>nomatch hj)⟩ (by simp)
end Cc
namespace Cc
open Ls
open Ck hiding Bytes
theorem words_cnt:∀(s acc:Bytes),(wordsP acc s).length≤(if acc=[]then 0 else 1) +s.length
 |[],acc=>by
  unfold wordsP
  split<;>simp
 |c::r,acc=>by
  unfold wordsP
  rw[List.length_cons]
  split
  ·split
   ·have:=words_cnt r [];simp at this;omega
   ·rw[List.length_cons];have:=words_cnt r [];simp at this;omega
  ·have:=words_cnt r (acc++[c])
   rw[if_neg (by simp)]at this
   omega
theorem lines_cnt:∀(s acc:Bytes),∀l∈linesFrom acc s,l.length≤acc.length+s.length
 |[],acc,l,hl=>by
  unfold linesFrom at hl
  split at hl
  ·cases hl
  ·simp at hl;subst hl;simp
 |c::r,acc,l,hl=>by
  unfold linesFrom at hl
  rw[List.length_cons]
  split at hl
  ·rcases List.mem_cons.mp hl with e | e
   ·subst e;omega
   ·have:=lines_cnt r [] l e;simp at this;omega
  ·have:=lines_cnt r (acc++[c]) l hl
   rw[List.length_append]at this;simp at this;omega
theorem linesW_cnt{b:Bytes}(h:b.length≤16500):∀ws∈linesW b,ws.length≤16500:=fun ws hws=>by
 obtain⟨l,hl,rfl⟩:=List.mem_map.mp hws
 have h1:=lines_cnt b [] l hl
 have h2:=words_cnt l []
 simp at h1 h2
 omega
end Cc
namespace Pg
open PySem L2 Ck Ins Cc
def Out(H W:Hp):Prop:=∀b o,H b=some o→W b=none
theorem Out.sub{H H' W:Hp}(h:Out H' W)(s:Same H H'):Out H W:=fun b o e=>h b o (s b o e)
def jn(W U:Hp):Hp:=fun b=>(W b).or (U b)
theorem jn_l{W U:Hp}:Same W (jn W U):=fun b o e=>by unfold jn;rw[e];rfl
theorem jn_r{W U H:Hp}(h1:Same W H)(h2:Same U H):Same U (jn W U):=fun b o e=>by
 unfold jn
 cases h:W b with
 |none=>rw[e];rfl
 |some u=>
  have:=(h1 b u h).symm.trans (h2 b o e)
  rw[Option.some.inj this];rfl
theorem xG{W U H:Hp}(h1:Same W H)(h2:Same U H):Same (jn W U) H:=fun b o e=>by
 unfold jn at e
 cases h:W b with
 |none=>rw[h]at e;exact h2 b o e
 |some u=>rw[h]at e;cases e;exact h1 b o h
theorem yG{W U:Hp}{b:Addr}(h1:W b=none)(h2:U b=none):jn W U b=none:=by unfold jn;rw[h1,h2];rfl
theorem Out.jn{H W U:Hp}(h1:Out H W)(h2:Out H U):Out H (jn W U):=fun b o e=>yG (h1 b o e) (h2 b o e)
def one1(z:Addr)(o:HO):Hp:=fun b=>if b=z then some o else none
theorem one_at{z:Addr}{o:HO}:one1 z o z=some o:=if_pos rfl
theorem one_no{z b:Addr}{o:HO}(h:b≠z):one1 z o b=none:=if_neg h
theorem yV{z:Addr}{o:HO}{H:Hp}(h:H z=some o):Same (one1 z o) H:=fun b u e=>by
 by_cases c:b=z
 ·subst c;rw[one_at]at e;cases e;exact h
 ·rw[one_no c]at e;cases e
theorem one_out{z:Addr}{o:HO}{H:Hp}(h:H z=none):Out H (one1 z o):=fun b u e=>one_no fun c=>by rw[c,h]at e;cases e
def emp:Hp:=fun _=>none
theorem emp_sub{H:Hp}:Same emp H:=fun b o e=>nomatch e
theorem emp_out{H:Hp}:Out H emp:=fun b o _=>rfl
theorem InsAt.mono{C:Addr}{H H':Hp}{p:Addr}{n:Nat}{zs:List Int}(h:InsAt C H p n zs)(s:Same H H'):InsAt C H' p n zs:=by
 obtain⟨dx,l,h1,h2⟩:=h
 exact⟨dx,l,s _ _ h1,s _ _ h2⟩
abbrev InsX(C:Addr)(H:Hp)(p:Addr)(x:Ii):Prop:=InsAt C H p x.1 x.2
def Iss(C:Addr)(H:Hp)(a:Addr)(xs:List Ii):Prop:=∃ps:List Addr,H a=some (.lst (ps.map V.ref))∧Paired (InsX C H) ps xs
theorem Iss.mono{C:Addr}{H H':Hp}{a:Addr}{xs:List Ii}(h:Iss C H a xs)(s:Same H H'):Iss C H' a xs:=by
 obtain⟨ps,h1,h2⟩:=h
 exact⟨ps,s _ _ h1,Paired.mapP h2 fun p x q=>InsAt.mono q s⟩
theorem snoc_inv{α β:Type}{R:α→β→Prop}:∀{as:List α} {bs:List β} {b:β},Paired R as (bs++[b])→∃as' a,as=as'++[a]∧Paired R as' bs∧R a b
 |[],bs,b,h=>by
  have:=Paired.length h
  simp at this
 |a::as,[],b,h=>by
  cases h with
  |cons r t=>cases t;exact⟨[],a,rfl,.nil,r⟩
 |a::as,c::bs,b,h=>by
  cases h with
  |cons r t=>
   obtain⟨as',a',e,h1,h2⟩:=snoc_inv t
   exact⟨a::as',a',by rw[e];rfl,.cons r h1,h2⟩
theorem paired_app{α β:Type}{R:α→β→Prop}{as as':List α}{bs bs':List β}(h:Paired R as bs)(h':Paired R as' bs'):Paired R (as++as') (bs++bs'):=by
 induction h with
 |nil=>exact h'
 |cons r t ih=>exact .cons r ih
theorem paired_rev{α β:Type}{R:α→β→Prop}{as:List α}{bs:List β}(h:Paired R as bs):Paired R as.reverse bs.reverse:=by
 induction h with
 |nil=>exact .nil
 |cons r t ih=>
  rw[List.reverse_cons,List.reverse_cons]
  exact paired_app ih (.cons r .nil)
theorem ins_made{C:Addr}{H0 H:Hp}{x dx l:Addr}{n:Nat}{zs:List Int}(s0:Same H0 H)(hx:H x=none)(hd:H dx=none)(ne:dx≠x)(hl:H l=some (.lst (zs.map V.int)))(hl0:H0 l=none):
  ∃W,Same H (upd (upd (upd H dx (.own x)) x (.ins C dx [])) x (.ins C dx (insF n l)))∧Same W (upd (upd (upd H dx (.own x)) x (.ins C dx [])) x (.ins C dx (insF n l)))∧Out H0 W∧InsAt C W x n zs:=by
 have s:Same H (upd (upd (upd H dx (.own x)) x (.ins C dx [])) x (.ins C dx (insF n l))):=by
  rw[yP]
  exact Same.upd' (Same.upd' (Same.refl H) hd) hx
 have s1:Same (one1 l (.lst (zs.map V.int))) (upd (upd (upd H dx (.own x)) x (.ins C dx [])) x (.ins C dx (insF n l))):=yV (s _ _ hl)
 have s2:Same (one1 x (.ins C dx (insF n l))) (upd (upd (upd H dx (.own x)) x (.ins C dx [])) x (.ins C dx (insF n l))):=yV zB
 refine⟨jn (one1 l (.lst (zs.map V.int))) (one1 x (.ins C dx (insF n l))),s,xG s1 s2,(one_out hl0).jn (one_out (s0.free hx)),dx,l,jn_r s1 s2 _ _ one_at,jn_l _ _ one_at⟩
end Pg
namespace Pg
open PySem L2 Ck Ins Cc R
structure NmT (K:PySem.W.Frag) (mg:Str→Option Value):Prop where
 push:∃t,mg "PUSH"=some (.int 1 t)
 load:∃t,mg "LOAD"=some (.int 2 t)
 store:∃t,mg "STORE"=some (.int 3 t)
 loadl:∃t,mg "LOADL"=some (.int 4 t)
 storel:∃t,mg "STOREL"=some (.int 5 t)
 first:∃t,mg "FIRST_LETTER"=some (.int 97 t)
def opnKV:List (List Key×V):=tabKV (fun(n:Nat)=>V.int (n:Int)) OPN
structure InsMk (P:Program) (w:World) (K:PySem.W.Frag) (mg:Str→Option Value) (C aW:Addr) (wA:Nat→Addr) (fI:Addr) (fdI:FuncData):Prop where
 T:InsC K mg C aW wA
 M:Mk K C fI
 FI:Fun K "__init__" "Instruction.__init__" sInit fI fdI
 bI:Binds K fdI ["self","number","operands"] []
section
variable {P:Program}{w:World}{K:PySem.W.Frag}{mg:Str→Option Value}{base:Heap}{C aW aB aC aO aN fI:Addr}{wA:Nat→Addr}{fdI:FuncData}
def spVarIns(C:Addr):Sp:=fun vs H Q _=>∃(q l:Addr) (c:UInt8) (ps:List Bytes) (own shared:Nat),vs=[.ref q,.ref l,.int (own:Int),.int (shared:Int)]∧TupAt H q [c]∧Wds H l ps∧ps.length≤16500∧own<21∧shared<21∧
 ∀H' p W,Same H H'→Same W H'→Out H W→InsX C W p (varIns ps [c] own shared)→Q (.ref p) H'
theorem scVarIns:FnScope ["word","parameters","own","shared"] ["word","parameters","own","shared"] (defScope sVarIns):=⟨rfl,rfl,rfl,by decide +kernel,rfl,by decide +kernel,by decide +kernel⟩
theorem ok_varIns{f:Addr}{fd:FuncData}(D:Dn K mg "variable_instruction" sVarIns f fd ["word","parameters","own","shared"])(J:InsMk P w K mg C aW wA fI fdI)(N:NmT K mg):FnOk P w K mg base CX0 3 f fd ["word","parameters","own","shared"] (spVarIns C):=by
 have GI:FnOk P w K mg base CX0 1 fI fdI ["self","number","operands"] (spInit C):=ok_init J.FI J.T
 refine D.fn.ok scVarIns (fun vs H Q E h=>?_) (fun cdv A outer s H vs Q E hr h=>?_)
 ·obtain⟨q,l,c,ps,own,shared,rfl,_⟩:=h
  rfl
 ·obtain⟨q,l,c,ps,own,shared,rfl,hq,hl,hlen,ho,hs,k⟩:=h
  obtain⟨tf,hf⟩:=N.first
  have hu64:=hr.units
  refine⟨_,zD (zV (zK (op_inW hu64) (pv 0) (pv 1) rfl) (zE (zN (pe_make J.M GI hr (by rfl) J.T.mgC J.bI .nil pass0 (zA (pv 2) (zA (yI (zA (xA PySem.F.plainAttrs_list PySem.F.slot_list_index PySem.F.type_list_index (mt_indexW hu64) (pv 1) (zA (pv 0) zG)) zG)) zG))))) zL)
   (zE (zN (pe_make J.M GI hr (by rfl) J.T.mgC J.bI .nil pass0 (zA (pv 3) (zA (yI (zA (yQ op_sub (yH ix_tup (pv 0) zI (fun _ _=>rfl)) (zQ (v:=V.int 97) (by rfl) hf ⟨tf,rfl⟩)) zG)) zG))))),?_⟩
  have h1:(1:Nat)≤sizeLine:=by have:=zP;omega
  refine⟨_,rfl,_,rfl,q,l,[c],ps,rfl,rfl,hq,hl,_,rfl,?_⟩
  unfold varIns at k
  by_cases g:[c]∈ps
  ·rw[if_pos g]at k
   rw[decide_eq_true g]
   refine iteT ⟨_,rfl,_,rfl,.inl ⟨rfl,_,SqL.of (id hl).choose_spec.1⟩,_,rfl,l,q,[c],ps,rfl,rfl,hl,hlen,hq,g,h1,fun z hz=>?_⟩
   refine fun x dx hx hdx ne=>⟨x,dx,z,own,rfl,ho,zB,rfl,?_⟩
   have sz:Same H (upd H z (.lst [V.int ((ps.idxOf [c]:Nat):Int)])):=Same.upd' (Same.refl H) hz
   obtain⟨W,s1,w1,o1,i1⟩:=ins_made (C:=C) (n:=own) (zs:=[((ps.idxOf [c]:Nat):Int)]) sz hx hdx ne zB hz
   exact k _ x W (sz.trans s1) w1 o1 i1
  ·rw[if_neg g]at k
   rw[decide_eq_false g]
   refine iteF ⟨_,rfl,_,rfl,q,_,_,_,rfl,rfl,SqT.of hq,zW (j:=0) rfl,_,_,rfl,rfl,h1,fun z hz=>?_⟩
   refine fun x dx hx hdx ne=>⟨x,dx,z,shared,rfl,hs,zB,rfl,?_⟩
   have sz:Same H (upd H z (.lst [V.int ((c.toNat:Int) -97)])):=Same.upd' (Same.refl H) hz
   obtain⟨W,s1,w1,o1,i1⟩:=ins_made (C:=C) (n:=shared) (zs:=[(c.toNat:Int) -97]) sz hx hdx ne zB hz
   exact k _ x W (sz.trans s1) w1 o1 i1
theorem numV_val{w:Bytes}(h:isNum w=true):numV w=numVal w:=by
 unfold isNum at h
 simp only[Bool.and_eq_true,decide_eq_true_eq]at h
 obtain⟨_,h2⟩:=h
 unfold numVal
 unfold digits at h2 ⊢
 by_cases c:w.head? =some 45
 ·rw[if_pos c]at h2 ⊢
  rw[if_pos c]
  obtain⟨r,rfl⟩:∃r,w=45::r:=by
   cases w with
   |nil=>cases c
   |cons a r=>simp at c;exact⟨r,by rw[c]⟩
  have e:numV (45::r)= -nvI r:=by
   unfold numV
   rw[if_pos (by simp)]
   rfl
  rw[e]
  have h3:r.all Ls.isDigit=true:=h2
  show -nvI r= -((Ls.valueOf r:Nat):Int)
  rw[←numV_digits h3]
  unfold numV
  rw[if_neg (no_minus h3)]
 ·rw[if_neg c]at h2 ⊢
  rw[if_neg c]
  exact numV_digits h2
def spWordIns(C:Addr):Sp:=fun vs H Q _=>∃(q l:Addr) (b:Bytes) (ps:List Bytes),vs=[.ref q,.ref l]∧TupAt H q b∧b≠[]∧b.length≤16500∧0≤opsW b∧Wds H l ps∧ps.length≤16500∧
 ∀H' p W,Same H H'→Same W H'→Out H W→InsX C W p (wordIns ps b)→Q (.ref p) H'
theorem scWordIns:FnScope ["word","parameters"] ["word","parameters"] (defScope sWordIns):=⟨rfl,rfl,rfl,by decide +kernel,rfl,by decide +kernel,by decide +kernel⟩
theorem ok_wordIns{f f1 f2 f3:Addr}{fd fd1 fd2 fd3:FuncData}(D:Dn K mg "word_instruction" sWordIns f fd ["word","parameters"])(M:LnT P w K mg aB aC aO)(J:InsMk P w K mg C aW wA fI fdI)(N:NmT K mg)(hN:mg "OPERATION_NUMBERS"=some (.ref aN))(hD:ModD P w K aN opnKV)
  (D1:Dn K mg "is_variable" sIsVar f1 fd1 ["word"])(D2:Dn K mg "variable_instruction" sVarIns f2 fd2 ["word","parameters","own","shared"])(D3:Dn K mg "number_value" sValue f3 fd3 ["word"]):FnOk P w K mg base CX0 4 f fd ["word","parameters"] (spWordIns C):=by
 have GI:FnOk P w K mg base CX0 1 fI fdI ["self","number","operands"] (spInit C):=ok_init J.FI J.T
 have G1:FnOk P w K mg base CX0 1 f1 fd1 ["word"] (spW1 isVar):=ok_var D1.fn M
 have G2:FnOk P w K mg base CX0 3 f2 fd2 ["word","parameters","own","shared"] (spVarIns C):=ok_varIns D2 J N
 have G3:FnOk P w K mg base CX0 1 f3 fd3 ["word"] spValue:=ok_value D3 M.wd
 refine D.fn.ok scWordIns (fun vs H Q E h=>?_) (fun cdv A outer s H vs Q E hr h=>?_)
 ·obtain⟨q,l,b,ps,rfl,_⟩:=h
  rfl
 ·obtain⟨q,l,b,ps,rfl,hq,hne,hbl,hop,hl,hlen,k⟩:=h
  obtain⟨t1,n1⟩:=N.push
  obtain⟨t2,n2⟩:=N.load
  obtain⟨t4,n4⟩:=N.loadl
  have hu:=hu_of hr
  have hr1:Room 1 _:=hr.mono (by decide)
  have hr2:Room 2 _:=hr.mono (by decide)
  refine⟨_,zD (zV (pt_cmp (pc_min hu hD (by rfl) hN (pv 0))) (zE (zN (pe_make J.M GI hr2 (by rfl) J.T.mgC J.bI .nil pass0 (zA (pe_mitem hu hD (by rfl) hN (pv 0) (fun _ _=>rfl)) (zA (yI zG) zG))))) zL)
   (zD (zV (pt_val (zS G1 hr1 (by rfl) D1.at_ D1.fn.kp D1.bd .nil pass0 (zA (pv 0) zG)) (fun _=>rfl)) (zE (zN (zS G2 hr (by rfl) D2.at_ D2.fn.kp D2.bd .nil pass0 (zA (pv 0) (zA (pv 1) (zA (zQ (v:=V.int 4) (by rfl) n4 ⟨t4,rfl⟩) (zA (zQ (v:=V.int 2) (by rfl) n2 ⟨t2,rfl⟩) zG))))))) zL)
   (zE (zN (pe_make J.M GI hr2 (by rfl) J.T.mgC J.bI .nil pass0 (zA (zQ (v:=V.int 1) (by rfl) n1 ⟨t1,rfl⟩) (zA (yI (zA (zS G3 hr1 (by rfl) D3.at_ D3.fn.kp D3.bd .nil pass0 (zA (pv 0) zG)) zG)) zG)))))),?_⟩
  have h1:(1:Nat)≤sizeLine:=by have:=zP;omega
  have hv:valV opnKV (kB b)=(OPN.lookup b).map fun(n:Nat)=>V.int (n:Int):=tab_val _ b OPN
  have hbk:H q=some (.tup ((kB b).map kV)):=by rw[kB_kV];exact hq
  refine⟨_,rfl,kB b,q,rfl,hbk,_,rfl,?_⟩
  rw[hv]
  have hok:=(wordIns_ok ps b).1.1
  unfold wordIns at k hok
  cases e:OPN.lookup b with
  |some n=>
   rw[e]at k hok
   refine iteT ⟨_,rfl,kB b,q,_,rfl,hbk,(by rw[hv,e];rfl),zero_line,fun z hz=>?_⟩
   refine fun x dx hx hdx ne=>⟨x,dx,z,n,rfl,hok,zB,rfl,?_⟩
   have sz:Same H (upd H z (.lst [])):=Same.upd' (Same.refl H) hz
   obtain⟨W,s1,w1,o1,i1⟩:=ins_made (C:=C) (n:=n) (zs:=[]) sz hx hdx ne zB hz
   exact k _ x W (sz.trans s1) w1 o1 i1
  |none=>
   rw[e]at k
   simp only at k
   refine iteF ⟨_,rfl,q,b,rfl,hq,hbl,_,rfl,?_⟩
   cases e1:isVar b with
   |true=>
    rw[e1]at k
    obtain⟨c,rfl⟩:∃c,b=[c]:=by
     match b with
     |[]=>exact absurd rfl hne
     |[c]=>exact⟨c,rfl⟩
     |_::_::_=>cases e1
    refine iteT ⟨_,rfl,_,rfl,q,l,c,ps,4,2,rfl,hq,hl,hlen,by decide,by decide,fun H' p W s w o hi=>k H' p W s w o hi⟩
   |false=>
    rw[e1]at k
    have hnum:isNum b=true:=by
     unfold opsW at hop
     cases e3:OPS.lookup b with
     |some n=>
      exfalso
      have:OPN.lookup b≠none:=by
       intro _
       by_cases h43:b=[43];· subst h43;cases e
       by_cases h45:b=[45];· subst h45;cases e
       by_cases h42:b=[42];· subst h42;cases e
       by_cases h47:b=[47];· subst h47;cases e
       by_cases h37:b=[37];· subst h37;cases e
       by_cases h60:b=[60];· subst h60;cases e
       by_cases h61:b=[61];· subst h61;cases e
       by_cases h33:b=[33];· subst h33;cases e
       have t:∀x:Bytes,¬b=x→(b==x)=false:=fun x h=>by simpa using h
       simp[OPS,List.lookup,t _ h43,t _ h45,t _ h42,t _ h47,t _ h37,t _ h60,t _ h61,t _ h33]at e3
      exact this e
     |none=>
      rw[e3,e1,Bool.false_or]at hop
      cases e2:isNum b with
      |true=>rfl
      |false=>rw[e2]at hop;simp at hop
    refine iteF ⟨_,rfl,q,b,rfl,hq,hbl,h1,fun z hz=>?_⟩
    refine fun x dx hx hdx ne=>⟨x,dx,z,1,rfl,by decide,zB,rfl,?_⟩
    rw[numV_val hnum]at hx hdx ⊢
    have sz:Same H (upd H z (.lst [V.int (numVal b)])):=Same.upd' (Same.refl H) hz
    obtain⟨W,s1,w1,o1,i1⟩:=ins_made (C:=C) (n:=1) (zs:=[numVal b]) sz hx hdx ne zB hz
    exact k _ x W (sz.trans s1) w1 o1 i1
end
end Pg
namespace Pg
open PySem L2 Ck Ins Cc R
section
variable {P:Program}{w:World}{K:PySem.W.Frag}{mg:Str→Option Value}{base:Heap}{C aW aB aC aO aN fI:Addr}{wA:Nat→Addr}{fdI:FuncData}
def spSteps(C:Addr):Sp:=fun vs H Q _=>∃(a l:Addr) (ws ps:List Bytes) (m:Nat),vs=[.ref a,.ref l]∧Wds H a ws∧(∀w∈ws,w≠[]∧w.length≤16500)∧ws.length≤16500∧exprsP (m:Int) ws=true∧Wds H l ps∧ps.length≤16500∧
 ∀H' p W,Same H H'→Same W H'→Out H W→Iss C W p (stepsP ps ws)→Q (.ref p) H'
theorem scSteps:FnScope ["words","parameters","ready","word","steps","operand","joined"] ["words","parameters"] (defScope sSteps):=⟨rfl,rfl,rfl,by decide +kernel,rfl,by decide +kernel,by decide +kernel⟩
theorem rd_drop{ws:List Bytes}{i:Nat}{b:Bytes}(h:ws.reverse[i]? =some b):i<ws.length∧ws.drop (ws.length- (i+1))=b::ws.drop (ws.length-i):=by
 have hi:i<ws.length:=by have:=(List.getElem?_eq_some_iff.mp h).1;simpa using this
 refine⟨hi,?_⟩
 have h1:ws.length- (i+1) <ws.length:=by omega
 rw[List.drop_eq_getElem_cons h1,show ws.length- (i+1) +1=ws.length-i by omega]
 congr 1
 rw[List.getElem?_reverse hi]at h
 have:=(List.getElem?_eq_some_iff.mp h).2
 simp only[show ws.length-1-i=ws.length- (i+1) by omega]at this
 exact this
theorem exprs_drop:∀(ws:List Bytes) (m:Nat) (i:Nat),exprsP (m:Int) ws=true→∃m':Nat,exprsP (m':Int) (ws.drop i)=true
 |ws,m,0,h=>⟨m,by simpa using h⟩
 |[],m,i+1,h=>⟨m,by simpa using h⟩
 |w::r,m,i+1,h=>by
  rw[exprsP]at h
  by_cases c:(m:Int)=0∨opsW w<0
  ·rw[if_pos c]at h;cases h
  ·rw[if_neg c]at h
   have c1:¬((m:Int)=0):=fun z=>c (.inl z)
   have c2:¬(opsW w<0):=fun z=>c (.inr z)
   have e:(m:Int) -1+opsW w=((m-1+ (opsW w).toNat:Nat):Int):=by omega
   rw[e]at h
   obtain⟨m',h'⟩:=exprs_drop r _ i h
   exact⟨m',by simpa using h'⟩
theorem wants(ps:List Bytes){b:Bytes}{r:List Bytes}{m:Nat}(h:exprsP (m:Int) (b::r)=true):0≤opsW b∧(opsW b).toNat≤(readyP ps r).length∧(opsW b).toNat≤2:=by
 rw[exprsP]at h
 by_cases c:(m:Int)=0∨opsW b<0
 ·rw[if_pos c]at h;cases h
 ·rw[if_neg c]at h
  have c1:¬((m:Int)=0):=fun z=>c (.inl z)
  have c2:¬(opsW b<0):=fun z=>c (.inr z)
  have e:(m:Int) -1+opsW b=((m-1+ (opsW b).toNat:Nat):Int):=by omega
  rw[e]at h
  have:=(ready_len ps r _ h).1
  refine⟨by omega,by omega,?_⟩
  rw[opsW_look]
  unfold look
  split
  ·decide
  ·split
   ·decide
   ·split
    ·decide
    ·split<;>decide
theorem ready_few(ps:List Bytes)(ws:List Bytes):(readyP ps ws).length≤ws.length:=by
 induction ws with
 |nil=>simp[readyP]
 |cons w r ih=>rw[readyP,List.length_cons,List.length_drop,List.length_cons];omega
theorem take_flat_le{α:Type}:∀(l:List (List α)) (j:Nat),(l.take j).flatten.length≤l.flatten.length
 |[],j=>by simp
 |x::r,0=>by simp
 |x::r,j+1=>by
  rw[List.take_succ_cons,List.flatten_cons,List.flatten_cons,List.length_append,List.length_append]
  have:=take_flat_le r j
  omega
theorem flat_succ{α:Type}(l:List (List α))(j:Nat)(x:List α)(h:l[j]? =some x):(l.take (j+1)).flatten=(l.take j).flatten++x:=by
 rw[List.take_succ,h,List.flatten_append]
 simp
theorem ok_steps{f f1 f2 f3 f4 fD fW:Addr}{fd fd1 fd2 fd3 fd4 fdD fdW:FuncData}(D:Dn K mg "expression_steps" sSteps f fd ["words","parameters"])(M:LnT P w K mg aB aC aO)
  (D1:Dn K mg "is_variable" sIsVar f1 fd1 ["word"])(D2:Dn K mg "is_number" sIsNum f2 fd2 ["word"])(DD:Dn K mg "are_digits" sDigits fD fdD ["signs"])(D3:Dn K mg "operands_wanted" sOps f3 fd3 ["word"])
  (DW:Dn K mg "word_instruction" sWordIns fW fdW ["word","parameters"])(GW:FnOk P w K mg base CX0 4 fW fdW ["word","parameters"] (spWordIns C))(hrg:mg "range"=none)(hrv:mg "reversed"=none):FnOk P w K mg base CX0 5 f fd ["words","parameters"] (spSteps C):=by
 have G3:FnOk P w K mg base CX0 3 f3 fd3 ["word"] spOps:=ok_ops D3 M D1 D2 DD
 refine D.fn.ok scSteps (fun vs H Q E h=>?_) (fun cdv A outer s H vs Q E hr h=>?_)
 ·obtain⟨a,l,ws,ps,m,rfl,_⟩:=h
  rfl
 ·obtain⟨a,l,ws,ps,m,rfl,hw,hgood,hwl,hex,hl,hlen,k⟩:=h
  obtain⟨pw,hpw,hpr⟩:=id hw
  have hpl:=Paired.length hpr
  have hr3:Room 3 _:=hr.mono (by decide)
  refine⟨_,zD (zZ (i:=2) scSteps.nd rfl (Or.inl rfl) (yI zG))
   (zD (ps_for PassesOwn.never rfl (pi_reversed (by rfl) hrv (zA (pv 0) zG)) (yJ (i:=3) scSteps.nd rfl (Or.inl rfl))
    (zD (zZ (i:=4) scSteps.nd rfl (Or.inl rfl) (yI zG))
    (zD (ps_for PassesOwn.never rfl (pi_range1 (by rfl) hrg (zA (zS G3 hr3 (by rfl) D3.at_ D3.fn.kp D3.bd .nil pass0 (zA (pv 3) zG)) zG)) (yJ (i:=5) scSteps.nd rfl (Or.inl rfl))
     (zE (yA (xA PySem.F.plainAttrs_list PySem.F.slot_list_extend PySem.F.type_list_extend mt_extend (pv 4) (zA (pe_bm0 PySem.F.plainAttrs_list PySem.F.slot_list_pop PySem.F.type_list_pop mt_pop (pv 2)) zG)))))
    (zD (yA (xA PySem.F.plainAttrs_list PySem.F.slot_list_append PySem.F.type_list_append yD (pv 4) (zA (zS GW hr (by rfl) DW.at_ DW.fn.kp DW.bd .nil pass0 (zA (pv 3) (zA (pv 1) zG))) zG)))
    (zE (yA (xA PySem.F.plainAttrs_list PySem.F.slot_list_append PySem.F.type_list_append yD (pv 2) (zA (pv 4) zG))))))))
   (zD (zZ (i:=6) scSteps.nd rfl (Or.inl rfl) (yI zG))
   (zD (ps_for PassesOwn.never rfl (pi_reversed (by rfl) hrv (zA (pv 2) zG)) (yJ (i:=4) scSteps.nd rfl (Or.inl rfl))
     (zE (yA (xA PySem.F.plainAttrs_list PySem.F.slot_list_extend PySem.F.type_list_extend mt_extend (pv 6) (zA (pv 4) zG)))))
   (zE (zN (pv 6)))))),?_⟩
  refine⟨zero_line,fun Rd hRd=>?_⟩
  have hxl:(pw.map V.ref).length=ws.length:=by rw[List.length_map,hpl]
  refine⟨_,rfl,a,_,rfl,SqL.of ((Same.upd' (Same.refl H) hRd) _ _ hpw),for_rev (K:=K) (a:=a) (xs:=pw.map V.ref) (fun i σ H2=>∃(W:Hp) (rs:List Addr) (v3 v4 v5:Option V),σ=[some (.ref a),some (.ref l),some (.ref Rd),v3,v4,v5,none]∧
    Same H H2∧Same W H2∧Out H W∧W Rd=none∧H2 Rd=some (.lst (rs.map V.ref))∧Paired (Iss C W) rs (readyP ps (ws.drop (ws.length-i))).reverse)
   ⟨emp,[],none,none,none,rfl,Same.upd' (Same.refl H) hRd,emp_sub,emp_out,rfl,zB,by rw[Nat.sub_zero,List.drop_length];exact .nil⟩
   (fun i σ H2 _ ⟨_,_,_,_,_,_,s2,_⟩=>SqL.of (s2 _ _ hpw)) ?_ ?_⟩
  ·rintro i y σ H2 hi ⟨W,rs,v3,v4,v5,rfl,s2,sW,oW,wR,hR2,hrs⟩
   rw[←List.map_reverse,List.getElem?_map]at hi
   cases e:pw.reverse[i]? with
   |none=>rw[e]at hi;cases hi
   |some p=>
    rw[e]at hi
    obtain rfl:V.ref p=y:=Option.some.inj hi
    obtain⟨b,hb,hTb⟩:=paired_at' (paired_rev hpr) e
    obtain⟨hiw,hdr⟩:=rd_drop hb
    have hbm:b∈ws:=List.mem_reverse.mp (List.mem_of_getElem? hb)
    have hbg:=hgood b hbm
    obtain⟨m',hex'⟩:=exprs_drop ws m (ws.length- (i+1)) hex
    rw[hdr]at hex'
    obtain⟨hop0,hopn,hop2⟩:=wants ps hex'
    rw[hdr,readyP]
    have hfew:=ready_few ps (ws.drop (ws.length-i))
    have hcnt:=ready_count ps (ws.drop (ws.length-i))
    rw[List.length_drop]at hfew hcnt
    generalize hX:readyP ps (ws.drop (ws.length-i))=X at hrs hopn hfew hcnt ⊢
    refine⟨zero_line,fun S hS=>?_⟩
    have hS0:H S=none:=s2.free hS
    have wS:W S=none:=sW.free hS
    have nRS:Rd≠S:=zH hR2 hS
    have sS:Same H2 (upd H2 S (.lst [])):=Same.upd' (Same.refl _) hS
    have hSS:(upd H2 S (.lst [])) S=some (.lst []):=zB
    have hR3:=sS _ _ hR2
    have s3:Same H (upd H2 S (.lst [])):=s2.trans sS
    have sW3:Same W (upd H2 S (.lst [])):=sW.trans sS
    revert hSS hR3 s3 sW3
    generalize upd H2 S (.lst [])=H3
    intro hSS hR3 s3 sW3
    refine⟨_,rfl,p,b,rfl,s3 _ _ hTb,hbg.1,hbg.2,fun H4 s4=>?_⟩
    refine⟨_,rfl,by omega,by omega,for_range (lo:=0) (n:=(opsW b).toNat) (fun j σ H5=>∃(rs1 is:List Addr) (v5:Option V),σ=[some (.ref a),some (.ref l),some (.ref Rd),some (.ref p),some (.ref S),v5,none]∧
      Same H H5∧Same W H5∧H5 Rd=some (.lst (rs1.map V.ref))∧Paired (Iss C W) rs1 (X.drop j).reverse∧H5 S=some (.lst (is.map V.ref))∧Paired (InsX C W) is (X.take j).flatten)
     ⟨rs,[],v5,rfl,s3.trans s4,sW3.trans s4,s4 _ _ hR3,by rw[List.drop_zero];exact hrs,s4 _ _ hSS,.nil⟩ ?_ ?_⟩
    ·rintro j σ H5 hj ⟨rs1,is,v5',rfl,s5,sW5,hR5,hrs1,hS5,his⟩
     have hjx:j<X.length:=by omega
     have hdX:X.drop j=X[j]::X.drop (j+1):=List.drop_eq_getElem_cons hjx
     rw[hdX,List.reverse_cons]at hrs1
     obtain⟨rs',r0,rfl,hrs',⟨qs,hq,hqs⟩⟩:=snoc_inv hrs1
     have hisl:=Paired.length his
     have hqsl:=Paired.length hqs
     have hr0:r0≠Rd:=fun z=>by rw[z,wR]at hq;cases hq
     refine⟨_,rfl,.inl ⟨rfl,_,SqL.of hS5⟩,_,rfl,.inl ⟨rfl,_,SqL.of hR5⟩,Rd,_,V.ref r0,rfl,rfl,hR5,by simp,?_⟩
     have hr0v:(upd H5 Rd (.lst ((rs'++[r0]).map V.ref).dropLast)) r0=some (.lst (qs.map V.ref)):=by rw[zF hr0];exact sW5 _ _ hq
     have hSv:(upd H5 Rd (.lst ((rs'++[r0]).map V.ref).dropLast)) S=some (.lst (is.map V.ref)):=by rw[zF nRS.symm];exact hS5
     have hfl:(X.take (j+1)).flatten=(X.take j).flatten++X[j]:=flat_succ X j _ (List.getElem?_eq_getElem hjx)
     have hle:=take_flat_le X (j+1)
     rw[hfl,List.length_append,hcnt]at hle
     refine⟨S,r0,_,_,rfl,rfl,hSv,hr0v,?_,?_⟩
     ·rw[List.length_map,List.length_map,hisl,hqsl];have:=zP;omega
     refine⟨rs',is++qs,_,rfl,Same.upd' (Same.upd' s5 hRd) hS0,Same.upd' (Same.upd' sW5 wR) wS,?_,hrs',?_,?_⟩
     ·rw[zF nRS,zB];simp
     ·rw[zB,List.map_append]
     ·rw[hfl];exact paired_app his hqs
    ·rintro σ H5 ⟨rs1,is,v5',rfl,s5,sW5,hR5,hrs1,hS5,his⟩
     have hisl:=Paired.length his
     have hle:=take_flat_le X (opsW b).toNat
     rw[hcnt]at hle
     refine⟨_,rfl,.inl ⟨rfl,_,SqL.of hS5⟩,_,rfl,_,rfl,p,l,b,ps,rfl,s5 _ _ hTb,hbg.1,hbg.2,hop0,hl.mono s5,hlen,fun H6 q W1 s6 sW1 oW1 hq=>?_⟩
     have hS6:=s6 _ _ hS5
     have hR6:=s6 _ _ hR5
     have w1S:W1 S=none:=oW1 _ _ hS5
     have w1R:W1 Rd=none:=oW1 _ _ hR5
     refine⟨S,_,_,rfl,rfl,hS6,by rw[List.length_map,hisl];have:=zP;omega,?_⟩
     have hS7:(upd H6 S (.lst (is.map V.ref++[V.ref q]))) S=some (.lst ((is++[q]).map V.ref)):=by rw[zB,List.map_append];rfl
     have hR7:(upd H6 S (.lst (is.map V.ref++[V.ref q]))) Rd=some (.lst (rs1.map V.ref)):=by rw[zF nRS];exact hR6
     have s7:Same H (upd H6 S (.lst (is.map V.ref++[V.ref q]))):=Same.upd' (s5.trans s6) hS0
     have sW7:Same W (upd H6 S (.lst (is.map V.ref++[V.ref q]))):=Same.upd' (sW5.trans s6) wS
     have sV7:Same W1 (upd H6 S (.lst (is.map V.ref++[V.ref q]))):=Same.upd' sW1 w1S
     revert hS7 hR7 s7 sW7 sV7
     generalize upd H6 S (.lst (is.map V.ref++[V.ref q]))=H7
     intro hS7 hR7 s7 sW7 sV7
     have hrl:=Paired.length hrs1
     rw[List.length_reverse,List.length_drop]at hrl
     refine⟨_,rfl,.inl ⟨rfl,_,SqL.of hR7⟩,_,rfl,Rd,_,_,rfl,rfl,hR7,by rw[List.length_map,hrl];have:=zP;omega,?_⟩
     have sJ:=xG sW7 sV7
     have sJS:Same (jn (jn W W1) (one1 S (.lst ((is++[q]).map V.ref)))) (upd H7 Rd (.lst (rs1.map V.ref++[V.ref S]))):=xG (Same.upd' sJ (yG wR w1R)) (yV (by rw[zF nRS.symm];exact hS7))
     have sub0:Same W (jn (jn W W1) (one1 S (.lst ((is++[q]).map V.ref)))):=jn_l.trans jn_l
     have sub1:Same W1 (jn (jn W W1) (one1 S (.lst ((is++[q]).map V.ref)))):=(jn_r sW7 sV7).trans jn_l
     refine⟨jn (jn W W1) (one1 S (.lst ((is++[q]).map V.ref))),rs1++[S],_,_,_,rfl,Same.upd' s7 hRd,sJS,(oW.jn (oW1.sub s5)).jn (one_out hS0),yG (yG wR w1R) (one_no nRS),by rw[zB,List.map_append];rfl,?_⟩
     rw[List.reverse_cons]
     refine paired_app (Paired.mapP hrs1 fun r x hx=>hx.mono sub0) (.cons ?_ .nil)
     refine⟨is++[q],jn_r sJ (yV hS7) _ _ one_at,?_⟩
     exact paired_app (Paired.mapP his fun r x hx=>InsAt.mono hx sub0) (.cons (InsAt.mono hq sub1) .nil)
  ·rintro σ H2 ⟨W,rs,v3,v4,v5,rfl,s2,sW,oW,wR,hR2,hrs⟩
   rw[hxl,Nat.sub_self,List.drop_zero]at hrs
   have hcnt:=ready_count ps ws
   have hfew:=ready_few ps ws
   have hrl:=Paired.length hrs
   rw[List.length_reverse]at hrl
   unfold stepsP at k
   generalize readyP ps ws=X at hrs hcnt hfew hrl k
   refine⟨zero_line,fun J hJ=>?_⟩
   have hJ0:H J=none:=s2.free hJ
   have wJ:W J=none:=sW.free hJ
   have nRJ:Rd≠J:=zH hR2 hJ
   have hR3:(upd H2 J (.lst [])) Rd=some (.lst (rs.map V.ref)):=by rw[zF nRJ];exact hR2
   have hxr:(rs.map V.ref).length=X.length:=by rw[List.length_map,hrl]
   refine⟨_,rfl,Rd,_,rfl,SqL.of hR3,for_rev (K:=K) (a:=Rd) (xs:=rs.map V.ref) (fun i σ H3=>∃(is:List Addr) (v4:Option V),σ=[some (.ref a),some (.ref l),some (.ref Rd),v3,v4,v5,some (.ref J)]∧
     Same H H3∧Same W H3∧H3 Rd=some (.lst (rs.map V.ref))∧H3 J=some (.lst (is.map V.ref))∧Paired (InsX C W) is (X.take i).flatten)
    ⟨[],v4,rfl,Same.upd' s2 hJ0,Same.upd' sW wJ,hR3,zB,.nil⟩ (fun i σ H3 _ ⟨_,_,_,_,_,h3,_⟩=>SqL.of h3) ?_ ?_⟩
   ·rintro i y σ H3 hi ⟨is,v4',rfl,s3,sW3,hR3',hJ3,his⟩
    rw[←List.map_reverse,List.getElem?_map]at hi
    cases e:rs.reverse[i]? with
    |none=>rw[e]at hi;cases hi
    |some r0=>
     rw[e]at hi
     obtain rfl:V.ref r0=y:=Option.some.inj hi
     have hrr:=paired_rev hrs
     rw[List.reverse_reverse]at hrr
     obtain⟨x,hx,⟨qs,hq,hqs⟩⟩:=paired_at' hrr e
     have hfl:=flat_succ X i x hx
     have hle:=take_flat_le X (i+1)
     rw[hfl,List.length_append,hcnt]at hle
     have hisl:=Paired.length his
     have hqsl:=Paired.length hqs
     refine⟨_,rfl,.inl ⟨rfl,_,SqL.of hJ3⟩,_,rfl,J,r0,_,_,rfl,rfl,hJ3,sW3 _ _ hq,by rw[List.length_map,List.length_map,hisl,hqsl];have:=zP;omega,?_⟩
     refine⟨is++qs,_,rfl,Same.upd' s3 hJ0,Same.upd' sW3 wJ,by rw[zF nRJ];exact hR3',by rw[zB,List.map_append],?_⟩
     rw[hfl];exact paired_app his hqs
   ·rintro σ H3 ⟨is,v4',rfl,s3,sW3,hR3',hJ3,his⟩
    rw[hxr,List.take_length]at his
    refine⟨_,rfl,?_⟩
    have s1:Same (one1 J (.lst (is.map V.ref))) H3:=yV hJ3
    exact k H3 J _ s3 (xG sW3 s1) (oW.jn (one_out hJ0)) ⟨is,jn_r sW3 s1 _ _ one_at,Paired.mapP his fun r x hx=>InsAt.mono hx jn_l⟩
end
end Pg
namespace Pg
open PySem L2 Ck Ins Cc R
def PrO(W:Hp)(kvs:List (List Key×V))(R:PrT):Prop:=∀q:Bytes,match R.lookup q with
 |some e=>∃t,valV kvs (kB q)=some (.ref t)∧W t=some (.tup [.int (e.1:Int),.int (e.2:Int)])
 |none=>valV kvs (kB q)=none
def PrcAt(W:Hp)(d:Addr)(R:PrT):Prop:=∃kvs,W d=some (.dT kvs)∧PrO W kvs R
theorem PrO.mono{W U:Hp}{kvs:List (List Key×V)}{R:PrT}(h:PrO W kvs R)(s:Same W U):PrO U kvs R:=fun q=>by
 have:=h q
 cases e:R.lookup q with
 |none=>rw[e]at this;exact this
 |some x=>rw[e]at this;obtain⟨t,h1,h2⟩:=this;exact⟨t,h1,s _ _ h2⟩
theorem PrcAt.mono{W U:Hp}{d:Addr}{R:PrT}(h:PrcAt W d R)(s:Same W U):PrcAt U d R:=by
 obtain⟨kvs,h1,h2⟩:=h
 exact⟨kvs,s _ _ h1,h2.mono s⟩
theorem PrO.put{W:Hp}{kvs:List (List Key×V)}{R:PrT}(h:PrO W kvs R){b:Bytes}{t:Addr}{x:Nat×Nat}(ht:W t=some (.tup [.int (x.1:Int),.int (x.2:Int)])):PrO W (putK kvs (kB b) (.ref t)) (putB R b x):=fun q=>by
 rw[putB_lookup,valV_put]
 by_cases e:q=b
 ·subst e
  rw[if_pos rfl,if_pos rfl]
  exact⟨t,rfl,ht⟩
 ·rw[if_neg e,if_neg (fun z=>e (kB_inj z))]
  exact h q
theorem putK_len{kvs:List (List Key×V)}{k:List Key}{v:V}:(putK kvs k v).length≤kvs.length+1:=by
 unfold putK
 split
 ·rw[List.length_map];omega
 ·rw[List.length_append];simp
section
variable {P:Program}{w:World}{K:PySem.W.Frag}{mg:Str→Option Value}{base:Heap}{C aW aB aC aO aN fI:Addr}{wA:Nat→Addr}{fdI:FuncData}
def GoodL(Ws:List (List Bytes)):Prop:=∀ws∈Ws,(∀w∈ws,w≠[]∧w.length≤16500)∧ws.length≤16500∧(kindOf ws=.proc→2≤ws.length)
def spProcs:Sp:=fun vs H Q _=>∃(a:Addr) (Ws:List (List Bytes)),vs=[.ref a]∧Lns H a Ws∧Ws.length≤16500∧GoodL Ws∧∀H' p W,Same H H'→Same W H'→Out H W→PrcAt W p (procsP 0 [] Ws)→Q (.ref p) H'
theorem scProcs:FnScope ["rows","found","place","words"] ["rows"] (defScope sProcs):=⟨rfl,rfl,rfl,by decide +kernel,rfl,by decide +kernel,by decide +kernel⟩
theorem ok_procs{f fK:Addr}{fd fdK:FuncData}(D:Dn K mg "procedures_of" sProcs f fd ["rows"])(M:LnT P w K mg aB aC aO)(DK:Dn K mg "line_kind" sKind fK fdK ["words"]):FnOk P w K mg base CX0 2 f fd ["rows"] spProcs:=by
 have GK:FnOk P w K mg base CX0 1 fK fdK ["words"] spKind:=ok_kind DK M
 refine D.fn.ok scProcs (fun vs H Q E h=>?_) (fun cdv A outer s H vs Q E hr h=>?_)
 ·obtain⟨a,Ws,rfl,_⟩:=h
  rfl
 ·obtain⟨a,Ws,rfl,hLn,hWl,hgood,k⟩:=h
  obtain⟨pr,hpr,hpp⟩:=id hLn
  have hpl:=Paired.length hpp
  have hu:=hu_of hr
  have h2l:(2:Nat)≤sizeLine:=by have:=zP;omega
  refine⟨_,zD (zZ (i:=1) scProcs.nd rfl (Or.inl rfl) pe_dnewT)
   (zD (ps_for PassesOwn.never rfl (pi_enum (by rfl) M.enum (zA (pv 0) zG)) (pg_tup rfl (pgs_cons (yJ (i:=2) scProcs.nd rfl (Or.inl rfl)) (pgs_cons (yJ (i:=3) scProcs.nd rfl (Or.inl rfl)) pgs_nil)))
    (zE (zV (zK yC (zS GK hr (by rfl) DK.at_ DK.fn.kp DK.bd .nil pass0 (zA (pv 3) zG)) zT (zM _))
     (zE (ps_dput hu (pv 1) (yH yB (pv 3) zI (fun _ _=>rfl)) (pe_tup (zA (yQ op_add (pv 2) zI) (zA (yQ op_sub (zU zR (by rfl) M.wd.len PySem.boot_len (zA (pv 3) zG)) zI) zG))) rfl)) zL)))
   (zE (zN (pv 1)))),?_⟩
  refine fun d hd=>?_
  have s0:Same H (upd H d (.dT [])):=Same.upd' (Same.refl H) hd
  refine⟨_,rfl,a,_,rfl,SqL.of (s0 _ _ hpr),for_enum (K:=K) (a:=a) (J:=Ite K a) (xs:=pr.map V.ref) (num:=fun i=>(i:Int)) (fun i H h=>h) (fun i H h=>h) (fun i H v H' h=>h)
   (fun i σ H2=>∃(W:Hp) (kvs:List (List Key×V)) (R:PrT) (v2 v3:Option V),σ=[some (.ref a),some (.ref d),v2,v3]∧Same H H2∧Same W H2∧Out H W∧W d=none∧H2 d=some (.dT kvs)∧kvs.length≤i∧PrO W kvs R∧procsP i R (Ws.drop i)=procsP 0 [] Ws)
   ⟨emp,[],[],none,none,rfl,s0,emp_sub,emp_out,rfl,zB,Nat.le_refl _,fun q=>rfl,rfl⟩ (fun i σ H2 _ ⟨_,_,_,_,_,_,s2,_⟩=>SqL.of (s2 _ _ hpr)) ?_ ?_⟩
  ·rintro i x σ H2 t hx ht ⟨W,kvs,R,v2,v3,rfl,s2,sW,oW,wd,hd2,hkl,hO,he⟩
   rw[List.getElem?_map]at hx
   obtain⟨q,hq,rfl⟩:=Option.map_eq_some_iff.mp hx
   obtain⟨ws,hws,hqw⟩:=paired_at' hpp hq
   have hil:i<Ws.length:=(List.getElem?_eq_some_iff.mp hws).1
   have ed:Ws.drop i=ws::Ws.drop (i+1):=by rw[List.drop_eq_getElem_cons hil,(List.getElem?_eq_some_iff.mp hws).2]
   rw[ed,procsP]at he
   obtain⟨g1,g2,g3⟩:=hgood ws (List.mem_of_getElem? hws)
   refine⟨t,_,rfl,SqT.of zB,rfl,_,_,rfl,_,_,rfl,rfl,?_⟩
   have st2:Same H2 (upd H2 t (.tup [.int (i:Int),V.ref q])):=Same.upd' (Same.refl _) ht
   have s3:=s2.trans st2
   have sW3:=sW.trans st2
   have hd3:=st2 _ _ hd2
   revert s3 sW3 hd3
   generalize upd H2 t (.tup [.int (i:Int),V.ref q])=H3
   intro s3 sW3 hd3
   have hqw3:=hqw.mono s3
   refine⟨_,rfl,q,ws,rfl,hqw3,g1,rfl,_,rfl,?_⟩
   show if decide (V.str (kdStr (kindOf ws))=V.str (kdStr .proc))=true then _ else _
   rw[yL]
   by_cases c:kindOf ws=.proc
   ·rw[decide_eq_true c]
    rw[if_pos c]at he
    have hl2:=g3 c
    obtain⟨pw,hpw,hprw⟩:=id hqw3
    obtain⟨w1,hw1⟩:∃w1,ws[1]? =some w1:=⟨ws[1],List.getElem?_eq_getElem (by omega)⟩
    have ew1:ws.getD 1 []=w1:=by rw[List.getD_eq_getElem?_getD,hw1];rfl
    obtain⟨p1,hp1,hT1⟩:=wd_at hprw hw1
    have hpwl:=Paired.length hprw
    refine iteT ⟨_,rfl,_,_,rfl,rfl,_,rfl,q,_,rfl,.inl (SqL.of hpw),_,_,rfl,rfl,h2l,fun z hz=>?_⟩
    rw[List.length_map,hpwl]
    have ez:(((ws.length:Nat):Int) -2)=((ws.length-2:Nat):Int):=by omega
    dsimp only
    rw[ez]
    have sz:Same H3 (upd H3 z (.tup [.int ((i:Int) +1),.int ((ws.length-2:Nat):Int)])):=Same.upd' (Same.refl _) hz
    have hzz:(upd H3 z (.tup [.int ((i:Int) +1),.int ((ws.length-2:Nat):Int)])) z=some (.tup [.int ((i:Int) +1),.int ((ws.length-2:Nat):Int)]):=zB
    have hdz:z≠d:=(zH hd3 hz).symm
    have hz0:H z=none:=s3.free hz
    have s4:=s3.trans sz
    have sW4:=sW3.trans sz
    have hd4:=sz _ _ hd3
    have hpw4:=sz _ _ hpw
    have hT4:=sz _ _ hT1
    revert s4 sW4 hd4 hpw4 hT4 hzz
    generalize upd H3 z (.tup [.int ((i:Int) +1),.int ((ws.length-2:Nat):Int)])=H4
    intro hzz s4 sW4 hd4 hpw4 hT4
    have hk1:H4 p1=some (.tup ((kB w1).map kV)):=by rw[kB_kV];exact hT4
    refine⟨_,rfl,_,rfl,q,_,_,_,rfl,rfl,SqL.of hpw4,zW (j:=1) hp1,d,_,rfl,.inr ⟨_,kB w1,p1,hd4,rfl,hk1,by have:=zP;omega,rfl⟩,?_⟩
    have s1z:Same (one1 z (.tup [.int ((i:Int) +1),.int ((ws.length-2:Nat):Int)])) H4:=yV hzz
    have wdz:(one1 z (.tup [.int ((i:Int) +1),.int ((ws.length-2:Nat):Int)])) d=none:=one_no hdz.symm
    refine⟨jn W (one1 z (.tup [.int ((i:Int) +1),.int ((ws.length-2:Nat):Int)])),_,putB R w1 (i+1,ws.length-2),_,_,rfl,Same.upd' s4 hd,Same.upd' (xG sW4 s1z) (yG wd wdz),oW.jn (one_out hz0),yG wd wdz,zB,Nat.le_trans putK_len (by omega),?_,?_⟩
    ·refine(hO.mono jn_l).put (x:=(i+1,ws.length-2)) ?_
     exact jn_r sW4 s1z _ _ one_at
    ·rw[ew1]at he;exact he
   ·rw[decide_eq_false c]
    rw[if_neg c]at he
    exact iteF ⟨W,kvs,R,_,_,rfl,s3,sW3,oW,wd,hd3,by omega,hO,he⟩
  ·rintro σ H2 ⟨W,kvs,R,v2,v3,rfl,s2,sW,oW,wd,hd2,hkl,hO,he⟩
   rw[List.length_map,hpl,List.drop_length,procsP]at he
   subst he
   have s1:Same (one1 d (.dT kvs)) H2:=yV hd2
   exact⟨_,rfl,k H2 d _ s2 (xG sW s1) (oW.jn (one_out hd)) ⟨kvs,jn_r sW s1 _ _ one_at,hO.mono jn_l⟩⟩
end
end Pg
namespace Pg
open PySem L2 Ck Ins Cc R
def lnF(n k s so t a:V):List (Str×V):=[("number",n),("kind",k),("steps",s),("store",so),("target",t),("amount",a)]
section
variable (n k s so t a x:V)
theorem lnF_number:(lnF n k s so t a).lookup ("number":Str)=some n:=rfl
theorem yE:(lnF n k s so t a).lookup ("kind":Str)=some k:=rfl
theorem lnF_steps:(lnF n k s so t a).lookup ("steps":Str)=some s:=rfl
theorem lnF_store:(lnF n k s so t a).lookup ("store":Str)=some so:=rfl
theorem lnF_target:(lnF n k s so t a).lookup ("target":Str)=some t:=rfl
theorem lnP_kind:putF "kind" x (lnF n k s so t a)=lnF n x s so t a:=rfl
theorem lnP_steps:putF "steps" x (lnF n k s so t a)=lnF n k x so t a:=rfl
theorem lnP_store:putF "store" x (lnF n k s so t a)=lnF n k s x t a:=rfl
theorem lnP_target:putF "target" x (lnF n k s so t a)=lnF n k s so x a:=rfl
theorem lnP_amount:putF "amount" x (lnF n k s so t a)=lnF n k s so t x:=rfl
theorem xF:(lnF n k s so t a).length <1000:=by show 6<1000;decide
end
def bdF(d L Hd pp:Addr):List (Str×V):=[("procedures",.ref d),("lines",.ref L),("heads",.ref Hd),("parameters",.ref pp)]
section
variable (d L Hd pp x:Addr)
theorem bdF_pr:(bdF d L Hd pp).lookup ("procedures":Str)=some (.ref d):=rfl
theorem bdF_ls:(bdF d L Hd pp).lookup ("lines":Str)=some (.ref L):=rfl
theorem bdF_hd:(bdF d L Hd pp).lookup ("heads":Str)=some (.ref Hd):=rfl
theorem bdF_pa:(bdF d L Hd pp).lookup ("parameters":Str)=some (.ref pp):=rfl
theorem bdF_fill:(bdF d L Hd pp).lookup ("fill":Str)=none:=rfl
theorem bdF_close:(bdF d L Hd pp).lookup ("close":Str)=none:=rfl
theorem bdF_take:(bdF d L Hd pp).lookup ("take":Str)=none:=rfl
theorem bdP_pa:putF "parameters" (.ref x) (bdF d L Hd pp)=bdF d L Hd x:=rfl
theorem bdF_len:(bdF d L Hd pp).length <1000:=by show 4<1000;decide
end
structure PgT (K:PySem.W.Frag) (mg:Str→Option Value) (CL CB:Addr):Prop where
 cl:Cls K CL
 cb:Cls K CB
 lN:NoAttr K CL "number"
 lK:NoAttr K CL "kind"
 lS:NoAttr K CL "steps"
 lO:NoAttr K CL "store"
 lT:NoAttr K CL "target"
 lA:NoAttr K CL "amount"
 bP:NoAttr K CB "procedures"
 bL:NoAttr K CB "lines"
 bH:NoAttr K CB "heads"
 bA:NoAttr K CB "parameters"
 mgL:mg "Line"=some (.ref CL)
 mgB:mg "Builder"=some (.ref CB)
def keStr:KE→Str
 |.of k=>kdStr k
 |.ew=>"end while"
 |.ep=>"end proc"
def natO:Option Nat→V
 |none=>.non
 |some t=>.int (t:Int)
def StoreOk(C:Addr)(W:Hp):V→Option Ii→Prop
 |so,none=>so=.non
 |so,some x=>∃p,so=.ref p∧InsX C W p x
theorem StoreOk.mono{C:Addr}{W U:Hp}{so:V}{x:Option Ii}(h:StoreOk C W so x)(s:Same W U):StoreOk C U so x:=by
 cases x with
 |none=>exact h
 |some x=>obtain⟨p,h1,h2⟩:=h;exact⟨p,h1,InsAt.mono h2 s⟩
def LnAt(C CL:Addr)(W H:Hp)(a:Addr)(n:Nat)(l:Ln):Prop:=∃dx st so,H a=some (.ins CL dx (lnF (.int (n:Int)) (.str (keStr l.kind)) (.ref st) so (natO l.target) (.int (l.amount:Int))))∧Iss C W st l.steps∧StoreOk C W so l.store
theorem LnAt.mono{C CL:Addr}{W U H H':Hp}{a:Addr}{n:Nat}{l:Ln}(h:LnAt C CL W H a n l)(s:Same W U)(e:H' a=H a):LnAt C CL U H' a n l:=by
 obtain⟨dx,st,so,h1,h2,h3⟩:=h
 exact⟨dx,st,so,by rw[e];exact h1,h2.mono s,h3.mono s⟩
section
variable {P:Program}{w:World}{K:PySem.W.Frag}{mg:Str→Option Value}{base:Heap}{C aW aB aC aO aN fI CL CB:Addr}{wA:Nat→Addr}{fdI:FuncData}
def spLnInit(CL:Addr):Sp:=fun vs H Q _=>∃(p dx:Addr) (n:Nat) (k:Str),vs=[.ref p,.int (n:Int),.str k]∧H p=some (.ins CL dx [])∧
 ∀H' st,(∀b o,H b=some o→b≠p→H' b=some o)→H st=none→st≠p→H' st=some (.lst [])→H' p=some (.ins CL dx (lnF (.int (n:Int)) (.str k) (.ref st) .non .non (.int 0)))→Q .non H'
theorem scLnInit:FnScope ["self","number","kind"] ["self","number","kind"] (defScope sLnInit):=⟨rfl,rfl,rfl,by decide +kernel,rfl,by decide +kernel,by decide +kernel⟩
theorem ok_lnInit{f:Addr}{fd:FuncData}(F:Fun K "__init__" "Line.__init__" sLnInit f fd)(T:PgT K mg CL CB):FnOk P w K mg base CX0 1 f fd ["self","number","kind"] (spLnInit CL):=by
 refine F.ok scLnInit (fun vs H Q E h=>?_) (fun cdv A outer s H vs Q E hr h=>?_)
 ·obtain⟨p,dx,n,k,rfl,_⟩:=h
  rfl
 ·obtain⟨p,dx,n,ks,rfl,hp,k⟩:=h
  refine⟨_,zD (zY (pv 0) (pv 1) rfl) (zD (zY (pv 0) (pv 2) rfl) (zD (zY (pv 0) (yI zG) rfl) (zD (zY (pv 0) pe_non rfl) (zD (zY (pv 0) pe_non rfl) (zE (zY (pv 0) zI rfl)))))),?_⟩
  refine⟨_,rfl,_,rfl,p,CL,dx,[],rfl,hp,T.cl,T.lN,(by show 0<1000;decide),?_⟩
  refine⟨_,rfl,_,rfl,p,CL,dx,_,rfl,zB,T.cl,T.lK,(by show 1<1000;decide),?_⟩
  refine⟨zero_line,fun st hst=>?_⟩
  rw[yP]at hst ⊢
  have n1:st≠p:=fun z=>by rw[z,zB]at hst;cases hst
  have hst0:H st=none:=by rw[zF n1]at hst;exact hst
  refine⟨_,rfl,p,CL,dx,_,rfl,by rw[zF n1.symm];exact zB,T.cl,T.lS,(by show 2<1000;decide),?_⟩
  refine⟨_,rfl,p,CL,dx,_,rfl,zB,T.cl,T.lO,(by show 3<1000;decide),?_⟩
  refine⟨_,rfl,p,CL,dx,_,rfl,zB,T.cl,T.lT,(by show 4<1000;decide),?_⟩
  refine⟨_,rfl,p,CL,dx,_,rfl,zB,T.cl,T.lA,(by show 5<1000;decide),?_⟩
  show Q .non (upd (upd (upd (upd _ p _) p _) p _) p _)
  rw[yP,yP,yP]
  refine k _ st (fun b o e hb=>?_) hst0 n1 ?_ zB
  ·rw[zF hb,zF (zH e hst0),zF hb];exact e
  ·rw[zF n1];exact zB
def spBdInit(CB:Addr):Sp:=fun vs H Q _=>∃(p dx d:Addr),vs=[.ref p,.ref d]∧H p=some (.ins CB dx [])∧
 ∀H' L Hd pp,(∀b o,H b=some o→b≠p→H' b=some o)→H L=none→H Hd=none→H pp=none→L≠p→Hd≠p→pp≠p→L≠Hd→L≠pp→Hd≠pp→H' L=some (.lst [])→H' Hd=some (.lst [])→H' pp=some (.lst [])→H' p=some (.ins CB dx (bdF d L Hd pp))→Q .non H'
theorem scBdInit:FnScope ["self","procedures"] ["self","procedures"] (defScope sBdInit):=⟨rfl,rfl,rfl,by decide +kernel,rfl,by decide +kernel,by decide +kernel⟩
theorem ok_bdInit{f:Addr}{fd:FuncData}(F:Fun K "__init__" "Builder.__init__" sBdInit f fd)(T:PgT K mg CL CB):FnOk P w K mg base CX0 1 f fd ["self","procedures"] (spBdInit CB):=by
 refine F.ok scBdInit (fun vs H Q E h=>?_) (fun cdv A outer s H vs Q E hr h=>?_)
 ·obtain⟨p,dx,d,rfl,_⟩:=h
  rfl
 ·obtain⟨p,dx,d,rfl,hp,k⟩:=h
  refine⟨_,zD (zY (pv 0) (pv 1) rfl) (zD (zY (pv 0) (yI zG) rfl) (zD (zY (pv 0) (yI zG) rfl) (zE (zY (pv 0) (yI zG) rfl)))),?_⟩
  refine⟨_,rfl,_,rfl,p,CB,dx,[],rfl,hp,T.cb,T.bP,(by show 0<1000;decide),?_⟩
  refine⟨zero_line,fun L hL=>?_⟩
  have n1:L≠p:=fun z=>by rw[z,zB]at hL;cases hL
  have hL0:H L=none:=by rw[zF n1]at hL;exact hL
  refine⟨_,rfl,p,CB,dx,_,rfl,by rw[zF n1.symm];exact zB,T.cb,T.bL,(by show 1<1000;decide),?_⟩
  refine⟨zero_line,fun Hd hH=>?_⟩
  have n2:Hd≠p:=fun z=>by rw[z,zB]at hH;cases hH
  rw[zF n2]at hH
  have n3:Hd≠L:=fun z=>by rw[z,zB]at hH;cases hH
  rw[zF n3,zF n2]at hH
  refine⟨_,rfl,p,CB,dx,_,rfl,by rw[zF n2.symm];exact zB,T.cb,T.bH,(by show 2<1000;decide),?_⟩
  refine⟨zero_line,fun pp hP=>?_⟩
  have n4:pp≠p:=fun z=>by rw[z,zB]at hP;cases hP
  rw[zF n4]at hP
  have n5:pp≠Hd:=fun z=>by rw[z,zB]at hP;cases hP
  rw[zF n5,zF n4]at hP
  have n6:pp≠L:=fun z=>by rw[z,zB]at hP;cases hP
  rw[zF n6,zF n4]at hP
  refine⟨_,rfl,p,CB,dx,_,rfl,by rw[zF n4.symm];exact zB,T.cb,T.bA,(by show 3<1000;decide),?_⟩
  refine k _ L Hd pp (fun b o e hb=>?_) hL0 hH hP n1 n2 n4 n3.symm n6.symm n5.symm ?_ ?_ ?_ zB
  ·rw[zF hb,zF (zH e hP),zF hb,zF (zH e hH),zF hb,zF (zH e hL0),zF hb];exact e
  ·rw[zF n1,zF n6.symm,zF n1,zF n3.symm,zF n1];exact zB
  ·rw[zF n2,zF n5.symm,zF n2];exact zB
  ·rw[zF n4];exact zB
end
end Pg
namespace Pg
open PySem L2 Ck Ins Cc R
section
variable {K:PySem.W.Frag}{σ:St}{H:Hp}{ta:TE}{x a b c:Str}{t u:TS}{D:Ends}
theorem rdF{i:Nat}{p CL dx:Addr}{fs:List (Str×V)}{f:Str}{v:V}{Q:VK}(hs:σ[i]? =some (some (.ref p)))(hp:H p=some (.ins CL dx fs))(cl:Cls K CL)(na:NoAttr K CL f)(l:fs.lookup f=some v)(q:Q v H):tFld K (tVar i) f σ H Q:=
 ⟨_,hs,p,CL,dx,fs,v,rfl,hp,cl,na,l,q⟩
theorem if3(rd:∀Q:VK,Q (.str x) H→ta σ H Q)(yes:inV (V.str x) [.str a,.str b,.str c]=true→∀H1,Same H H1→t D σ H1)(no:inV (V.str x) [.str a,.str b,.str c]=false→∀H1,Same H H1→u D σ H1):
  tIfS (tTest (tOp (rIn K false) ta (tTup (tCons (tC (.str a)) (tCons (tC (.str b)) (tCons (tC (.str c)) tNil)))))) t u D σ H:=by
 refine rd _ ⟨(by show 3≤sizeLine;have:=zP;omega),fun q hq=>⟨q,_,rfl,.inr (SqT.of zB),rfl,rfl,_,rfl,?_⟩⟩
 show if inV (V.str x) [.str a,.str b,.str c]=true then _ else _
 cases e:inV (V.str x) [.str a,.str b,.str c]with
 |true=>exact iteT (yes e _ (Same.upd' (Same.refl H) hq))
 |false=>exact iteF (no e _ (Same.upd' (Same.refl H) hq))
theorem if2(rd:∀Q:VK,Q (.str x) H→ta σ H Q)(yes:inV (V.str x) [.str a,.str b]=true→∀H1,Same H H1→t D σ H1)(no:inV (V.str x) [.str a,.str b]=false→∀H1,Same H H1→u D σ H1):
  tIfS (tTest (tOp (rIn K false) ta (tTup (tCons (tC (.str a)) (tCons (tC (.str b)) tNil))))) t u D σ H:=by
 refine rd _ ⟨(by show 2≤sizeLine;have:=zP;omega),fun q hq=>⟨q,_,rfl,.inr (SqT.of zB),rfl,rfl,_,rfl,?_⟩⟩
 show if inV (V.str x) [.str a,.str b]=true then _ else _
 cases e:inV (V.str x) [.str a,.str b]with
 |true=>exact iteT (yes e _ (Same.upd' (Same.refl H) hq))
 |false=>exact iteF (no e _ (Same.upd' (Same.refl H) hq))
theorem if1(rd:∀Q:VK,Q (.str x) H→ta σ H Q)(yes:decide (V.str x=V.str a)=true→t D σ H)(no:decide (V.str x=V.str a)=false→u D σ H):tIfS (tTest (tOp rEq ta (tC (.str a)))) t u D σ H:=by
 refine rd _ ⟨rfl,_,rfl,?_⟩
 show if decide (V.str x=V.str a)=true then _ else _
 cases e:decide (V.str x=V.str a)with
 |true=>exact iteT (yes e)
 |false=>exact iteF (no e)
end
theorem in_set_do(k:Kd):inV (V.str (kdStr k)) [.str "set",.str "do"]=decide (k=.set∨k=.do_):=by cases k<;>decide +kernel
theorem in_set_get(k:Kd):inV (V.str (kdStr k)) [.str "set",.str "get"]=decide (k=.set∨k=.get):=by cases k<;>decide +kernel
theorem fill_other{R:PrT}{ps ws:List Bytes}(n1:¬(kindOf ws=.put∨kindOf ws=.if_∨kindOf ws=.while_))(n2:¬(kindOf ws=.set∨kindOf ws=.do_))(n3:¬(kindOf ws=.set∨kindOf ws=.get)):fillP R ps ws=⟨.of (kindOf ws),[],none,none,0⟩:=by
 unfold fillP
 split<;>rename_i h
 ·exact absurd (.inl h) n1
 ·exact absurd (.inr (.inl h)) n1
 ·exact absurd (.inr (.inr h)) n1
 ·exact absurd (.inl h) n2
 ·exact absurd (.inr h) n3
 ·exact absurd (.inr h) n2
 ·rfl
structure WellL (R:PrT) (ws:List Bytes):Prop where
 one:kindOf ws=.put∨kindOf ws=.if_∨kindOf ws=.while_→exprsP 1 (ws.drop 1)=true
 two:kindOf ws=.set∨kindOf ws=.do_→∃m:Nat,exprsP (m:Int) (ws.drop 2)=true
 var:kindOf ws=.set∨kindOf ws=.get→∃c:UInt8,ws[1]? =some [c]
 call:kindOf ws=.do_→∃q e,ws[1]? =some q∧R.lookup q=some e
section
variable {P:Program}{w:World}{K:PySem.W.Frag}{mg:Str→Option Value}{base:Heap}{C aW aB aC aO aN fI CL CB:Addr}{wA:Nat→Addr}{fdI:FuncData}
def spFill(C CL CB:Addr):Sp:=fun vs H Q _=>∃(b a q d L Hd pp dxb dxa st0:Addr) (n:Nat) (ws ps:List Bytes) (R:PrT) (W:Hp),vs=[.ref b,.ref a,.ref q]∧H b=some (.ins CB dxb (bdF d L Hd pp))∧
 H a=some (.ins CL dxa (lnF (.int (n:Int)) (.str (kdStr (kindOf ws))) (.ref st0) .non .non (.int 0)))∧Same W H∧W a=none∧W st0=some (.lst [])∧PrcAt W d R∧Wds W pp ps∧ps.length≤16500∧Wds W q ws∧(∀w∈ws,w≠[]∧w.length≤16500)∧ws.length≤16500∧WellL R ws∧
 ∀H' U,(∀c o,H c=some o→c≠a→H' c=some o)→Same U H'→Out H U→LnAt C CL (jn W U) H' a n (fillP R ps ws)→Q .non H'
theorem scFill:FnScope ["self","line","words"] ["self","line","words"] (defScope sFill):=⟨rfl,rfl,rfl,by decide +kernel,rfl,by decide +kernel,by decide +kernel⟩
theorem ok_fill{f fS fV:Addr}{fd fdS fdV:FuncData}(F:Fun K "fill" "Builder.fill" sFill f fd)(T:PgT K mg CL CB)(N:NmT K mg)(DS:Dn K mg "expression_steps" sSteps fS fdS ["words","parameters"])(GS:FnOk P w K mg base CX0 5 fS fdS ["words","parameters"] (spSteps C))
  (DV:Dn K mg "variable_instruction" sVarIns fV fdV ["word","parameters","own","shared"])(GV:FnOk P w K mg base CX0 3 fV fdV ["word","parameters","own","shared"] (spVarIns C)):FnOk P w K mg base CX0 6 f fd ["self","line","words"] (spFill C CL CB):=by
 refine F.ok scFill (fun vs H Q E h=>?_) (fun cdv A outer s H vs Q E hr h=>?_)
 ·obtain⟨b,a,q,d,L,Hd,pp,dxb,dxa,st0,n,ws,ps,R,W,rfl,_⟩:=h
  rfl
 ·obtain⟨b,a,q,d,L,Hd,pp,dxb,dxa,st0,n,ws,ps,R,W,rfl,hb,ha,sW,wa,wst,hPr,hpp,hpl,hq,hgood,hwl,hwell,k⟩:=h
  obtain⟨t5,n5⟩:=N.storel
  obtain⟨t3,n3⟩:=N.store
  have hu:=hu_of hr
  have hr3:Room 3 _:=hr.mono (by decide)
  refine⟨_,zD (zV (zK yR (zJ (pv 1) rfl) (pe_tup (zA zT (zA zT (zA zT zG)))) rfl)
    (zE (zY (pv 1) (zS GS hr (by rfl) DS.at_ DS.fn.kp DS.bd .nil pass0 (zA (yZ sl_list (pv 2) (xE zI) po_none) (zA (zJ (pv 0) rfl) zG))) rfl)) zL)
   (zD (zV (zK yR (zJ (pv 1) rfl) (pe_tup (zA zT (zA zT zG))) rfl)
    (zE (zY (pv 1) (zS GS hr (by rfl) DS.at_ DS.fn.kp DS.bd .nil pass0 (zA (yZ sl_list (pv 2) (xE zI) po_none) (zA (zJ (pv 0) rfl) zG))) rfl)) zL)
   (zD (zV (zK yR (zJ (pv 1) rfl) (pe_tup (zA zT (zA zT zG))) rfl)
    (zE (zY (pv 1) (zS GV hr3 (by rfl) DV.at_ DV.fn.kp DV.bd .nil pass0 (zA (yH yB (pv 2) zI (fun _ _=>rfl)) (zA (zJ (pv 0) rfl) (zA (zQ (v:=V.int 5) (by rfl) n5 ⟨t5,rfl⟩) (zA (zQ (v:=V.int 3) (by rfl) n3 ⟨t3,rfl⟩) zG))))) rfl)) zL)
   (zE (zV (zK yC (zJ (pv 1) rfl) zT (zM _))
    (zD (zY (pv 1) (yH ix_tup (pe_dget hu (zJ (pv 0) rfl) (yH yB (pv 2) zI (fun _ _=>rfl)) (fun _ _=>rfl)) zI (fun _ _=>rfl)) rfl)
     (zE (zY (pv 1) (yH ix_tup (pe_dget hu (zJ (pv 0) rfl) (yH yB (pv 2) zI (fun _ _=>rfl)) (fun _ _=>rfl)) zI (fun _ _=>rfl)) rfl))) zL)))),?_⟩
  have nab:b≠a:=ne_of hb ha (fun z=>by injection z with _ _ z;cases z)
  have hqH:=hq.mono sW
  have hppH:=hpp.mono sW
  have wb0:∀{H1:Hp},Same H H1→H1 b=some (.ins CB dxb (bdF d L Hd pp)):=fun s=>s _ _ hb
  refine if3 (x:=kdStr (kindOf ws)) (fun Q q=>rdF rfl ha T.cl T.lK (yE ..) q) (fun y H1 s1=>?_) (fun y H1 s1=>?_)
  ·-- put,if,while
   rw[in_b]at y
   have c1:=of_decide_eq_true y
   have ef:fillP R ps ws=⟨.of (kindOf ws),stepsP ps (ws.drop 1),none,none,0⟩:=by unfold fillP;rcases c1 with e | e | e<;>rw[e]
   rw[ef]at k
   obtain⟨pw,hpw,hpr⟩:=hqH.mono s1
   have e1:=hwell.one c1
   refine⟨_,rfl,_,rfl,q,_,rfl,SqL.of hpw,fun Z hZ=>?_⟩
   have hZw:=wds_drop hpr 1 hZ
   have sZ:Same H1 (upd H1 Z (.lst (cutV (pw.map V.ref) (some ((1:Nat):Int)) none))):=Same.upd' (Same.refl _) hZ
   refine⟨_,rfl,b,CB,dxb,_,_,rfl,sZ _ _ (s1 _ _ hb),T.cb,T.bA,bdF_pa ..,Z,pp,ws.drop 1,ps,1,rfl,hZw,fun w hw=>hgood w (List.mem_of_mem_drop hw),by rw[List.length_drop];omega,e1,(hppH.mono s1).mono sZ,hpl,fun H2 p U s2 sU oU hI=>?_⟩
   have s02:Same H H2:=(s1.trans sZ).trans s2
   have oU':Out H U:=oU.sub (s1.trans sZ)
   have ua:U a=none:=oU' _ _ ha
   refine⟨_,rfl,a,CL,dxa,_,rfl,s02 _ _ ha,T.cl,T.lS,xF ..,?_⟩
   rw[lnP_steps]
   have hfr:∀c o,H c=some o→c≠a→(upd H2 a (.ins CL dxa (lnF (.int (n:Int)) (.str (kdStr (kindOf ws))) (.ref p) .non .non (.int 0)))) c=some o:=fun c o e hc=>by rw[zF hc];exact s02 _ _ e
   have sW3:Same W (upd H2 a (.ins CL dxa (lnF (.int (n:Int)) (.str (kdStr (kindOf ws))) (.ref p) .non .non (.int 0)))):=Same.upd' (sW.trans s02) wa
   have sU3:Same U (upd H2 a (.ins CL dxa (lnF (.int (n:Int)) (.str (kdStr (kindOf ws))) (.ref p) .non .non (.int 0)))):=Same.upd' sU ua
   have ha3:(upd H2 a (.ins CL dxa (lnF (.int (n:Int)) (.str (kdStr (kindOf ws))) (.ref p) .non .non (.int 0)))) a=some (.ins CL dxa (lnF (.int (n:Int)) (.str (kdStr (kindOf ws))) (.ref p) .non .non (.int 0))):=zB
   revert hfr sW3 sU3 ha3
   generalize upd H2 a (.ins CL dxa (lnF (.int (n:Int)) (.str (kdStr (kindOf ws))) (.ref p) .non .non (.int 0)))=H3
   intro hfr sW3 sU3 ha3
   refine if2 (x:=kdStr (kindOf ws)) (fun Q q=>rdF rfl ha3 T.cl T.lK (yE ..) q) (fun y H4 s4=>?_) (fun y H4 s4=>?_)
   ·rw[in_set_do]at y
    have c2:=of_decide_eq_true y
    rcases c1 with e | e | e<;>rw[e]at c2<;>rcases c2 with e | e<;>cases e
   refine if2 (x:=kdStr (kindOf ws)) (fun Q q=>rdF rfl (s4 _ _ ha3) T.cl T.lK (yE ..) q) (fun y H5 s5=>?_) (fun y H5 s5=>?_)
   ·rw[in_set_get]at y
    have c2:=of_decide_eq_true y
    rcases c1 with e | e | e<;>rw[e]at c2<;>rcases c2 with e | e<;>cases e
   refine if1 (x:=kdStr (kindOf ws)) (a:=kdStr .do_) (fun Q q=>rdF rfl (s5 _ _ (s4 _ _ ha3)) T.cl T.lK (yE ..) q) (fun y=>?_) (fun y=>?_)
   ·rw[yL]at y
    have c2:=of_decide_eq_true y
    rcases c1 with e | e | e<;>rw[e]at c2<;>cases c2
   have s35:=s4.trans s5
   exact k H5 U (fun c o e hc=>s35 _ _ (hfr c o e hc)) (sU3.trans s35) oU' ⟨dxa,p,.non,s35 _ _ ha3,hI.mono (jn_r sW3 sU3),rfl⟩
  ·have n1:¬(kindOf ws=.put∨kindOf ws=.if_∨kindOf ws=.while_):=by rw[in_b]at y;exact of_decide_eq_false y
   refine if2 (x:=kdStr (kindOf ws)) (fun Q q=>rdF rfl (s1 _ _ ha) T.cl T.lK (yE ..) q) (fun y H2 s2=>?_) (fun y H2 s2=>?_)
   ·-- set,do
    rw[in_set_do]at y
    have c2:=of_decide_eq_true y
    obtain⟨m,e1⟩:=hwell.two c2
    have s12:=s1.trans s2
    obtain⟨pw,hpw,hpr⟩:=hqH.mono s12
    refine⟨_,rfl,_,rfl,q,_,rfl,SqL.of hpw,fun Z hZ=>?_⟩
    have hZw:=wds_drop hpr 2 hZ
    have sZ:Same H2 (upd H2 Z (.lst (cutV (pw.map V.ref) (some ((2:Nat):Int)) none))):=Same.upd' (Same.refl _) hZ
    refine⟨_,rfl,b,CB,dxb,_,_,rfl,sZ _ _ (s12 _ _ hb),T.cb,T.bA,bdF_pa ..,Z,pp,ws.drop 2,ps,m,rfl,hZw,fun w hw=>hgood w (List.mem_of_mem_drop hw),by rw[List.length_drop];omega,e1,(hppH.mono s12).mono sZ,hpl,fun H3 p U s3 sU oU hI=>?_⟩
    have s03:Same H H3:=(s12.trans sZ).trans s3
    have oU':Out H U:=oU.sub (s12.trans sZ)
    have ua:U a=none:=oU' _ _ ha
    refine⟨_,rfl,a,CL,dxa,_,rfl,s03 _ _ ha,T.cl,T.lS,xF ..,?_⟩
    rw[lnP_steps]
    have hfr:∀c o,H c=some o→c≠a→(upd H3 a (.ins CL dxa (lnF (.int (n:Int)) (.str (kdStr (kindOf ws))) (.ref p) .non .non (.int 0)))) c=some o:=fun c o e hc=>by rw[zF hc];exact s03 _ _ e
    have sW4:Same W (upd H3 a (.ins CL dxa (lnF (.int (n:Int)) (.str (kdStr (kindOf ws))) (.ref p) .non .non (.int 0)))):=Same.upd' (sW.trans s03) wa
    have sU4:Same U (upd H3 a (.ins CL dxa (lnF (.int (n:Int)) (.str (kdStr (kindOf ws))) (.ref p) .non .non (.int 0)))):=Same.upd' sU ua
    have ha4:(upd H3 a (.ins CL dxa (lnF (.int (n:Int)) (.str (kdStr (kindOf ws))) (.ref p) .non .non (.int 0)))) a=some (.ins CL dxa (lnF (.int (n:Int)) (.str (kdStr (kindOf ws))) (.ref p) .non .non (.int 0))):=zB
    have q4:=hq.mono sW4
    have p4:=hpp.mono sW4
    have hb4:=hfr _ _ hb nab
    revert hfr sW4 sU4 ha4 q4 p4 hb4
    generalize upd H3 a (.ins CL dxa (lnF (.int (n:Int)) (.str (kdStr (kindOf ws))) (.ref p) .non .non (.int 0)))=H4
    intro hfr sW4 sU4 ha4 q4 p4 hb4
    refine if2 (x:=kdStr (kindOf ws)) (fun Q q=>rdF rfl ha4 T.cl T.lK (yE ..) q) (fun y H5 s5=>?_) (fun y H5 s5=>?_)
    ·-- set
     rw[in_set_get]at y
     have c3:=of_decide_eq_true y
     have es:kindOf ws=.set:=by
      rcases c3 with e | e
      ·exact e
      ·rcases c2 with e' | e'<;>(rw[e]at e';cases e')
     obtain⟨c,hc1⟩:=hwell.var (.inl es)
     have ew1:ws.getD 1 []=[c]:=by rw[List.getD_eq_getElem?_getD,hc1];rfl
     have ef:fillP R ps ws=⟨.of (kindOf ws),stepsP ps (ws.drop 2),some (varIns ps [c] 5 3),none,0⟩:=by unfold fillP;rw[es,ew1]
     rw[ef]at k
     obtain⟨pw5,hpw5,hpr5⟩:=q4.mono s5
     obtain⟨p1,hp1,hT1⟩:=wd_at hpr5 hc1
     refine⟨_,rfl,q,_,_,_,rfl,rfl,SqL.of hpw5,zW (j:=1) hp1,_,rfl,b,CB,dxb,_,_,rfl,s5 _ _ hb4,T.cb,T.bA,bdF_pa ..,p1,pp,c,ps,5,3,rfl,hT1,p4.mono s5,hpl,by decide,by decide,fun H6 p2 U2 s6 sU2 oU2 hI2=>?_⟩
     have s46:=s5.trans s6
     have oU2':∀c o,H c=some o→U2 c=none:=fun c o e=>by
      by_cases z:c=a
      ·subst z;exact oU2 _ _ (s5 _ _ ha4)
      ·exact oU2 _ _ (s5 _ _ (hfr c o e z))
     have u2a:U2 a=none:=oU2' _ _ ha
     refine⟨_,rfl,a,CL,dxa,_,rfl,s46 _ _ ha4,T.cl,T.lO,xF ..,?_⟩
     rw[lnP_store]
     have sW7:Same W (upd H6 a (.ins CL dxa (lnF (.int (n:Int)) (.str (kdStr (kindOf ws))) (.ref p) (.ref p2) .non (.int 0)))):=Same.upd' (sW4.trans s46) wa
     have sU7:Same U (upd H6 a (.ins CL dxa (lnF (.int (n:Int)) (.str (kdStr (kindOf ws))) (.ref p) (.ref p2) .non (.int 0)))):=Same.upd' (sU4.trans s46) ua
     have sV7:Same U2 (upd H6 a (.ins CL dxa (lnF (.int (n:Int)) (.str (kdStr (kindOf ws))) (.ref p) (.ref p2) .non (.int 0)))):=Same.upd' sU2 u2a
     have sJ:=xG sU7 sV7
     refine if1 (x:=kdStr (kindOf ws)) (a:=kdStr .do_) (fun Q q=>rdF rfl zB T.cl T.lK (yE ..) q) (fun y=>?_) (fun y=>?_)
     ·rw[yL]at y
      have c4:=of_decide_eq_true y
      rw[es]at c4;cases c4
     refine k _ (jn U U2) (fun c o e hc=>?_) sJ (oU'.jn oU2') ⟨dxa,p,.ref p2,zB,hI.mono (jn_l.trans (jn_r sW7 sJ)),p2,rfl,InsAt.mono hI2 ((jn_r sU7 sV7).trans (jn_r sW7 sJ))⟩
     rw[zF hc];exact s46 _ _ (hfr c o e hc)
    ·-- do
     rw[in_set_get]at y
     have c3:=of_decide_eq_false y
     have es:kindOf ws=.do_:=by
      rcases c2 with e | e
      ·exact absurd (.inl e) c3
      ·exact e
     obtain⟨w1,x,hc1,hx⟩:=hwell.call es
     have ew1:ws.getD 1 []=w1:=by rw[List.getD_eq_getElem?_getD,hc1];rfl
     have ef:fillP R ps ws=⟨.of (kindOf ws),stepsP ps (ws.drop 2),none,some x.1,x.2⟩:=by unfold fillP;rw[es,ew1,hx];rfl
     rw[ef]at k
     refine if1 (x:=kdStr (kindOf ws)) (a:=kdStr .do_) (fun Q q=>rdF rfl (s5 _ _ ha4) T.cl T.lK (yE ..) q) (fun y=>?_) (fun y=>?_)
     case refine_2=>
      rw[yL]at y
      exact absurd es (of_decide_eq_false y)
     have sW5:=sW4.trans s5
     obtain⟨kvs,hkv,hO⟩:=hPr.mono sW5
     have hOq:=hO w1
     rw[hx]at hOq
     obtain⟨t,hv,ht⟩:=hOq
     obtain⟨pw5,hpw5,hpr5⟩:=hq.mono sW5
     obtain⟨p1,hp1,hT1⟩:=wd_at hpr5 hc1
     have hk1:H5 p1=some (.tup ((kB w1).map kV)):=by rw[kB_kV];exact hT1
     have ha5:=s5 _ _ ha4
     refine⟨_,rfl,b,CB,dxb,_,_,rfl,s5 _ _ hb4,T.cb,T.bP,bdF_pr ..,_,rfl,q,_,_,_,rfl,rfl,SqL.of hpw5,zW (j:=1) hp1,d,V.ref t,rfl,.inr ⟨kvs,kB w1,p1,.inl hkv,rfl,hk1,hv.symm⟩,t,_,_,_,rfl,rfl,SqT.of ht,zW (j:=0) rfl,_,rfl,a,CL,dxa,_,rfl,ha5,T.cl,T.lT,xF ..,?_⟩
     rw[lnP_target]
     have na:∀{c:Addr} {o:HO},H5 c=some o→(∀z,o≠.ins CL dxa z)→c≠a:=fun {c o} e hne z=>by
      subst z
      rw[ha5]at e
      exact hne _ (Option.some.inj e).symm
     have hba:b≠a:=nab
     refine⟨_,rfl,b,CB,dxb,_,_,rfl,by rw[zF hba];exact s5 _ _ hb4,T.cb,T.bP,bdF_pr ..,_,rfl,q,_,_,_,rfl,rfl,SqL.of (by rw[zF (na hpw5 (fun z=>nofun))];exact hpw5),zW (j:=1) hp1,d,V.ref t,rfl,.inr ⟨kvs,kB w1,p1,.inl (by rw[zF (na hkv (fun z=>nofun))];exact hkv),rfl,by rw[zF (na hk1 (fun z=>nofun))];exact hk1,hv.symm⟩,t,_,_,_,rfl,rfl,SqT.of (by rw[zF (na ht (fun z=>nofun))];exact ht),zW (j:=1) rfl,_,rfl,a,CL,dxa,_,rfl,zB,T.cl,T.lA,xF ..,?_⟩
     rw[lnP_amount,yP]
     have sU6:Same U (upd H5 a (.ins CL dxa (lnF (.int (n:Int)) (.str (kdStr (kindOf ws))) (.ref p) .non (.int (x.1:Int)) (.int (x.2:Int))))):=Same.upd' (sU4.trans s5) ua
     have sW6:Same W (upd H5 a (.ins CL dxa (lnF (.int (n:Int)) (.str (kdStr (kindOf ws))) (.ref p) .non (.int (x.1:Int)) (.int (x.2:Int))))):=Same.upd' sW5 wa
     refine k _ U (fun c o e hc=>?_) sU6 oU' ⟨dxa,p,.non,zB,hI.mono (jn_r sW6 sU6),rfl⟩
     rw[zF hc];exact s5 _ _ (hfr c o e hc)
   ·have n2:¬(kindOf ws=.set∨kindOf ws=.do_):=by rw[in_set_do]at y;exact of_decide_eq_false y
    have s12:=s1.trans s2
    refine if2 (x:=kdStr (kindOf ws)) (fun Q q=>rdF rfl (s12 _ _ ha) T.cl T.lK (yE ..) q) (fun y H3 s3=>?_) (fun y H3 s3=>?_)
    ·-- get
     rw[in_set_get]at y
     have c3:=of_decide_eq_true y
     have es:kindOf ws=.get:=by
      rcases c3 with e | e
      ·exact absurd (.inl e) n2
      ·exact e
     obtain⟨c,hc1⟩:=hwell.var (.inr es)
     have ew1:ws.getD 1 []=[c]:=by rw[List.getD_eq_getElem?_getD,hc1];rfl
     have ef:fillP R ps ws=⟨.of (kindOf ws),[],some (varIns ps [c] 5 3),none,0⟩:=by unfold fillP;rw[es,ew1]
     rw[ef]at k
     have s13:=s12.trans s3
     obtain⟨pw5,hpw5,hpr5⟩:=hqH.mono s13
     obtain⟨p1,hp1,hT1⟩:=wd_at hpr5 hc1
     refine⟨_,rfl,q,_,_,_,rfl,rfl,SqL.of hpw5,zW (j:=1) hp1,_,rfl,b,CB,dxb,_,_,rfl,s13 _ _ hb,T.cb,T.bA,bdF_pa ..,p1,pp,c,ps,5,3,rfl,hT1,hppH.mono s13,hpl,by decide,by decide,fun H6 p2 U2 s6 sU2 oU2 hI2=>?_⟩
     have s16:=s13.trans s6
     have oU2':Out H U2:=oU2.sub s13
     have u2a:U2 a=none:=oU2' _ _ ha
     refine⟨_,rfl,a,CL,dxa,_,rfl,s16 _ _ ha,T.cl,T.lO,xF ..,?_⟩
     rw[lnP_store]
     have sW7:Same W (upd H6 a (.ins CL dxa (lnF (.int (n:Int)) (.str (kdStr (kindOf ws))) (.ref st0) (.ref p2) .non (.int 0)))):=Same.upd' (sW.trans s16) wa
     have sV7:Same U2 (upd H6 a (.ins CL dxa (lnF (.int (n:Int)) (.str (kdStr (kindOf ws))) (.ref st0) (.ref p2) .non (.int 0)))):=Same.upd' sU2 u2a
     refine if1 (x:=kdStr (kindOf ws)) (a:=kdStr .do_) (fun Q q=>rdF rfl zB T.cl T.lK (yE ..) q) (fun y=>?_) (fun y=>?_)
     ·rw[yL]at y
      have c4:=of_decide_eq_true y
      rw[es]at c4;cases c4
     refine k _ U2 (fun c o e hc=>?_) sV7 oU2' ⟨dxa,st0,.ref p2,zB,⟨[],jn_l _ _ wst,.nil⟩,p2,rfl,InsAt.mono hI2 (jn_r sW7 sV7)⟩
     rw[zF hc];exact s16 _ _ e
    ·have n3:¬(kindOf ws=.set∨kindOf ws=.get):=by rw[in_set_get]at y;exact of_decide_eq_false y
     have s13:=s12.trans s3
     refine if1 (x:=kdStr (kindOf ws)) (a:=kdStr .do_) (fun Q q=>rdF rfl (s13 _ _ ha) T.cl T.lK (yE ..) q) (fun y=>?_) (fun y=>?_)
     ·rw[yL]at y
      exact absurd (.inr (of_decide_eq_true y)) n2
     rw[fill_other n1 n2 n3]at k
     exact k H3 emp (fun c o e hc=>s13 _ _ e) emp_sub emp_out ⟨dxa,st0,.non,s13 _ _ ha,⟨[],jn_l _ _ wst,.nil⟩,rfl⟩
end
end Pg
namespace Pg
open PySem L2 Ck Ins Cc R
structure BdAt (C CL CB:Addr) (W H:Hp) (b L Hd d pp:Addr) (as:List Addr) (R:PrT) (B:Bd):Prop where
 sub:Same W H
 ob:∃dx,H b=some (.ins CB dx (bdF d L Hd pp))
 ls:H L=some (.lst (as.map V.ref))
 hs:∃hs:List Addr,H Hd=some (.lst (hs.reverse.map V.ref))∧Paired (fun(a:Addr) (h:Nat)=>as[h]? =some a) hs B.heads
 pr:PrcAt W d R
 pa:Wds W pp B.params
 len:as.length=B.lines.length
 ln:∀(i:Nat) (a:Addr) (l:Ln),as[i]? =some a→B.lines[i]? =some l→LnAt C CL W H a (i+1) l
 nd:as.Nodup
 wb:W b=none
 wL:W L=none
 wH:W Hd=none
 wa:∀a∈as,W a=none
 nLH:L≠Hd
section
variable {C CL CB b L Hd d pp:Addr}{W H:Hp}{as:List Addr}{R:PrT}{B:Bd}
theorem BdAt.lnOf(h:BdAt C CL CB W H b L Hd d pp as R B){i:Nat}{a:Addr}(ha:as[i]? =some a):∃l,B.lines[i]? =some l∧LnAt C CL W H a (i+1) l:=by
 have hi:i<B.lines.length:=by rw[←h.len];exact(List.getElem?_eq_some_iff.mp ha).1
 exact⟨_,List.getElem?_eq_getElem hi,h.ln i a _ ha (List.getElem?_eq_getElem hi)⟩
theorem BdAt.ne(h:BdAt C CL CB W H b L Hd d pp as R B){i:Nat}{a:Addr}(ha:as[i]? =some a):a≠b∧a≠L∧a≠Hd:=by
 obtain⟨l,_,dx,st,so,h1,_⟩:=h.lnOf ha
 obtain⟨dxb,hb⟩:=h.ob
 obtain⟨hs,hH,_⟩:=h.hs
 exact⟨ne_of h1 hb (fun z=>by injection z with _ _ z;cases z),ne_of h1 h.ls (fun z=>nomatch z),ne_of h1 hH (fun z=>nomatch z)⟩
theorem BdAt.nb(h:BdAt C CL CB W H b L Hd d pp as R B):b≠L∧b≠Hd:=by
 obtain⟨dxb,hb⟩:=h.ob
 obtain⟨hs,hH,_⟩:=h.hs
 exact⟨ne_of hb h.ls (fun z=>nomatch z),ne_of hb hH (fun z=>nomatch z)⟩
theorem BdAt.grow(h:BdAt C CL CB W H b L Hd d pp as R B){H':Hp}(s:Same H H'):BdAt C CL CB W H' b L Hd d pp as R B where
 sub:=h.sub.trans s
 ob:=by obtain⟨dx,e⟩:=h.ob;exact⟨dx,s _ _ e⟩
 ls:=s _ _ h.ls
 hs:=by obtain⟨hs,e,p⟩:=h.hs;exact⟨hs,s _ _ e,p⟩
 pr:=h.pr
 pa:=h.pa
 len:=h.len
 ln:=fun i a l ha hl=>by
  obtain⟨dx,st,so,h1,h2,h3⟩:=h.ln i a l ha hl
  exact⟨dx,st,so,s _ _ h1,h2,h3⟩
 nd:=h.nd
 wb:=h.wb
 wL:=h.wL
 wH:=h.wH
 wa:=h.wa
 nLH:=h.nLH
theorem BdAt.ext(h:BdAt C CL CB W H b L Hd d pp as R B){W':Hp}(s:Same W W')(sub:Same W' H)(wb:W' b=none)(wL:W' L=none)(wH:W' Hd=none)(wa:∀a∈as,W' a=none):BdAt C CL CB W' H b L Hd d pp as R B where
 sub:=sub
 ob:=h.ob
 ls:=h.ls
 hs:=h.hs
 pr:=h.pr.mono s
 pa:=h.pa.mono s
 len:=h.len
 ln:=fun i a l ha hl=>(h.ln i a l ha hl).mono s rfl
 nd:=h.nd
 wb:=wb
 wL:=wL
 wH:=wH
 wa:=wa
 nLH:=h.nLH
theorem BdAt.putL(h:BdAt C CL CB W H b L Hd d pp as R B){i:Nat}{a dx:Addr}{fs:List (Str×V)}{l':Ln}{ls:List Ln}(ha:as[i]? =some a)(hl:LnAt C CL W (upd H a (.ins CL dx fs)) a (i+1) l')(hlen:ls.length=B.lines.length)(hi:ls[i]? =some l')(hj:∀j,j≠i→ls[j]? =B.lines[j]?):
  BdAt C CL CB W (upd H a (.ins CL dx fs)) b L Hd d pp as R ⟨ls,B.heads,B.params⟩:=by
 obtain⟨n1,n2,n3⟩:=h.ne ha
 have hw:=h.wa a (List.mem_of_getElem? ha)
 refine⟨Same.upd' h.sub hw,?_,by rw[zF n2.symm];exact h.ls,?_,h.pr,h.pa,by rw[h.len];exact hlen.symm,?_,h.nd,h.wb,h.wL,h.wH,h.wa,h.nLH⟩
 ·obtain⟨dxb,e⟩:=h.ob;exact⟨dxb,by rw[zF n1.symm];exact e⟩
 ·obtain⟨hs,e,p⟩:=h.hs;exact⟨hs,by rw[zF n3.symm];exact e,p⟩
 ·intro j c l hc hlj
  by_cases e:j=i
  ·subst e
   rw[ha]at hc
   cases hc
   have hlj':ls[j]? =some l:=hlj
   rw[hi]at hlj'
   cases hlj'
   exact hl
  ·have hne:c≠a:=fun z=>by
    subst z
    have h1:=(List.getElem?_eq_some_iff.mp hc).1
    exact e ((List.getElem?_inj h1 h.nd).mp (by rw[hc,ha]))
   have hlj':ls[j]? =some l:=hlj
   rw[hj j e]at hlj'
   exact(h.ln j c l hc hlj').mono (Same.refl _) (zF hne)
theorem BdAt.putHd(h:BdAt C CL CB W H b L Hd d pp as R B){hs:List Addr}{hh:List Nat}(hp:Paired (fun(a:Addr) (h:Nat)=>as[h]? =some a) hs hh):BdAt C CL CB W (upd H Hd (.lst (hs.reverse.map V.ref))) b L Hd d pp as R ⟨B.lines,hh,B.params⟩:=by
 obtain⟨_,n2⟩:=h.nb
 refine⟨Same.upd' h.sub h.wH,?_,by rw[zF h.nLH];exact h.ls,⟨hs,zB,hp⟩,h.pr,h.pa,h.len,?_,h.nd,h.wb,h.wL,h.wH,h.wa,h.nLH⟩
 ·obtain⟨dxb,e⟩:=h.ob;exact⟨dxb,by rw[zF n2];exact e⟩
 ·intro i a l ha hl
  exact(h.ln i a l ha hl).mono (Same.refl _) (zF (h.ne ha).2.2)
theorem BdAt.putPa(h:BdAt C CL CB W H b L Hd d pp as R B){dx pp':Addr}{ps:List Bytes}(hp:Wds W pp' ps):BdAt C CL CB W (upd H b (.ins CB dx (bdF d L Hd pp'))) b L Hd d pp' as R ⟨B.lines,B.heads,ps⟩:=by
 obtain⟨n1,n2⟩:=h.nb
 refine⟨Same.upd' h.sub h.wb,⟨dx,zB⟩,by rw[zF n1.symm];exact h.ls,?_,h.pr,hp,h.len,?_,h.nd,h.wb,h.wL,h.wH,h.wa,h.nLH⟩
 ·obtain⟨hs,e,p⟩:=h.hs;exact⟨hs,by rw[zF n2.symm];exact e,p⟩
 ·intro i a l ha hl
  exact(h.ln i a l ha hl).mono (Same.refl _) (zF (h.ne ha).1)
end
theorem ke_eq(ke:KE)(k:Kd):decide (V.str (keStr ke)=V.str (kdStr k))=decide (ke=.of k):=by
 cases ke with
 |of k'=>
  show decide (V.str (kdStr k')=V.str (kdStr k))=_
  rw[yL]
  exact decide_eq_decide.mpr ⟨fun e=>by rw[e],fun e=>KE.of.inj e⟩
 |ew=>
  have:V.str (keStr .ew)≠V.str (kdStr k):=by cases k<;>decide +kernel
  rw[decide_eq_false this];exact(decide_eq_false (fun z=>nomatch z)).symm
 |ep=>
  have:V.str (keStr .ep)≠V.str (kdStr k):=by cases k<;>decide +kernel
  rw[decide_eq_false this];exact(decide_eq_false (fun z=>nomatch z)).symm
section
variable {P:Program}{w:World}{K:PySem.W.Frag}{mg:Str→Option Value}{base:Heap}{C aW aB aC aO aN fI CL CB:Addr}{wA:Nat→Addr}{fdI:FuncData}
def spClose(C CL CB:Addr):Sp:=fun vs H Q _=>∃(b a L Hd d pp:Addr) (as:List Addr) (W:Hp) (R:PrT) (B:Bd) (l:Ln) (h:Nat) (hs:List Nat),vs=[.ref b,.ref a]∧BdAt C CL CB W H b L Hd d pp as R ⟨B.lines++[l],h::hs,B.params⟩∧as[B.lines.length]? =some a∧h<B.lines.length∧l.kind=.of .end_∧
 ∀H' W' pp',Same W W'→BdAt C CL CB W' H' b L Hd d pp' as R (closeP B h hs l)→Q .non H'
theorem scClose:FnScope ["self","line","head"] ["self","line"] (defScope sClose):=⟨rfl,rfl,rfl,by decide +kernel,rfl,by decide +kernel,by decide +kernel⟩
theorem ok_close{f:Addr}{fd:FuncData}(F:Fun K "close" "Builder.close" sClose f fd)(T:PgT K mg CL CB):FnOk P w K mg base CX0 1 f fd ["self","line"] (spClose C CL CB):=by
 refine F.ok scClose (fun vs H Q E h=>?_) (fun cdv A outer s H vs Q E hr h=>?_)
 ·obtain⟨b,a,L,Hd,d,pp,as,W,R,B,l,h,hs,rfl,_⟩:=h
  rfl
 ·obtain⟨b,a,L,Hd,d,pp,as,W,R,B,l,h,hs,rfl,I,ha,hlt,hlk,k⟩:=h
  refine⟨_,zD (zZ (i:=2) scClose.nd rfl (Or.inl rfl) (pe_bm0 PySem.F.plainAttrs_list PySem.F.slot_list_pop PySem.F.type_list_pop mt_pop (zJ (pv 0) rfl)))
   (zD (zY (pv 2) (zJ (pv 1) rfl) rfl)
   (zD (zV (zK yC (zJ (pv 2) rfl) zT (zM _)) (zD (zY (pv 1) zT rfl) (zE (zY (pv 1) (yQ op_sub (zJ (pv 2) rfl) zI) rfl))) zL)
   (zE (zV (zK yC (zJ (pv 2) rfl) zT (zM _)) (zD (zY (pv 1) zT rfl) (zE (zY (pv 0) (yI zG) rfl))) zL)))),?_⟩
  obtain⟨dxb,hb⟩:=I.ob
  obtain⟨hsA,hHd,hsP⟩:=I.hs
  obtain⟨ah,hsA',rfl,hah,hsP'⟩:∃ah hsA',hsA=ah::hsA'∧as[h]? =some ah∧Paired (fun(a:Addr) (h:Nat)=>as[h]? =some a) hsA' hs:=by
   cases hsP with
   |cons r t=>exact⟨_,_,rfl,r,t⟩
  refine⟨_,rfl,b,CB,dxb,_,_,rfl,hb,T.cb,T.bH,bdF_hd ..,.inl ⟨rfl,_,SqL.of hHd⟩,Hd,_,V.ref ah,rfl,rfl,hHd,by simp,?_⟩
  have ed:((ah::hsA').reverse.map V.ref).dropLast=hsA'.reverse.map V.ref:=by simp
  rw[ed]
  have I1:=I.putHd hsP'
  revert I1
  generalize upd H Hd (.lst (hsA'.reverse.map V.ref))=H1
  intro I1
  have hlin:∀j,j<B.lines.length→(B.lines++[l])[j]? =B.lines[j]? :=fun j hj=>List.getElem?_append_left hj
  have hend:(B.lines++[l])[B.lines.length]? =some l:=by rw[List.getElem?_append_right (Nat.le_refl _)];simp
  obtain⟨dxa,sta,soa,ha1,hIa,hSa⟩:=I1.ln _ _ _ ha hend
  obtain⟨lh,hlh⟩:∃lh,B.lines[h]? =some lh:=⟨_,List.getElem?_eq_getElem hlt⟩
  obtain⟨dxh,sth,soh,hh1,hIh,hSh⟩:=I1.ln h ah lh hah (by show(B.lines++[l])[h]? =_;rw[hlin h hlt];exact hlh)
  refine⟨_,rfl,a,CL,dxa,_,_,rfl,ha1,T.cl,T.lN,lnF_number ..,_,rfl,ah,CL,dxh,_,rfl,hh1,T.cl,T.lT,xF ..,?_⟩
  rw[lnP_target]
  have hmod:(B.lines.modify h (setT (B.lines.length+1))++[l]).length=(B.lines++[l]).length:=by rw[List.length_append,List.length_append,List.length_modify]
  have hlm:(B.lines.modify h (setT (B.lines.length+1))).length=B.lines.length:=List.length_modify ..
  have I2:=I1.putL (dx:=dxh) (fs:=lnF (.int ((h+1:Nat):Int)) (.str (keStr lh.kind)) (.ref sth) soh (.int ((B.lines.length+1:Nat):Int)) (.int (lh.amount:Int))) (l':=setT (B.lines.length+1) lh) (ls:=B.lines.modify h (setT (B.lines.length+1))++[l]) hah ⟨dxh,sth,soh,zB,hIh,hSh⟩ hmod
   ((yX hlm hlt).trans (yU hlh)) (fun j hj=>by
    show(B.lines.modify h (setT (B.lines.length+1))++[l])[j]? =(B.lines++[l])[j]?
    by_cases c:j<B.lines.length
    ·rw[yX hlm c,hlin j c];exact yW (fun z=>hj z.symm)
    ·rw[List.getElem?_append_right (by omega),List.getElem?_append_right (by omega),hlm])
  have hh2:(upd H1 ah (.ins CL dxh (lnF (.int ((h+1:Nat):Int)) (.str (keStr lh.kind)) (.ref sth) soh (.int ((B.lines.length+1:Nat):Int)) (.int (lh.amount:Int))))) ah=some (.ins CL dxh (lnF (.int ((h+1:Nat):Int)) (.str (keStr lh.kind)) (.ref sth) soh (.int ((B.lines.length+1:Nat):Int)) (.int (lh.amount:Int)))):=zB
  revert I2 hh2
  generalize upd H1 ah (.ins CL dxh (lnF (.int ((h+1:Nat):Int)) (.str (keStr lh.kind)) (.ref sth) soh (.int ((B.lines.length+1:Nat):Int)) (.int (lh.amount:Int))))=H2
  intro I2 hh2
  have hend2:(B.lines.modify h (setT (B.lines.length+1))++[l])[B.lines.length]? =some l:=by rw[List.getElem?_append_right (by omega),hlm];simp
  have hsetl:∀(l2:Ln) (j:Nat),j≠B.lines.length→(B.lines.modify h (setT (B.lines.length+1))++[l2])[j]? =(B.lines.modify h (setT (B.lines.length+1))++[l])[j]? :=fun l2 j hj=>by
   by_cases c:j<B.lines.length
   ·rw[yX hlm c,yX hlm c]
   ·rw[List.getElem?_eq_none (by rw[List.length_append,hlm];simp;omega),List.getElem?_eq_none (by rw[List.length_append,hlm];simp;omega)]
  obtain⟨dxa2,sta2,soa2,ha2,hIa2,hSa2⟩:=I2.ln _ _ _ ha hend2
  have nha:ah≠a:=fun z=>by
   subst z
   have h1:=(List.getElem?_eq_some_iff.mp hah).1
   have:=(List.getElem?_inj h1 I2.nd).mp (hah.trans ha.symm)
   omega
  have ekind:(B.lines.getD h l).kind=lh.kind:=by rw[List.getD_eq_getElem?_getD,hlh];rfl
  refine if1 (x:=keStr lh.kind) (a:=kdStr .while_) (fun Q q=>rdF rfl hh2 T.cl T.lK (yE ..) q) (fun y=>?_) (fun y=>?_)
  ·rw[ke_eq]at y
   have ek:=of_decide_eq_true y
   refine⟨_,rfl,a,CL,dxa2,_,rfl,ha2,T.cl,T.lK,xF ..,?_⟩
   rw[lnP_kind]
   have hh3:(upd H2 a (.ins CL dxa2 (lnF (.int ((B.lines.length+1:Nat):Int)) (.str "end while") (.ref sta2) soa2 (natO l.target) (.int (l.amount:Int))))) ah=_:=(zF nha).trans hh2
   refine⟨_,rfl,ah,CL,dxh,_,_,rfl,hh3,T.cl,T.lN,lnF_number ..,_,_,rfl,rfl,_,rfl,a,CL,dxa2,_,rfl,zB,T.cl,T.lT,xF ..,?_⟩
   rw[lnP_target,yP]
   have e1:(((h+1:Nat):Int) -1)=((h:Nat):Int):=by omega
   dsimp only
   rw[e1]
   have I3:=I2.putL (dx:=dxa2) (fs:=lnF (.int ((B.lines.length+1:Nat):Int)) (.str "end while") (.ref sta2) soa2 (.int ((h:Nat):Int)) (.int (l.amount:Int))) (l':={ l with kind:=.ew,target:=some h }) (ls:=B.lines.modify h (setT (B.lines.length+1))++[{ l with kind:=.ew,target:=some h }]) ha ⟨dxa2,sta2,soa2,zB,hIa2,hSa2⟩ (by rw[List.length_append,List.length_append];rfl)
    (by rw[List.getElem?_append_right (by omega),hlm];simp) (fun j hj=>hsetl _ j hj)
   have hh4:(upd H2 a (.ins CL dxa2 (lnF (.int ((B.lines.length+1:Nat):Int)) (.str "end while") (.ref sta2) soa2 (.int ((h:Nat):Int)) (.int (l.amount:Int))))) ah=_:=(zF nha).trans hh2
   refine if1 (x:=keStr lh.kind) (a:=kdStr .proc) (fun Q q=>rdF rfl hh4 T.cl T.lK (yE ..) q) (fun y=>?_) (fun y=>?_)
   ·rw[ke_eq]at y
    have:=of_decide_eq_true y
    rw[ek]at this;cases this
   refine k _ W pp (Same.refl _) ?_
   have ec:closeP B h hs l=⟨B.lines.modify h (setT (B.lines.length+1))++[{ l with kind:=.ew,target:=some h }],hs,B.params⟩:=by unfold closeP;rw[ekind,ek]
   rw[ec]
   exact I3
  ·rw[ke_eq]at y
   have nk:=of_decide_eq_false y
   refine if1 (x:=keStr lh.kind) (a:=kdStr .proc) (fun Q q=>rdF rfl hh2 T.cl T.lK (yE ..) q) (fun y=>?_) (fun y=>?_)
   ·rw[ke_eq]at y
    have ek:=of_decide_eq_true y
    refine⟨_,rfl,a,CL,dxa2,_,rfl,ha2,T.cl,T.lK,xF ..,?_⟩
    rw[lnP_kind]
    have I3:=I2.putL (dx:=dxa2) (fs:=lnF (.int ((B.lines.length+1:Nat):Int)) (.str "end proc") (.ref sta2) soa2 (natO l.target) (.int (l.amount:Int))) (l':={ l with kind:=.ep }) (ls:=B.lines.modify h (setT (B.lines.length+1))++[{ l with kind:=.ep }]) ha ⟨dxa2,sta2,soa2,zB,hIa2,hSa2⟩ (by rw[List.length_append,List.length_append];rfl)
     (by rw[List.getElem?_append_right (by omega),hlm];simp) (fun j hj=>hsetl _ j hj)
    revert I3
    generalize upd H2 a (.ins CL dxa2 (lnF (.int ((B.lines.length+1:Nat):Int)) (.str "end proc") (.ref sta2) soa2 (natO l.target) (.int (l.amount:Int))))=H3
    intro I3
    obtain⟨dxb3,hb3⟩:=I3.ob
    refine⟨zero_line,fun z hz=>?_⟩
    have sz:Same H3 (upd H3 z (.lst [])):=Same.upd' (Same.refl _) hz
    have I4:=I3.grow sz
    have s1:Same (one1 z (.lst [])) (upd H3 z (.lst [])):=yV zB
    have nz:∀{c:Addr},H3 c≠none→(one1 z (.lst [])) c=none:=fun {c} hc=>one_no fun e=>hc (by rw[e];exact hz)
    have I5:=I4.ext (W':=jn W (one1 z (.lst []))) jn_l (xG I4.sub s1) (yG I4.wb (nz (by rw[hb3];simp))) (yG I4.wL (nz (by rw[I3.ls];simp))) (yG I4.wH (nz (by obtain⟨_,e,_⟩:=I3.hs;rw[e];simp))) (fun c hc=>by
     obtain⟨i,hi⟩:=List.mem_iff_getElem?.mp hc
     obtain⟨_,_,_,_,_,e,_⟩:=I3.lnOf hi
     exact yG (I4.wa c hc) (nz (by rw[e];simp)))
    have hzw:Wds (jn W (one1 z (.lst []))) z []:=⟨[],jn_r I4.sub s1 _ _ one_at,.nil⟩
    refine⟨_,rfl,b,CB,dxb3,_,rfl,sz _ _ hb3,T.cb,T.bA,bdF_len ..,?_⟩
    rw[bdP_pa]
    refine k _ (jn W (one1 z (.lst []))) z jn_l ?_
    have ec:closeP B h hs l=⟨B.lines.modify h (setT (B.lines.length+1))++[{ l with kind:=.ep }],hs,[]⟩:=by unfold closeP;rw[ekind,ek]
    rw[ec]
    exact I5.putPa hzw
   ·rw[ke_eq]at y
    have nk2:=of_decide_eq_false y
    refine k _ W pp (Same.refl _) ?_
    have ec:closeP B h hs l=⟨B.lines.modify h (setT (B.lines.length+1))++[l],hs,B.params⟩:=by
     unfold closeP
     rw[ekind]
     split
     ·rename_i e;exact absurd e nk
     ·rename_i e;exact absurd e nk2
     ·rfl
    rw[ec]
    exact I2
end
end Pg
namespace Pg
open PySem L2 Ck Ins Cc R
section
variable {P:Program}{w:World}{K:PySem.W.Frag}{mg:Str→Option Value}{base:Heap}{C aW aB aC aO aN fI CL CB:Addr}{wA:Nat→Addr}{fdI:FuncData}
def spTake(C CL CB:Addr):Sp:=fun vs H Q _=>∃(b q L Hd d pp:Addr) (as:List Addr) (W:Hp) (R:PrT) (B:Bd) (ws:List Bytes),vs=[.ref b,.ref q]∧BdAt C CL CB W H b L Hd d pp as R B∧Wds W q ws∧(∀w∈ws,w≠[]∧w.length≤16500)∧ws.length≤16500∧B.params.length≤16500∧B.lines.length≤16500∧B.heads.length≤16500∧WellL R ws∧
 (kindOf ws=.else_∨kindOf ws=.end_→∃h hs,B.heads=h::hs∧h<B.lines.length)∧
 ∀H' W' pp' as',Same W W'→BdAt C CL CB W' H' b L Hd d pp' as' R (takeP R B ws)→Q .non H'
theorem scTake:FnScope ["self","words","line","head"] ["self","words"] (defScope sTake):=⟨rfl,rfl,rfl,by decide +kernel,rfl,by decide +kernel,by decide +kernel⟩
theorem rdk{σ:St}{W H:Hp}{b L Hd d pp x:Addr}{as:List Addr}{R:PrT}{B:Bd}{n:Nat}{l:Ln}{kk:Kd}{Q:VK}(T:PgT K mg CL CB)(I:BdAt C CL CB W H b L Hd d pp as R B)(hx:as[n]? =some x)(hl:B.lines[n]? =some l)(ek:l.kind=.of kk)(hs:σ[2]? =some (some (.ref x)))(q:Q (.str (kdStr kk)) H):tFld K (tVar 2) "kind" σ H Q:=by
 obtain⟨dx,st,so,h1,_⟩:=I.ln n x l hx hl
 refine rdF hs h1 T.cl T.lK (yE ..) ?_
 rw[ek]
 exact q
theorem ok_take{f fL fK fF fC:Addr}{fd fdL fdK fdF fdC:FuncData}(F:Fun K "take" "Builder.take" sTake f fd)(T:PgT K mg CL CB)(M:LnT P w K mg aB aC aO)(DK:Dn K mg "line_kind" sKind fK fdK ["words"])
  (ML:Mk K CL fL)(FL:Fun K "__init__" "Line.__init__" sLnInit fL fdL)(bL:Binds K fdL ["self","number","kind"] [])
  (MF:Meth K CB "fill" fF)(GF:FnOk P w K mg base CX0 6 fF fdF ["self","line","words"] (spFill C CL CB))(bF:Binds K fdF ["self","line","words"] [])
  (MC:Meth K CB "close" fC)(FC:Fun K "close" "Builder.close" sClose fC fdC)(bC:Binds K fdC ["self","line"] []):FnOk P w K mg base CX0 7 f fd ["self","words"] (spTake C CL CB):=by
 have GK:FnOk P w K mg base CX0 1 fK fdK ["words"] spKind:=ok_kind DK M
 have GL:FnOk P w K mg base CX0 1 fL fdL ["self","number","kind"] (spLnInit CL):=ok_lnInit FL T
 have GC:FnOk P w K mg base CX0 1 fC fdC ["self","line"] (spClose C CL CB):=ok_close FC T
 refine F.ok scTake (fun vs H Q E h=>?_) (fun cdv A outer s H vs Q E hr h=>?_)
 ·obtain⟨b,q,L,Hd,d,pp,as,W,R,B,ws,rfl,_⟩:=h
  rfl
 ·obtain⟨b,q,L,Hd,d,pp,as,W,R,B,ws,rfl,I,hq,hgood,hwl,hpl,hll,hhl,hwell,hhd,k⟩:=h
  have hr1:Room 1 _:=hr.mono (by decide)
  have hr2:Room 2 _:=hr.mono (by decide)
  refine⟨_,zD (zZ (i:=2) scTake.nd rfl (Or.inl rfl) (pe_make ML GL hr2 (by rfl) T.mgL bL .nil pass0 (zA (yQ op_add (zU zR (by rfl) M.wd.len PySem.boot_len (zA (zJ (pv 0) rfl) zG)) zI) (zA (zS GK hr1 (by rfl) DK.at_ DK.fn.kp DK.bd .nil pass0 (zA (pv 1) zG)) zG))))
   (zD (yA (xA PySem.F.plainAttrs_list PySem.F.slot_list_append PySem.F.type_list_append yD (zJ (pv 0) rfl) (zA (pv 2) zG)))
   (zD (yA (pe_meth (pv 0) T.cb MF GF hr bF .nil pass0 (zA (pv 2) (zA (pv 1) zG))))
   (zD (zV (zK yR (zJ (pv 2) rfl) (pe_tup (zA zT (zA zT (zA zT zG)))) rfl) (zE (yA (xA PySem.F.plainAttrs_list PySem.F.slot_list_append PySem.F.type_list_append yD (zJ (pv 0) rfl) (zA (pv 2) zG)))) zL)
   (zD (zV (zK yC (zJ (pv 2) rfl) zT (zM _)) (zE (zY (pv 0) (yZ sl_list (pv 1) (xE zI) po_none) rfl)) zL)
   (zD (zV (zK yC (zJ (pv 2) rfl) zT (zM _)) (zD (zZ (i:=3) scTake.nd rfl (Or.inl rfl) (pe_bm0 PySem.F.plainAttrs_list PySem.F.slot_list_pop PySem.F.type_list_pop mt_pop (zJ (pv 0) rfl))) (zD (zY (pv 3) (zJ (pv 2) rfl) rfl) (zE (yA (xA PySem.F.plainAttrs_list PySem.F.slot_list_append PySem.F.type_list_append yD (zJ (pv 0) rfl) (zA (pv 2) zG)))))) zL)
   (zE (zV (zK yC (zJ (pv 2) rfl) zT (zM _)) (zE (yA (pe_meth (pv 0) T.cb MC GC hr1 bC .nil pass0 (zA (pv 2) zG)))) zL))))))),?_⟩
  obtain⟨dxb,hb⟩:=I.ob
  have hqH:=hq.mono I.sub
  have h0:=I.len
  refine⟨_,rfl,b,CB,dxb,_,_,rfl,hb,T.cb,T.bL,bdF_ls ..,L,_,rfl,.inl (SqL.of I.ls),_,_,rfl,rfl,_,rfl,q,ws,rfl,hqH,hgood,?_⟩
  intro x dx hx hdx ne
  rw[List.length_map,h0]
  refine⟨x,dx,B.lines.length+1,kdStr (kindOf ws),rfl,zB,fun H1 st fr hst nst hst1 hx1=>⟨rfl,?_⟩⟩
  have s1:Same H H1:=Same.made hx hdx fr
  have hst0:H st=none:=by
   rw[zF nst]at hst
   have n2:st≠dx:=fun z=>by rw[z,zB]at hst;cases hst
   rw[zF n2]at hst
   exact hst
  have I1:=I.grow s1
  clear fr hst
  have nxL:L≠x:=zH I.ls hx
  have nsL:L≠st:=zH I.ls hst0
  refine⟨_,rfl,b,CB,dxb,_,_,rfl,s1 _ _ hb,T.cb,T.bL,bdF_ls ..,.inl ⟨rfl,_,SqL.of I1.ls⟩,_,rfl,L,_,_,rfl,rfl,I1.ls,by rw[List.length_map,h0];have:=zP;omega,?_⟩
  have nbL:=I.nb.1
  have hb2:(upd H1 L (.lst (as.map V.ref++[V.ref x]))) b=some (.ins CB dxb (bdF d L Hd pp)):=by rw[zF nbL];exact s1 _ _ hb
  have hx2:(upd H1 L (.lst (as.map V.ref++[V.ref x]))) x=some (.ins CL dx (lnF (.int ((B.lines.length+1:Nat):Int)) (.str (kdStr (kindOf ws))) (.ref st) .non .non (.int 0))):=by rw[zF nxL.symm];exact hx1
  have hL2:(upd H1 L (.lst (as.map V.ref++[V.ref x]))) L=some (.lst ((as++[x]).map V.ref)):=by rw[zB,List.map_append];rfl
  have hfr2:∀c o,H c=some o→c≠L→(upd H1 L (.lst (as.map V.ref++[V.ref x]))) c=some o:=fun c o e hc=>by rw[zF hc];exact s1 _ _ e
  have hst2:(upd H1 L (.lst (as.map V.ref++[V.ref x]))) st=some (.lst []):=by rw[zF nsL.symm];exact hst1
  revert hb2 hx2 hL2 hfr2 hst2
  generalize upd H1 L (.lst (as.map V.ref++[V.ref x]))=H2
  intro hb2 hx2 hL2 hfr2 hst2
  have sW2:Same W H2:=fun c o e=>hfr2 c o (I.sub _ _ e) (fun z=>by rw[z,I.wL]at e;cases e)
  have so2:Same (one1 st (.lst [])) H2:=yV hst2
  have wx:W x=none:=I.sub.free hx
  have ox:∀{c:Addr},c≠st→(one1 st (HO.lst [])) c=none:=fun h=>one_no h
  refine⟨_,rfl,b,dxb,_,rfl,hb2,bdF_fill ..,_,rfl,_,rfl,b,x,q,d,L,Hd,pp,dxb,dx,st,B.lines.length+1,ws,B.params,R,jn W (one1 st (.lst [])),rfl,hb2,hx2,xG sW2 so2,yG wx (ox nst.symm),jn_r sW2 so2 _ _ one_at,I.pr.mono jn_l,I.pa.mono jn_l,hpl,hq.mono jn_l,hgood,hwl,hwell,fun H3 U fr3 sU oU hLn=>?_⟩
  generalize hl:fillP R B.params ws=l at hLn
  have hlk:l.kind=.of (kindOf ws):=by rw[←hl];exact(fill_kind R B.params ws).1
  have sW3:Same (jn W (one1 st (.lst []))) H3:=fun c o e=>fr3 c o (xG sW2 so2 _ _ e) (fun z=>by rw[z,yG wx (ox nst.symm)]at e;cases e)
  have wn:∀{c:Addr} {o:HO},W c=none→H2 c=some o→c≠st→(jn (jn W (one1 st (HO.lst []))) U) c=none:=fun {c o} h1 h2 h3=>yG (yG h1 (ox h3)) (oU _ _ h2)
  have nxb:b≠x:=zH hb hx
  have keyA:∀(i:Nat) (c:Addr),as[i]? =some c→c≠x∧c≠L∧c≠st∧(∃o,H c=some o):=fun i c hc=>by
   obtain⟨l',_,dx',st',so',e,_⟩:=I.lnOf hc
   exact⟨zH e hx,(I.ne hc).2.1,zH e hst0,_,e⟩
  have I3:BdAt C CL CB (jn (jn W (one1 st (.lst []))) U) H3 b L Hd d pp (as++[x]) R ⟨B.lines++[l],B.heads,B.params⟩:=by
   obtain⟨hs,hH,hP⟩:=I.hs
   have nHx:Hd≠x:=zH hH hx
   have nHs:Hd≠st:=zH hH hst0
   refine⟨xG sW3 sU,⟨dxb,fr3 _ _ hb2 nxb⟩,fr3 _ _ hL2 nxL,⟨hs,fr3 _ _ (hfr2 _ _ hH I.nLH.symm) nHx,Paired.mapP hP fun c h e=>?_⟩,(I.pr.mono jn_l).mono jn_l,(I.pa.mono jn_l).mono jn_l,by rw[List.length_append,List.length_append,h0];rfl,?_,?_,wn I.wb hb2 (zH hb hst0),wn I.wL hL2 nsL,wn I.wH (hfr2 _ _ hH I.nLH.symm) nHs,?_,I.nLH⟩
   ·rw[List.getElem?_append_left (List.getElem?_eq_some_iff.mp e).1];exact e
   ·intro i c l' hc hl'
    by_cases hi:i<as.length
    ·rw[List.getElem?_append_left hi]at hc
     have hl'':(B.lines++[l])[i]? =some l':=hl'
     rw[List.getElem?_append_left (by omega)]at hl''
     obtain⟨k1,k2,k3,o,ho⟩:=keyA i c hc
     refine(I.ln i c l' hc hl'').mono (jn_l.trans jn_l) ?_
     rw[fr3 _ _ (hfr2 _ _ ho k2) k1,ho]
    ·have hil:=(List.getElem?_eq_some_iff.mp hc).1
     rw[List.length_append]at hil
     have hi2:i=as.length:=by simp at hil;omega
     subst hi2
     rw[List.getElem?_append_right (Nat.le_refl _)]at hc
     simp at hc
     subst hc
     have hl'':(B.lines++[l])[as.length]? =some l':=hl'
     rw[h0,List.getElem?_append_right (Nat.le_refl _)]at hl''
     simp at hl''
     subst hl''
     rw[h0]
     exact hLn
   ·rw[List.nodup_append]
    refine⟨I.nd,by simp,fun c hc c' hc'=>?_⟩
    simp at hc'
    subst hc'
    obtain⟨i,hi⟩:=List.mem_iff_getElem?.mp hc
    exact(keyA i c hi).1
   ·intro c hc
    rcases List.mem_append.mp hc with hc | hc
    ·obtain⟨i,hi⟩:=List.mem_iff_getElem?.mp hc
     obtain⟨k1,k2,k3,o,ho⟩:=keyA i c hi
     exact wn (I.wa c hc) (hfr2 _ _ ho k2) k3
    ·simp at hc
     subst hc
     exact wn wx hx2 nst.symm
  have hxi:(as++[x])[B.lines.length]? =some x:=by rw[←h0,List.getElem?_append_right (Nat.le_refl _)];simp
  have hli:(B.lines++[l])[B.lines.length]? =some l:=by rw[List.getElem?_append_right (Nat.le_refl _)];simp
  have sWW:Same W (jn (jn W (one1 st (.lst []))) U):=jn_l.trans jn_l
  clear hLn wn sW3 hfr2 fr3 sU oU sW2 so2 ox keyA hb2 hx2 hL2 hst2 I1 nxb nbL nsL nxL hst0 hx1 hst1 s1 hx hdx ne
  revert I3 sWW
  generalize jn (jn W (one1 st (.lst []))) U=W3
  intro I3 sWW
  have lenx:(1:Nat)≤sizeLine:=by have:=zP;omega
  refine if3 (x:=kdStr (kindOf ws)) (fun Q q=>rdk T I3 hxi hli hlk rfl q) (fun y H4 s4=>?_) (fun y H4 s4=>?_)
  ·rw[in_d]at y
   have c1:=of_decide_eq_true y
   have I4:=I3.grow s4
   obtain⟨dxb4,hb4⟩:=I4.ob
   obtain⟨hs,hH4,hP4⟩:=I4.hs
   have hhs:hs.length=B.heads.length:=Paired.length hP4
   refine⟨_,rfl,b,CB,dxb4,_,_,rfl,hb4,T.cb,T.bH,bdF_hd ..,.inl ⟨rfl,_,SqL.of hH4⟩,_,rfl,Hd,_,_,rfl,rfl,hH4,by rw[List.length_map,List.length_reverse,hhs];have:=zP;omega,?_⟩
   have eh:hs.reverse.map V.ref++[V.ref x]=(x::hs).reverse.map V.ref:=by simp
   rw[eh]
   have I5:=I4.putHd (hs:=x::hs) (hh:=B.lines.length::B.heads) (.cons hxi hP4)
   revert I5
   generalize upd H4 Hd (.lst ((x::hs).reverse.map V.ref))=H5
   intro I5
   refine if1 (x:=kdStr (kindOf ws)) (a:=kdStr .proc) (fun Q q=>rdk T I5 hxi hli hlk rfl q) (fun y=>?_) (fun y=>?_)
   ·-- proc
    rw[yL]at y
    have ek:=of_decide_eq_true y
    have hq5:=hq.mono (sWW.trans I5.sub)
    obtain⟨pw,hpw,hpr⟩:=id hq
    have hpw5:=(sWW.trans I5.sub) _ _ hpw
    obtain⟨dxb5,hb5⟩:=I5.ob
    refine⟨_,rfl,_,rfl,q,_,rfl,SqL.of hpw5,fun z hz=>?_⟩
    have ecut:cutV (pw.map V.ref) (some 2) none=(pw.drop 2).map V.ref:=by
     rw[show(2:Int)=((2:Nat):Int) from rfl,cut_from',List.map_drop]
    rw[ecut]
    have sz:Same H5 (upd H5 z (.lst ((pw.drop 2).map V.ref))):=Same.upd' (Same.refl _) hz
    have I6:=I5.grow sz
    have s1:Same (one1 z (.lst ((pw.drop 2).map V.ref))) (upd H5 z (.lst ((pw.drop 2).map V.ref))):=yV zB
    have nz:∀{c:Addr},H5 c≠none→(one1 z (HO.lst ((pw.drop 2).map V.ref))) c=none:=fun {c} hc=>one_no fun e=>hc (by rw[e];exact hz)
    have I7:=I6.ext (W':=jn W3 (one1 z (.lst ((pw.drop 2).map V.ref)))) jn_l (xG I6.sub s1) (yG I6.wb (nz (by rw[hb5];simp))) (yG I6.wL (nz (by rw[I5.ls];simp))) (yG I6.wH (nz (by obtain⟨_,e,_⟩:=I5.hs;rw[e];simp))) (fun c hc=>by
     obtain⟨i,hi⟩:=List.mem_iff_getElem?.mp hc
     obtain⟨_,_,_,_,_,e,_⟩:=I5.lnOf hi
     exact yG (I6.wa c hc) (nz (by rw[e];simp)))
    have hzw:Wds (jn W3 (one1 z (.lst ((pw.drop 2).map V.ref)))) z (ws.drop 2):=⟨pw.drop 2,jn_r I6.sub s1 _ _ one_at,Paired.mapP (paired_drop 2 hpr) fun c v e=>jn_l _ _ (sWW _ _ e)⟩
    refine⟨_,rfl,b,CB,dxb5,_,rfl,sz _ _ hb5,T.cb,T.bA,bdF_len ..,?_⟩
    rw[bdP_pa]
    have I8:=I7.putPa (dx:=dxb5) hzw
    revert I8
    generalize upd (upd H5 z (.lst ((pw.drop 2).map V.ref))) b (.ins CB dxb5 (bdF d L Hd z))=H8
    intro I8
    refine if1 (x:=kdStr (kindOf ws)) (a:=kdStr .else_) (fun Q q=>rdk T I8 hxi hli hlk rfl q) (fun y=>?_) (fun y=>?_)
    ·rw[yL,ek]at y;cases y
    refine if1 (x:=kdStr (kindOf ws)) (a:=kdStr .end_) (fun Q q=>rdk T I8 hxi hli hlk rfl q) (fun y=>?_) (fun y=>?_)
    ·rw[yL,ek]at y;cases y
    refine k _ (jn W3 (one1 z (.lst ((pw.drop 2).map V.ref)))) z (as++[x]) (sWW.trans jn_l) ?_
    have et:takeP R B ws=⟨B.lines++[l],B.lines.length::B.heads,ws.drop 2⟩:=by unfold takeP;rw[hl,ek]
    rw[et]
    exact I8
   ·rw[yL]at y
    have nk:=of_decide_eq_false y
    have c2:kindOf ws=.if_∨kindOf ws=.while_:=by
     rcases c1 with e | e | e
     ·exact .inl e
     ·exact .inr e
     ·exact absurd e nk
    refine if1 (x:=kdStr (kindOf ws)) (a:=kdStr .else_) (fun Q q=>rdk T I5 hxi hli hlk rfl q) (fun y=>?_) (fun y=>?_)
    ·rw[yL]at y;have:=of_decide_eq_true y;rcases c2 with e | e<;>(rw[e]at this;cases this)
    refine if1 (x:=kdStr (kindOf ws)) (a:=kdStr .end_) (fun Q q=>rdk T I5 hxi hli hlk rfl q) (fun y=>?_) (fun y=>?_)
    ·rw[yL]at y;have:=of_decide_eq_true y;rcases c2 with e | e<;>(rw[e]at this;cases this)
    refine k _ W3 pp (as++[x]) sWW ?_
    have et:takeP R B ws=⟨B.lines++[l],B.lines.length::B.heads,B.params⟩:=by unfold takeP;rw[hl];rcases c2 with e | e<;>rw[e]
    rw[et]
    exact I5
  ·have n1:¬(kindOf ws=.if_∨kindOf ws=.while_∨kindOf ws=.proc):=by rw[in_d]at y;exact of_decide_eq_false y
   have I4:=I3.grow s4
   refine if1 (x:=kdStr (kindOf ws)) (a:=kdStr .proc) (fun Q q=>rdk T I4 hxi hli hlk rfl q) (fun y=>?_) (fun y=>?_)
   ·rw[yL]at y;exact absurd (.inr (.inr (of_decide_eq_true y))) n1
   refine if1 (x:=kdStr (kindOf ws)) (a:=kdStr .else_) (fun Q q=>rdk T I4 hxi hli hlk rfl q) (fun y=>?_) (fun y=>?_)
   ·-- else
    rw[yL]at y
    have ek:=of_decide_eq_true y
    obtain⟨h,hs0,ehd,hlt⟩:=hhd (.inl ek)
    obtain⟨dxb4,hb4⟩:=I4.ob
    obtain⟨hsA,hH4,hP4⟩:=I4.hs
    have hP4':Paired (fun(a:Addr) (h:Nat)=>(as++[x])[h]? =some a) hsA (h::hs0):=by rw[←ehd];exact hP4
    obtain⟨ah,hsA',rfl,hah,hsP'⟩:∃ah hsA',hsA=ah::hsA'∧(as++[x])[h]? =some ah∧Paired (fun(a:Addr) (h:Nat)=>(as++[x])[h]? =some a) hsA' hs0:=by
     cases hP4' with
     |cons r t=>exact⟨_,_,rfl,r,t⟩
    refine⟨_,rfl,b,CB,dxb4,_,_,rfl,hb4,T.cb,T.bH,bdF_hd ..,.inl ⟨rfl,_,SqL.of hH4⟩,Hd,_,V.ref ah,rfl,rfl,hH4,by simp,?_⟩
    have ed:((ah::hsA').reverse.map V.ref).dropLast=hsA'.reverse.map V.ref:=by simp
    rw[ed]
    have I5:=I4.putHd hsP'
    revert I5
    generalize upd H4 Hd (.lst (hsA'.reverse.map V.ref))=H5
    intro I5
    obtain⟨dxa,sta,soa,ha5,_,_⟩:=I5.ln _ _ _ hxi hli
    obtain⟨lh,hlh⟩:∃lh,B.lines[h]? =some lh:=⟨_,List.getElem?_eq_getElem hlt⟩
    obtain⟨dxh,sth,soh,hh5,hIh,hSh⟩:=I5.ln h ah lh hah (by show(B.lines++[l])[h]? =_;rw[List.getElem?_append_left hlt];exact hlh)
    refine⟨_,rfl,x,CL,dxa,_,_,rfl,ha5,T.cl,T.lN,lnF_number ..,_,rfl,ah,CL,dxh,_,rfl,hh5,T.cl,T.lT,xF ..,?_⟩
    rw[lnP_target]
    have hlm:(B.lines.modify h (setT (B.lines.length+1))).length=B.lines.length:=List.length_modify ..
    have I6:=I5.putL (dx:=dxh) (fs:=lnF (.int ((h+1:Nat):Int)) (.str (keStr lh.kind)) (.ref sth) soh (.int ((B.lines.length+1:Nat):Int)) (.int (lh.amount:Int))) (l':=setT (B.lines.length+1) lh) (ls:=B.lines.modify h (setT (B.lines.length+1))++[l]) hah ⟨dxh,sth,soh,zB,hIh,hSh⟩ (by rw[List.length_append,List.length_append,hlm])
     ((yX hlm hlt).trans (yU hlh)) (fun j hj=>by
      show(B.lines.modify h (setT (B.lines.length+1))++[l])[j]? =(B.lines++[l])[j]?
      by_cases c:j<B.lines.length
      ·rw[yX hlm c,List.getElem?_append_left c];exact yW (fun z=>hj z.symm)
      ·rw[List.getElem?_append_right (by omega),List.getElem?_append_right (by omega),hlm])
    revert I6
    generalize upd H5 ah (.ins CL dxh (lnF (.int ((h+1:Nat):Int)) (.str (keStr lh.kind)) (.ref sth) soh (.int ((B.lines.length+1:Nat):Int)) (.int (lh.amount:Int))))=H6
    intro I6
    obtain⟨dxb6,hb6⟩:=I6.ob
    obtain⟨hs6,hH6,hP6⟩:=I6.hs
    have hhs:=Paired.length hP6
    have hhs2:hs0.length≤16500:=by rw[ehd]at hhl;simp at hhl;omega
    have hhs3:hs6.length=hs0.length:=hhs
    refine⟨_,rfl,b,CB,dxb6,_,_,rfl,hb6,T.cb,T.bH,bdF_hd ..,.inl ⟨rfl,_,SqL.of hH6⟩,_,rfl,Hd,_,_,rfl,rfl,hH6,by rw[List.length_map,List.length_reverse,hhs3];have:=zP;omega,?_⟩
    have eh:hs6.reverse.map V.ref++[V.ref x]=(x::hs6).reverse.map V.ref:=by simp
    rw[eh]
    have I7:=I6.putHd (hs:=x::hs6) (hh:=B.lines.length::hs0) (.cons hxi hP6)
    revert I7
    generalize upd H6 Hd (.lst ((x::hs6).reverse.map V.ref))=H7
    intro I7
    have hli7:(B.lines.modify h (setT (B.lines.length+1))++[l])[B.lines.length]? =some l:=by rw[List.getElem?_append_right (by omega),hlm];simp
    refine if1 (x:=kdStr (kindOf ws)) (a:=kdStr .end_) (fun Q q=>rdk T I7 hxi hli7 hlk rfl q) (fun y=>?_) (fun y=>?_)
    ·rw[yL,ek]at y;cases y
    refine k _ W3 pp (as++[x]) sWW ?_
    have et:takeP R B ws=⟨B.lines.modify h (setT (B.lines.length+1))++[l],B.lines.length::hs0,B.params⟩:=by unfold takeP;rw[hl,ek,ehd]
    rw[et]
    exact I7
   ·rw[yL]at y
    have n2:=of_decide_eq_false y
    refine if1 (x:=kdStr (kindOf ws)) (a:=kdStr .end_) (fun Q q=>rdk T I4 hxi hli hlk rfl q) (fun y=>?_) (fun y=>?_)
    ·-- end
     rw[yL]at y
     have ek:=of_decide_eq_true y
     obtain⟨h,hs0,ehd,hlt⟩:=hhd (.inr ek)
     obtain⟨dxb4,hb4⟩:=I4.ob
     rw[ehd]at I4
     refine⟨_,rfl,b,dxb4,_,rfl,hb4,bdF_close ..,_,rfl,b,x,L,Hd,d,pp,as++[x],W3,R,B,l,h,hs0,rfl,I4,hxi,hlt,by rw[hlk,ek],fun H5 W5 pp5 s5 I5=>?_⟩
     refine k _ W5 pp5 (as++[x]) (sWW.trans s5) ?_
     have et:takeP R B ws=closeP B h hs0 l:=by unfold takeP;rw[hl,ek,ehd]
     rw[et]
     exact I5
    ·rw[yL]at y
     have n3:=of_decide_eq_false y
     refine k _ W3 pp (as++[x]) sWW ?_
     have et:takeP R B ws=⟨B.lines++[l],B.heads,B.params⟩:=by
      unfold takeP
      rw[hl]
      dsimp only
      split<;>rename_i e
      ·exact absurd (.inl e) n1
      ·exact absurd (.inr (.inl e)) n1
      ·exact absurd (.inr (.inr e)) n1
      ·exact absurd e n2
      ·exact absurd e n3
      ·rfl
     rw[et]
     exact I4
end
end Pg
namespace Cc
open Ls
open Ck hiding Bytes
theorem take_params{R:PrT}{B:Bd}{ws:List Bytes}(h:B.params.length≤16500)(hw:ws.length≤16500):(takeP R B ws).params.length≤16500:=by
 unfold takeP
 dsimp only
 split
 ·exact h
 ·exact h
 ·show(ws.drop 2).length≤_;rw[List.length_drop];omega
 ·split
  ·exact h
  ·exact h
 ·split
  ·unfold closeP
   dsimp only
   split
   ·exact h
   ·show([]:List Bytes).length≤_;simp
   ·exact h
  ·exact h
 ·exact h
theorem take_heads{R:PrT}{B:Bd}{ws:List Bytes}:(takeP R B ws).heads.length≤B.heads.length+1:=by
 unfold takeP
 dsimp only
 split
 ·simp
 ·simp
 ·simp
 ·split
  ·rename_i h hs e;rw[e];simp
  ·omega
 ·split
  ·rename_i h hs e
   unfold closeP
   dsimp only
   rw[e]
   split<;>(simp;omega)
  ·omega
 ·simp
theorem well_cases{ar:Nat→Option Nat}{R:PrT}{P:List L}(hR:ProcOk R P)(har:∀p,ar p=(procAt p 0 P).map fun x=>x.2.length){ws:List Bytes}{l:L}(h:Rd ar ws l):
  (kindOf ws=.put∨kindOf ws=.if_∨kindOf ws=.while_→exprsP 1 (ws.drop 1)=true)∧(kindOf ws=.set∨kindOf ws=.do_→∃m:Nat,exprsP (m:Int) (ws.drop 2)=true)∧
  (kindOf ws=.set∨kindOf ws=.get→∃c:UInt8,ws[1]? =some [c])∧(kindOf ws=.do_→∃q e,ws[1]? =some q∧R.lookup q=some e)∧(kindOf ws=.proc→2≤ws.length):=by
 have none5:∀{kk:Kd},kindOf ws=kk→kk≠.put→kk≠.if_→kk≠.while_→kk≠.set→kk≠.do_→kk≠.get→kk≠.proc→
   (kindOf ws=.put∨kindOf ws=.if_∨kindOf ws=.while_→exprsP 1 (ws.drop 1)=true)∧(kindOf ws=.set∨kindOf ws=.do_→∃m:Nat,exprsP (m:Int) (ws.drop 2)=true)∧
   (kindOf ws=.set∨kindOf ws=.get→∃c:UInt8,ws[1]? =some [c])∧(kindOf ws=.do_→∃q e,ws[1]? =some q∧R.lookup q=some e)∧(kindOf ws=.proc→2≤ws.length):=by
  intro kk e h1 h2 h3 h4 h5 h6 h7
  rw[e]
  exact⟨fun z=>by rcases z with z | z | z<;>contradiction,fun z=>by rcases z with z | z<;>contradiction,fun z=>by rcases z with z | z<;>contradiction,fun z=>by contradiction,fun z=>by contradiction⟩
 have hx:∀{v:Bytes} {x:Nat},varOf v=some x→∃c:UInt8,v=[c]:=fun h=>by obtain⟨c,e,_⟩:=varOf_head h;exact⟨c,e⟩
 cases h with
 |skip hk=>exact none5 hk (by decide) (by decide) (by decide) (by decide) (by decide) (by decide) (by decide)
 |@set v t x e hv he=>
  have hk:kindOf ([115,101,116]::v::t)=.set:=rfl
  rw[hk]
  obtain⟨c,rfl⟩:=hx hv
  exact⟨(fun z=>by rcases z with z | z | z<;>cases z),(fun _=>⟨1,by show exprsP 1 t=true;rw[one_iff,he];rfl⟩),(fun _=>⟨c,rfl⟩),(fun z=>nomatch z),(fun z=>nomatch z)⟩
 |@get v x hv=>
  have hk:kindOf [[103,101,116],v]=.get:=rfl
  rw[hk]
  obtain⟨c,rfl⟩:=hx hv
  exact⟨(fun z=>by rcases z with z | z | z<;>cases z),(fun z=>by rcases z with z | z<;>cases z),(fun _=>⟨c,rfl⟩),(fun z=>nomatch z),(fun z=>nomatch z)⟩
 |@put t e he=>
  have hk:kindOf ([112,117,116]::t)=.put:=rfl
  rw[hk]
  exact⟨(fun _=>by show exprsP 1 t=true;rw[one_iff,he];rfl),(fun z=>by rcases z with z | z<;>cases z),(fun z=>by rcases z with z | z<;>cases z),(fun z=>nomatch z),(fun z=>nomatch z)⟩
 |@cond t e he=>
  have hk:kindOf ([105,102]::t)=.if_:=rfl
  rw[hk]
  exact⟨(fun _=>by show exprsP 1 t=true;rw[one_iff,he];rfl),(fun z=>by rcases z with z | z<;>cases z),(fun z=>by rcases z with z | z<;>cases z),(fun z=>nomatch z),(fun z=>nomatch z)⟩
 |@loop t e he=>
  have hk:kindOf ([119,104,105,108,101]::t)=.while_:=rfl
  rw[hk]
  exact⟨(fun _=>by show exprsP 1 t=true;rw[one_iff,he];rfl),(fun z=>by rcases z with z | z<;>cases z),(fun z=>by rcases z with z | z<;>cases z),(fun z=>nomatch z),(fun z=>nomatch z)⟩
 |els=>exact none5 (kk:=.else_) rfl (by decide) (by decide) (by decide) (by decide) (by decide) (by decide) (by decide)
 |ends=>exact none5 (kk:=.end_) rfl (by decide) (by decide) (by decide) (by decide) (by decide) (by decide) (by decide)
 |stop=>exact none5 (kk:=.stop) rfl (by decide) (by decide) (by decide) (by decide) (by decide) (by decide) (by decide)
 |@proc q vs p l hq hl=>
  have hk:kindOf ([112,114,111,99]::q::vs)=.proc:=rfl
  rw[hk]
  exact⟨(fun z=>by rcases z with z | z | z<;>cases z),(fun z=>by rcases z with z | z<;>cases z),(fun z=>by rcases z with z | z<;>cases z),(fun z=>nomatch z),(fun _=>by simp)⟩
 |@call q es p l hq hl hlen=>
  have hk:kindOf ([100,111]::q::es)=.do_:=rfl
  rw[hk]
  rw[har p]at hlen
  obtain⟨x,hx1,hxl⟩:=Option.map_eq_some_iff.mp hlen
  have e2:=hR q p hq
  rw[hx1]at e2
  refine⟨(fun z=>by rcases z with z | z | z<;>cases z),(fun _=>⟨l.length,?_⟩),(fun z=>by rcases z with z | z<;>cases z),(fun _=>⟨q,_,rfl,e2⟩),(fun z=>nomatch z)⟩
  show exprsP (l.length:Int) es=true
  rw[several_iff (es.length+1) es (Nat.lt_succ_self _) l.length,hl]
  exact decide_eq_true rfl
theorem step_facts{Ws:List (List Bytes)}{k:Nat}{B:Bd}{bl:List Kd}{bg:List Bytes}{S:List (Nat×Nat)}{ws:List Bytes}(hR:ProcOk (procsP 0 [] Ws) (Ws.map lineW))(I:BInv (Ws.map lineW) B k bl S)(hws:Ws[k]? =some ws)
  (h:scanP (toldP [] Ws) (k+1) bl bg (Ws.drop k)=0):Rd (fun p=>(procAt p 0 (Ws.map lineW)).map fun x=>x.2.length) ws (lineW ws)∧(kindOf ws=.else_∨kindOf ws=.end_→∃h hs,B.heads=h::hs∧h<B.lines.length)∧
  ∃bl' bg' S',BInv (Ws.map lineW) (takeP (procsP 0 [] Ws) B ws) (k+1) bl' S'∧scanP (toldP [] Ws) (k+1+1) bl' bg' (Ws.drop (k+1))=0:=by
 obtain⟨hk1,hk2⟩:=List.getElem?_eq_some_iff.mp hws
 rw[List.drop_eq_getElem_cons hk1,hk2]at h
 obtain⟨h1,h2,h3⟩:=scan_zero (by omega) h
 have hrd:=rd_of (told_ok Ws) h1
 have hP:(Ws.map lineW)[k]? =some (lineW ws):=by rw[List.getElem?_map,hws];rfl
 obtain⟨S',I'⟩:=binv_step I hP hrd h2 hR (fun _=>rfl)
 refine⟨hrd,fun hk=>?_,_,_,S',I',h3⟩
 have hpos:0<bl.length:=by
  unfold allowsP at h2
  rcases hk with e | e
  ·rw[e]at h2
   simp only[Bool.and_eq_true,decide_eq_true_eq]at h2
   exact h2.1
  ·rw[e]at h2
   simpa using h2
 cases hS:S with
 |nil=>have:=I.sl;rw[hS]at this;simp at this;omega
 |cons x t=>
  have hh:=I.hd
  rw[hS,List.map_cons]at hh
  refine⟨x.2,t.map (·.2),hh,?_⟩
  rw[I.len]
  exact mem_heads I (by rw[hh];simp)
theorem procOk_of{Ws:List (List Bytes)}(h:scanP (toldP [] Ws) 1 [] [] Ws=0):ProcOk (procsP 0 [] Ws) (Ws.map lineW):=fun q p hp=>by
 rw[procs_lookup hp Ws 1 0 [] [] [] (by decide) h,if_neg (by simp)]
 simp
end Cc
namespace Pg
open PySem L2 Ck Ins Cc R
theorem scan_all{T:List (Bytes×Nat)}:∀(Ws:List (List Bytes)) (n:Nat) (bl:List Kd) (bg:List Bytes),n≠0→scanP T n bl bg Ws=0→∀ws∈Ws,isWr T ws=true
 |[],_,_,_,_,_,ws,h=>nomatch h
 |w::r,n,bl,bg,hn,h,ws,hm=>by
  obtain⟨h1,_,h3⟩:=scan_zero hn h
  rcases List.mem_cons.mp hm with e | e
  ·subst e;exact h1
  ·exact scan_all r (n+1) _ _ (by omega) h3 ws e
def ProgAt(C CL:Addr)(W H:Hp)(L:Addr)(ls:List Ln):Prop:=∃as:List Addr,H L=some (.lst (as.map V.ref))∧as.length=ls.length∧∀(i:Nat) (a:Addr) (l:Ln),as[i]? =some a→ls[i]? =some l→LnAt C CL W H a (i+1) l
section
variable {P:Program}{w:World}{K:PySem.W.Frag}{mg:Str→Option Value}{base:Heap}{C aW aB aC aO aN fI CL CB:Addr}{wA:Nat→Addr}{fdI:FuncData}
def spProg(K:PySem.W.Frag)(C CL:Addr):Sp:=fun vs H Q _=>∃(a:Addr) (b:Bytes),vs=[.ref a]∧SqL K H a (vB b)∧b.length≤16400∧firstP b=0∧∀H' L W,Same H H'→Same W H'→ProgAt C CL W H' L (progP (linesW b))→Q (.ref L) H'
theorem scProg:FnScope ["text","rows","builder","words","line"] ["text"] (defScope sProg):=⟨rfl,rfl,rfl,by decide +kernel,rfl,by decide +kernel,by decide +kernel⟩
theorem blkProg:blkC ["text","rows","builder","words","line"] (defScope sProg) { kind:=.function,names:=[(".0",.local),("line",.local),("split_words",.globalImplicit)],isGenerator:=false,isCoroutine:=false } [("line",4)]=true:=by decide +kernel
theorem ok_prog{f fL fW fP fI fT fK:Addr}{fd fdL fdW fdP fdI fdT fdK:FuncData}(D:Dn K mg "program_of" sProg f fd ["text"])(T:PgT K mg CL CB)(M:LnT P w K mg aB aC aO)
  (DL:Dn K mg "split_lines" sLines fL fdL ["text"])(DW:Dn K mg "split_words" sWords fW fdW ["line"])(DP:Dn K mg "procedures_of" sProcs fP fdP ["rows"])(DK:Dn K mg "line_kind" sKind fK fdK ["words"])
  (MK:Mk K CB fI)(FI:Fun K "__init__" "Builder.__init__" sBdInit fI fdI)(bI:Binds K fdI ["self","procedures"] [])
  (MT:Meth K CB "take" fT)(GT:FnOk P w K mg base CX0 7 fT fdT ["self","words"] (spTake C CL CB))(bT:Binds K fdT ["self","words"] []):FnOk P w K mg base CX0 8 f fd ["text"] (spProg K C CL):=by
 have GL:FnOk P w K mg base CX0 1 fL fdL ["text"] (spLines K):=ok_lines DL M
 have GW:FnOk P w K mg base CX0 1 fW fdW ["line"] (spWords K):=ok_words DW M.wd
 have GP:FnOk P w K mg base CX0 2 fP fdP ["rows"] spProcs:=ok_procs DP M DK
 have GI:FnOk P w K mg base CX0 1 fI fdI ["self","procedures"] (spBdInit CB):=ok_bdInit FI T
 refine D.fn.ok scProg (fun vs H Q E h=>?_) (fun cdv A outer s H vs Q E hr h=>?_)
 ·obtain⟨a,b,rfl,_⟩:=h
  rfl
 ·obtain⟨a,b,rfl,hb,hlen,hval,k⟩:=h
  have hr1:Room 1 _:=hr.mono (by decide)
  have hr2:Room 2 _:=hr.mono (by decide)
  refine⟨_,zD (ps_setLc (i:=1) rfl scProg.nd rfl rfl rfl (pi_list (zS GL hr1 (by rfl) DL.at_ DL.fn.kp DL.bd .nil pass0 (zA (pv 0) zG))) (blkOk_by (own:=[("line",4)]) blkProg) (fun _ _ _ _ _=>yJ (i:=4) scProg.nd rfl (Or.inl rfl)) (fun _ _ _ _ _=>pts_nil)
    (fun _ _ _ _ _=>zS GW hr1 (by rfl) DW.at_ DW.fn.kp DW.bd .nil pass0 (zA (pv 4) zG)))
   (zD (zZ (i:=2) scProg.nd rfl (Or.inl rfl) (pe_make MK GI hr2 (by rfl) T.mgB bI .nil pass0 (zA (zS GP hr2 (by rfl) DP.at_ DP.fn.kp DP.bd .nil pass0 (zA (pv 1) zG)) zG)))
   (zD (ps_for PassesOwn.never rfl (pi_list (pv 1)) (yJ (i:=3) scProg.nd rfl (Or.inl rfl)) (zE (yA (pe_meth (pv 2) T.cb MT GT hr bT .nil pass0 (zA (pv 3) zG)))))
   (zE (zN (zJ (pv 2) rfl))))),?_⟩
  refine⟨_,rfl,a,b,rfl,hb,by omega,fun H1 L s1 hL0 hLL=>?_⟩
  obtain⟨ps,hps,hpr⟩:=id hLL
  have hpl:=Paired.length hpr
  have hlw:=linesW_good hlen
  have hll:=lines_lens b []
  refine⟨L,rfl,⟨_,SqL.of hps⟩,fun D0 hD0=>?_⟩
  have hD00:H D0=none:=s1.free hD0
  refine lc_list (K:=K) (a:=L) (xs:=ps.map V.ref) (fun i H'=>∃rs:List Addr,Same H1 H'∧H' D0=some (.lst (rs.map V.ref))∧Paired (fun(p:Addr) ws=>p≠D0∧Wds H' p ws) rs ((linesW b).take i)) ⟨[],Same.upd' (Same.refl _) hD0,zB,by rw[List.take_zero];exact .nil⟩ (fun i H' _ ⟨_,s2,_⟩=>SqL.of (s2 _ _ hps)) ?_ ?_
  ·rintro i x H' hx ⟨rs,s2,hD2,hrs⟩
   rw[List.getElem?_map]at hx
   obtain⟨q,hq,rfl⟩:=Option.map_eq_some_iff.mp hx
   obtain⟨l,hl,hql⟩:=paired_at' hpr hq
   have hlm:l∈Ls.lines b:=List.mem_of_getElem? hl
   have hlen2:=hll.2 l hlm
   simp at hlen2
   refine⟨rfl,tYes_if' ?_⟩
   refine⟨_,rfl,q,l,rfl,SqL.of (s2 _ _ hql.2),by omega,fun H3 p s3 hp0 hWp=>?_⟩
   have hD3:=s3 _ _ hD2
   have hpD:p≠D0:=fun z=>by rw[z,hD2]at hp0;cases hp0
   refine⟨_,hD3,?_,rs++[p],Same.upd' (s2.trans s3) hD0,?_,?_⟩
   ·have:=Paired.length hrs
    rw[List.length_map,this,List.length_take]
    unfold linesW
    rw[List.length_map]
    have:=hll.1
    have:=zP
    have e:Ls.lines b=Ls.linesFrom [] b:=rfl
    rw[e]
    omega
   ·rw[zB,List.map_append];rfl
   ·have ex:(linesW b)[i]? =some (wordsP [] l):=by
     unfold linesW
     rw[List.getElem?_map,hl];rfl
    rw[List.take_succ,ex]
    refine Ck.Paired.snoc (Paired.mapP hrs fun x y ⟨h1,h2⟩=>⟨h1,(h2.mono s3).upd_lst h1 hD3⟩) ⟨hpD,hWp.upd_lst hpD hD3⟩
  ·rintro H2 ⟨rs,s2,hD2,hrs⟩
   have hln:(ps.map V.ref).length=(linesW b).length:=by unfold linesW;rw[List.length_map,List.length_map,hpl]
   rw[hln,List.take_length]at hrs
   have hWl:(linesW b).length≤16450:=by
    unfold linesW
    rw[List.length_map]
    have:=hll.1
    have e:Ls.lines b=Ls.linesFrom [] b:=rfl
    rw[e]
    omega
   have s12:Same H H2:=s1.trans s2
   have hLns:Lns H2 D0 (linesW b):=⟨rs,hD2,Paired.mapP hrs fun x y h=>h.2⟩
   have hval':scanP (toldP [] (linesW b)) 1 [] [] (linesW b)=0:=hval
   unfold progP at k
   generalize linesW b=Ws at hlw hrs hWl hLns hval' k
   have hR:=procOk_of hval'
   have hrdA:∀ws∈Ws,Rd (fun p=>(Ls.procAt p 0 (Ws.map lineW)).map fun x=>x.2.length) ws (lineW ws):=fun ws hws=>rd_of (told_ok Ws) (scan_all Ws 1 [] [] (by decide) hval' ws hws)
   have hgl:GoodL Ws:=fun ws hws=>⟨(hlw ws hws).1,(hlw ws hws).2,(well_cases hR (fun _=>rfl) (hrdA ws hws)).2.2.2.2⟩
   refine⟨_,rfl,D0,Ws,rfl,hLns,by omega,hgl,fun H4 d W1 s4 sW1 oW1 hPr=>?_⟩
   have s14:Same H H4:=s12.trans s4
   have hLns4:=hLns.mono s4
   obtain⟨rs4,hD4,hrs4⟩:=id hLns4
   have hrl:=Paired.length hrs4
   intro x dx nx ndx nex
   refine⟨x,dx,d,rfl,zB,fun H5 Ll Hd pp fr hL hHd hpp n1 n2 n3 n4 n5 n6 hL5 hHd5 hpp5 hx5=>⟨rfl,?_⟩⟩
   have s45:Same H4 H5:=Same.made nx ndx fr
   have frsh:∀{c:Addr},(upd (upd H4 dx (.own x)) x (.ins CB dx [])) c=none→c≠x→H4 c=none:=fun {c} z hc=>by
    rw[zF hc]at z
    by_cases e:c=dx
    ·rw[e];exact ndx
    ·rw[zF e]at z;exact z
   have hL4:=frsh hL n1
   have hH4:=frsh hHd n2
   have hp4:=frsh hpp n3
   have so5:Same (one1 pp (.lst [])) H5:=yV hpp5
   have I0:BdAt C CL CB (jn H4 (one1 pp (.lst []))) H5 x Ll Hd d pp [] (procsP 0 [] Ws) ⟨[],[],[]⟩:=by
    refine⟨xG s45 so5,⟨dx,hx5⟩,hL5,⟨[],hHd5,.nil⟩,(hPr.mono sW1).mono jn_l,⟨[],jn_r s45 so5 _ _ one_at,.nil⟩,rfl,fun i c l hc=>by simp at hc,by simp,yG nx (one_no n3.symm),yG hL4 (one_no n5),yG hH4 (one_no n6),fun c hc=>by simp at hc,n4⟩
   refine⟨_,rfl,D0,rfl,⟨_,SqL.of (s45 _ _ hD4)⟩,for_list (K:=K) (a:=D0) (xs:=rs4.map V.ref) (fun i σ H6=>∃(W:Hp) (pp2:Addr) (as:List Addr) (B:Bd) (bl:List Kd) (bg:List Bytes) (S:List (Nat×Nat)) (v3:Option V),σ=[some (.ref a),some (.ref D0),some (.ref x),v3,none]∧
     Same H4 W∧BdAt C CL CB W H6 x Ll Hd d pp2 as (procsP 0 [] Ws) B∧B.params.length≤16500∧B.heads.length≤i∧i≤Ws.length∧BInv (Ws.map lineW) B i bl S∧scanP (toldP [] Ws) (i+1) bl bg (Ws.drop i)=0∧buildP (procsP 0 [] Ws) B (Ws.drop i)=buildP (procsP 0 [] Ws) ⟨[],[],[]⟩ Ws)
    ⟨jn H4 (one1 pp (.lst [])),pp,[],⟨[],[],[]⟩,[],[],[],none,rfl,jn_l,I0,Nat.zero_le _,Nat.zero_le _,Nat.zero_le _,binv_nil,hval',rfl⟩ (fun i σ H6 _ ⟨_,_,_,_,_,_,_,_,_,sW,I,_⟩=>SqL.of (I.sub _ _ (sW _ _ hD4))) ?_ ?_⟩
   ·rintro i y σ H6 hy ⟨W,pp2,as,B,bl,bg,S,v3,rfl,sW,I,hpar,hhd,hi,hBI,hsc,hbu⟩
    rw[List.getElem?_map]at hy
    obtain⟨q,hq,rfl⟩:=Option.map_eq_some_iff.mp hy
    obtain⟨ws,hws,hqw⟩:=paired_at' hrs4 hq
    have hil:i<Ws.length:=(List.getElem?_eq_some_iff.mp hws).1
    have hm:=List.mem_of_getElem? hws
    obtain⟨hrd,hneed,bl',bg',S',hBI',hsc'⟩:=step_facts hR hBI hws hsc
    obtain⟨w1,w2,w3,w4,w5⟩:=well_cases hR (fun _=>rfl) hrd
    have hwl:=(hlw ws hm).2
    have hBl:=hBI.len
    obtain⟨dxb,hob⟩:=I.ob
    refine⟨_,rfl,x,dxb,_,rfl,hob,bdF_take ..,_,rfl,x,q,Ll,Hd,d,pp2,as,W,procsP 0 [] Ws,B,ws,rfl,I,hqw.mono sW,(hlw ws hm).1,hwl,hpar,by omega,by omega,⟨w1,w2,w3,w4⟩,hneed,fun H7 W7 pp7 as7 s7 I7=>?_⟩
    refine⟨W7,pp7,as7,_,bl',bg',S',_,rfl,sW.trans s7,I7,take_params hpar hwl,Nat.le_trans take_heads (by omega),hil,hBI',hsc',?_⟩
    rw[←hbu,List.drop_eq_getElem_cons hil,(List.getElem?_eq_some_iff.mp hws).2]
    rfl
   ·rintro σ H6 ⟨W,pp2,as,B,bl,bg,S,v3,rfl,sW,I,hpar,hhd,hi,hBI,hsc,hbu⟩
    rw[List.length_map,hrl,List.drop_length]at hbu
    have eB:B=buildP (procsP 0 [] Ws) ⟨[],[],[]⟩ Ws:=hbu
    obtain⟨dxb,hob⟩:=I.ob
    refine⟨_,rfl,x,CB,dxb,_,_,rfl,hob,T.cb,T.bL,bdF_ls ..,?_⟩
    refine k H6 Ll W (s14.trans (sW.trans I.sub)) I.sub ⟨as,I.ls,by rw[←eB];exact I.len,fun i c l hc hl=>I.ln i c l hc (by rw[eB];exact hl)⟩
end
end Pg
namespace Ar
open Ls
def quoP(a b:Int):Int:=if decide (a<0)=decide (b<0)then((a.natAbs / b.natAbs:Nat):Int)else -((a.natAbs / b.natAbs:Nat):Int)
def remP(a b:Int):Int:=if a<0 then -((a.natAbs % b.natAbs:Nat):Int)else((a.natAbs % b.natAbs:Nat):Int)
theorem quo_eq(a b:Int):quoP a b=Int.tdiv a b:=by
 unfold quoP
 cases a with
 |ofNat m=>
  cases b with
  |ofNat n=>
   rw[decide_eq_false (show¬(Int.ofNat m<0) by simp),decide_eq_false (show¬(Int.ofNat n<0) by simp),if_pos rfl]
   rfl
  |negSucc n=>
   rw[decide_eq_false (show¬(Int.ofNat m<0) by simp),decide_eq_true (Int.negSucc_lt_zero n),if_neg (by decide)]
   rfl
 |negSucc m=>
  cases b with
  |ofNat n=>
   rw[decide_eq_true (Int.negSucc_lt_zero m),decide_eq_false (show¬(Int.ofNat n<0) by simp),if_neg (by decide)]
   rfl
  |negSucc n=>
   rw[decide_eq_true (Int.negSucc_lt_zero m),decide_eq_true (Int.negSucc_lt_zero n),if_pos rfl]
   rfl
theorem rem_eq(a b:Int):remP a b=Int.tmod a b:=by
 unfold remP
 cases a with
 |ofNat m=>
  rw[if_neg (show¬(Int.ofNat m<0) by simp)]
  cases b<;>rfl
 |negSucc m=>
  rw[if_pos (Int.negSucc_lt_zero m)]
  cases b<;>rfl
def resP(o:Nat)(a b:Int):Int:=match o with
 |0=>a+b
 |1=>a-b
 |2=>a*b
 |3=>quoP a b
 |4=>remP a b
 |5=>if a<b then 1 else 0
 |_=>if a=b then 1 else 0
def stdP(o:Nat)(a b:Int):Nat:=if(o=3∨o=4)∧b=0 then 2 else if inRange (resP o a b)=true then 7 else 1
theorem arith_eq{o:Nat}(ho:o≤6){a b:Int}(ha:inRange a=true)(hb:inRange b=true):arith o a b=if stdP o a b=7 then .ok (resP o a b)else .error (stdP o a b):=by
 have fits:∀z:Int,(if inRange z=true then Except.ok z else .error 1:Except Nat Int)=if(if inRange z=true then 7 else 1)=7 then .ok z else .error (if inRange z=true then 7 else 1):=fun z=>by
  cases inRange z<;>rfl
 unfold arith stdP
 match o,ho with
 |0,_=>simp only[resP];exact fits _
 |1,_=>simp only[resP];exact fits _
 |2,_=>simp only[resP];exact fits _
 |3,_=>
  by_cases c:b=0
  ·simp[c]
  ·simp only[resP,quo_eq,c];simpa using fits _
 |4,_=>
  by_cases c:b=0
  ·simp[c]
  ·have hr:inRange (Int.tmod a b)=true:=by
    unfold inRange at ha ⊢
    simp only[Bool.and_eq_true,decide_eq_true_eq]at ha ⊢
    have h1:(Int.tmod a b).natAbs≤a.natAbs:=by rw[Int.natAbs_tmod];exact Nat.mod_le _ _
    by_cases s:0≤a
    ·have:=Int.tmod_nonneg b s
     omega
    ·have h2:Int.tmod a b≤0:=by
      rw[←rem_eq]
      unfold remP
      rw[if_pos (by omega)]
      omega
     omega
   simp[resP,rem_eq,c,hr]
 |5,_=>
  have:inRange (if a<b then 1 else 0)=true:=by by_cases c:a<b<;>simp[c]<;>decide
  simp[resP,this]
 |6,_=>
  have:inRange (if a=b then 1 else 0)=true:=by by_cases c:a=b<;>simp[c]<;>decide
  simp[resP,this]
end Ar
namespace L2
open PySem PySem.Spec PyProof.Rows
section
variable {X:Cx}{func e:Expr}{es:List Expr}{tf:TE}{t:TA}{pos:Pos}
def tCallV(X:Cx)(tf:TE)(t:TA):TE:=fun σ H Q=>tf σ H fun x H1=>∃(f:Addr) (fd:FuncData) (ps:List Str) (sp:Sp) (k:Nat) (CX:CXT) (E:XK),x=.ref f∧FnOk X.prog X.w X.K X.mg X.base CX k f fd ps sp∧Room k X.A∧PySem.W.keepIn X.K (.ref f)=true∧Binds X.K fd ps []∧Passes CX X E∧
 t σ H1 fun vs H2=>sp (vs++[]) H2 Q E
theorem pe_callV(hf:PE X func tf)(ha:PA X (e::es) t)
  (h0:eval (.Call func (e::es) [] pos) X.env=(do callWith pos (←eval func X.env) [] (backTo pos (starEach (e::es) X.env)) (backToKw pos (keywordEach [] X.env))):=by rfl)
  (he:starEach (e::es) X.env=(false,eval e X.env)::starEach es X.env:=by rfl)(hpl:(backTo pos (starEach es X.env)).any (·.1)=false:=by rfl):
  PE X (.Call func (e::es) [] pos) (tCallV X tf t):=by
 intro pins s σ H Q I h
 refine Call_ (thn (hf pins s σ H _ I h) fun u s1 ⟨x,H1,I1,rx,f,fd,ps,sp,k,CX,E,ex,F,hr,hk,hb,hx,q⟩=>?_) h0
 subst ex
 obtain rfl:u=Value.ref f:=rx
 refine PySem.W.callWith_K (h₀:=X.base) I1.ok.mod.kin hk (thn (ha pos pins s1 σ H1 _ I1 q) fun us s2 ⟨vs,H2,I2,r,q2⟩=>⟨I2.kIn,?_⟩) he hpl
 exact run_fn F hr hb .nil hx I2 r q2
end
end L2
namespace Ar
open PySem L2 Ck R
theorem op_fdivB{X:Cx}:OpR X (binaryOp .FloorDiv) (rI (fun _ j=>0<j∧j<18446744073709551616) fun i j=>.int (i / j)):=opI fun i j _ _ _ _ _ hc q=>by
 have h1:(0:Int) <j:=hc.1
 have h2:j<18446744073709551616:=hc.2
 exact PyProof.Rows.floordiv_int (by omega) (by rw[Int.fdiv_eq_ediv_of_nonneg i (by omega)];exact q) (.inl (PyProof.noPylong_of_log2 (Nat.lt_of_lt_of_le ((Nat.log2_lt (by omega)).2 (show j.natAbs<2 ^ 64 by omega)) (by decide))))
def Sm(a:Int):Prop:= -9223372036854775808≤a∧a≤9223372036854775807
section
variable {P:Program}{w:World}{K:PySem.W.Frag}{mg:Str→Option Value}{base:Heap}
def spOp(o:Nat):Sp:=fun vs H Q _=>∃a b:Int,vs=[.int a,.int b]∧Sm a∧Sm b∧((o=3∨o=4)→b≠0)∧Q (.int (resP o a b)) H
theorem scPlus:FnScope ["a","b"] ["a","b"] (defScope sPlus):=⟨rfl,rfl,rfl,by decide +kernel,rfl,by decide +kernel,by decide +kernel⟩
theorem ok_plus{f:Addr}{fd:FuncData}(F:Fun K "plus" "plus" sPlus f fd):FnOk P w K mg base CX0 1 f fd ["a","b"] (spOp 0):=by
 refine F.ok scPlus (fun vs H Q E h=>by obtain⟨a,b,rfl,_⟩:=h;rfl) (fun cdv A outer s H vs Q E hr h=>?_)
 obtain⟨a,b,rfl,ha,hb,hn,k⟩:=h
 exact⟨_,zE (zN (yQ op_add (pv 0) (pv 1))),_,rfl,_,rfl,_,_,rfl,rfl,k⟩
theorem scMinus:FnScope ["a","b"] ["a","b"] (defScope sMinus):=⟨rfl,rfl,rfl,by decide +kernel,rfl,by decide +kernel,by decide +kernel⟩
theorem ok_minus{f:Addr}{fd:FuncData}(F:Fun K "minus" "minus" sMinus f fd):FnOk P w K mg base CX0 1 f fd ["a","b"] (spOp 1):=by
 refine F.ok scMinus (fun vs H Q E h=>by obtain⟨a,b,rfl,_⟩:=h;rfl) (fun cdv A outer s H vs Q E hr h=>?_)
 obtain⟨a,b,rfl,ha,hb,hn,k⟩:=h
 exact⟨_,zE (zN (yQ op_sub (pv 0) (pv 1))),_,rfl,_,rfl,_,_,rfl,rfl,k⟩
theorem scTimes:FnScope ["a","b"] ["a","b"] (defScope sTimes):=⟨rfl,rfl,rfl,by decide +kernel,rfl,by decide +kernel,by decide +kernel⟩
theorem ok_times{f:Addr}{fd:FuncData}(F:Fun K "times" "times" sTimes f fd):FnOk P w K mg base CX0 1 f fd ["a","b"] (spOp 2):=by
 refine F.ok scTimes (fun vs H Q E h=>by obtain⟨a,b,rfl,_⟩:=h;rfl) (fun cdv A outer s H vs Q E hr h=>?_)
 obtain⟨a,b,rfl,⟨ha,ha'⟩,hb,hn,k⟩:=h
 exact⟨_,zE (zN (yQ op_mul (pv 0) (pv 1))),_,rfl,_,rfl,_,_,rfl,rfl,.inl ⟨by omega,by omega⟩,k⟩
theorem abs_nat(a:Int):(if a<0 then -a else a)=(a.natAbs:Int):=by split<;>omega
theorem scQuo:FnScope ["a","b","size"] ["a","b"] (defScope sQuo):=⟨rfl,rfl,rfl,by decide +kernel,rfl,by decide +kernel,by decide +kernel⟩
theorem ok_quo{f:Addr}{fd:FuncData}(F:Fun K "quotient" "quotient" sQuo f fd)(hab:mg "abs"=none):FnOk P w K mg base CX0 1 f fd ["a","b"] (spOp 3):=by
 refine F.ok scQuo (fun vs H Q E h=>by obtain⟨a,b,rfl,_⟩:=h;rfl) (fun cdv A outer s H vs Q E hr h=>?_)
 obtain⟨a,b,rfl,⟨ha,ha'⟩,⟨hb,hb'⟩,hn,k⟩:=h
 have hb0:b≠0:=hn (.inl rfl)
 refine⟨_,zD (zZ (i:=2) scQuo.nd rfl (Or.inl rfl) (yQ op_fdivB (zU call_abs (by rfl) hab PyProof.Rows.boot_abs (zA (pv 0) zG)) (zU call_abs (by rfl) hab PyProof.Rows.boot_abs (zA (pv 1) zG))))
  (zE (zN (pe_ifExp (zK yC (yK op_lt (pv 0) zI (zM _)) (yK op_lt (pv 1) zI (zM _)) (zM _)) (pv 2) (pe_un un_neg (pv 2))))),?_⟩
 refine⟨_,rfl,a,rfl,_,rfl,b,rfl,_,_,rfl,rfl,⟨by rw[abs_nat];omega,by rw[abs_nat];omega⟩,?_⟩
 refine⟨_,rfl,_,_,rfl,rfl,_,rfl,_,_,rfl,rfl,rfl,_,rfl,?_⟩
 have es:((if a<0 then -a else a) / (if b<0 then -b else b):Int)=((a.natAbs / b.natAbs:Nat):Int):=by rw[abs_nat,abs_nat];rfl
 have k':Q (.int (quoP a b)) H:=k
 unfold quoP at k'
 show if decide (V.bl (decide (a<0))=V.bl (decide (b<0)))=true then _ else _
 have ed:decide (V.bl (decide (a<0))=V.bl (decide (b<0)))=decide (decide (a<0)=decide (b<0)):=decide_eq_decide.mpr ⟨fun e=>by injection e,fun e=>by rw[e]⟩
 rw[ed]
 by_cases c:decide (a<0)=decide (b<0)
 ·rw[decide_eq_true c]
  rw[if_pos c,←es]at k'
  exact iteT ⟨_,rfl,k'⟩
 ·rw[decide_eq_false c]
  rw[if_neg c,←es]at k'
  exact iteF ⟨_,rfl,_,rfl,k'⟩
theorem scRem:FnScope ["a","b","size"] ["a","b"] (defScope sRem):=⟨rfl,rfl,rfl,by decide +kernel,rfl,by decide +kernel,by decide +kernel⟩
theorem ok_rem{f:Addr}{fd:FuncData}(F:Fun K "remainder" "remainder" sRem f fd)(hab:mg "abs"=none):FnOk P w K mg base CX0 1 f fd ["a","b"] (spOp 4):=by
 refine F.ok scRem (fun vs H Q E h=>by obtain⟨a,b,rfl,_⟩:=h;rfl) (fun cdv A outer s H vs Q E hr h=>?_)
 obtain⟨a,b,rfl,⟨ha,ha'⟩,⟨hb,hb'⟩,hn,k⟩:=h
 have hb0:b≠0:=hn (.inr rfl)
 refine⟨_,zD (zZ (i:=2) scRem.nd rfl (Or.inl rfl) (yQ op_mod (zU call_abs (by rfl) hab PyProof.Rows.boot_abs (zA (pv 0) zG)) (zU call_abs (by rfl) hab PyProof.Rows.boot_abs (zA (pv 1) zG))))
  (zE (zN (pe_ifExp (zK op_lt (pv 0) zI (zM _)) (pe_un un_neg (pv 2)) (pv 2)))),?_⟩
 refine⟨_,rfl,a,rfl,_,rfl,b,rfl,_,_,rfl,rfl,(by show(0:Int) <if b<0 then -b else b;rw[abs_nat];omega),?_⟩
 refine⟨_,rfl,_,_,rfl,rfl,_,rfl,?_⟩
 have es:((if a<0 then -a else a) % (if b<0 then -b else b):Int)=((a.natAbs % b.natAbs:Nat):Int):=by rw[abs_nat,abs_nat];rfl
 have k':Q (.int (remP a b)) H:=k
 unfold remP at k'
 refine ite2 (fun g=>?_) (fun g=>?_)
 ·rw[if_pos (of_decide_eq_true g),←es]at k'
  exact⟨_,rfl,_,rfl,k'⟩
 ·rw[if_neg (fun z=>g (decide_eq_true z)),←es]at k'
  exact⟨_,rfl,k'⟩
theorem scLess:FnScope ["a","b"] ["a","b"] (defScope sLess):=⟨rfl,rfl,rfl,by decide +kernel,rfl,by decide +kernel,by decide +kernel⟩
theorem ok_less{f:Addr}{fd:FuncData}(F:Fun K "less" "less" sLess f fd):FnOk P w K mg base CX0 1 f fd ["a","b"] (spOp 5):=by
 refine F.ok scLess (fun vs H Q E h=>by obtain⟨a,b,rfl,_⟩:=h;rfl) (fun cdv A outer s H vs Q E hr h=>?_)
 obtain⟨a,b,rfl,ha,hb,hn,k⟩:=h
 refine⟨_,zE (zN (pe_ifExp (zK op_lt (pv 0) (pv 1) (zM _)) zI zI)),_,rfl,_,rfl,_,_,rfl,rfl,_,rfl,?_⟩
 have k':Q (.int (if a<b then 1 else 0)) H:=k
 refine ite2 (fun g=>?_) (fun g=>?_)
 ·rw[if_pos (of_decide_eq_true g)]at k';exact k'
 ·rw[if_neg (fun z=>g (decide_eq_true z))]at k';exact k'
theorem scEqual:FnScope ["a","b"] ["a","b"] (defScope sEqual):=⟨rfl,rfl,rfl,by decide +kernel,rfl,by decide +kernel,by decide +kernel⟩
theorem ok_equal{f:Addr}{fd:FuncData}(F:Fun K "equal" "equal" sEqual f fd):FnOk P w K mg base CX0 1 f fd ["a","b"] (spOp 6):=by
 refine F.ok scEqual (fun vs H Q E h=>by obtain⟨a,b,rfl,_⟩:=h;rfl) (fun cdv A outer s H vs Q E hr h=>?_)
 obtain⟨a,b,rfl,ha,hb,hn,k⟩:=h
 refine⟨_,zE (zN (pe_ifExp (zK yC (pv 0) (pv 1) (zM _)) zI zI)),_,rfl,_,rfl,rfl,_,rfl,?_⟩
 have k':Q (.int (if a=b then 1 else 0)) H:=k
 rw[decV]
 refine ite2 (fun g=>?_) (fun g=>?_)
 ·rw[if_pos (of_decide_eq_true g)]at k';exact k'
 ·rw[if_neg (fun z=>g (decide_eq_true z))]at k';exact k'
def spInv:Sp:=fun vs H Q _=>∃a:Int,vs=[.int a]∧Q (.int (if a=0 then 1 else 0)) H
theorem scInv:FnScope ["a"] ["a"] (defScope sInv):=⟨rfl,rfl,rfl,by decide +kernel,rfl,by decide +kernel,by decide +kernel⟩
theorem ok_inv{f:Addr}{fd:FuncData}(F:Fun K "inverse" "inverse" sInv f fd):FnOk P w K mg base CX0 1 f fd ["a"] spInv:=by
 refine F.ok scInv (fun vs H Q E h=>by obtain⟨a,rfl,_⟩:=h;rfl) (fun cdv A outer s H vs Q E hr h=>?_)
 obtain⟨a,rfl,k⟩:=h
 refine⟨_,zE (zN (pe_ifExp (zK yC (pv 0) zI (zM _)) zI zI)),_,rfl,rfl,_,rfl,?_⟩
 rw[decV]
 refine ite2 (fun g=>?_) (fun g=>?_)
 ·rw[if_pos (of_decide_eq_true g)]at k;exact k
 ·rw[if_neg (fun z=>g (decide_eq_true z))]at k;exact k
end
end Ar
namespace Ar
open PySem L2 Ck R
structure AriT (P:Program) (w:World) (K:PySem.W.Frag) (mg:Str→Option Value) (aA:Addr) (fA:Nat→Addr):Prop where
 ops:mg nAri=some (.ref aA)
 opsT:∀H,SqT K H aA ((List.range 7).map fun n=>V.ref (fA n))
 fns:∀(base:Heap) (o:Nat),o≤6→∃fd,FnOk P w K mg base CX0 1 (fA o) fd ["a","b"] (spOp o)∧PySem.W.keepIn K (.ref (fA o))=true∧Binds K fd ["a","b"] []
 add:∃t,mg "ADD"=some (.int 6 t)
 div:∃t,mg "DIV"=some (.int 9 t)
 mod:∃t,mg "MOD"=some (.int 10 t)
 least:∃t,mg "LEAST_NUMBER"=some (.int (-9223372036854775808) t)
 most:∃t,mg "MOST_NUMBER"=some (.int 9223372036854775807 t)
 byz:∃t,mg "BY_ZERO"=some (.int 2 t)
 outr:∃t,mg "OUT_OF_RANGE"=some (.int 1 t)
 goes:∃t,mg "GOES_ON"=some (.int 7 t)
section
variable {P:Program}{w:World}{K:PySem.W.Frag}{mg:Str→Option Value}{base:Heap}{aA:Addr}{fA:Nat→Addr}
theorem AriT.ix(T:AriT P w K mg aA fA){o:Nat}(h:o≤6):atI ((List.range 7).map fun n=>V.ref (fA n)) (o:Int)=some (V.ref (fA o)):=by
 refine zW ?_
 rw[List.getElem?_map,List.getElem?_range (by omega)];rfl
def spRes:Sp:=fun vs H Q _=>∃(o:Nat) (a b:Int),vs=[.int ((6+o:Nat):Int),.int a,.int b]∧o≤6∧Sm a∧Sm b∧((o=3∨o=4)→b≠0)∧Q (.int (resP o a b)) H
theorem scRes:FnScope ["number","a","b"] ["number","a","b"] (defScope sOpRes):=⟨rfl,rfl,rfl,by decide +kernel,rfl,by decide +kernel,by decide +kernel⟩
theorem ok_res{f:Addr}{fd:FuncData}(F:Fun K "operation_result" "operation_result" sOpRes f fd)(T:AriT P w K mg aA fA):FnOk P w K mg base CX0 2 f fd ["number","a","b"] spRes:=by
 refine F.ok scRes (fun vs H Q E h=>by obtain⟨o,a,b,rfl,_⟩:=h;rfl) (fun cdv A outer s H vs Q E hr h=>?_)
 obtain⟨o,a,b,rfl,ho,ha,hb,hn,k⟩:=h
 obtain⟨ta,hA⟩:=T.add
 refine⟨_,zE (zN (pe_callV (yH ix_tup (zQ (v:=V.ref aA) (by rfl) T.ops rfl) (yQ op_sub (pv 0) (zQ (v:=V.int 6) (by rfl) hA ⟨ta,rfl⟩)) (fun _ _=>rfl)) (zA (pv 1) (zA (pv 2) zG)))),?_⟩
 obtain⟨fd',G,hk,hbd⟩:=T.fns base o ho
 have ei:(((6+o:Nat):Int) -6)=((o:Nat):Int):=by omega
 refine⟨_,rfl,_,_,rfl,rfl,aA,_,_,_,rfl,rfl,T.opsT _,(by rw[ei];exact T.ix ho),fA o,fd',_,_,1,CX0,_,rfl,G,hr,hk,hbd,pass0,_,rfl,_,rfl,a,b,rfl,ha,hb,hn,k⟩
def spInR:Sp:=fun vs H Q _=>∃z:Int,vs=[.int z]∧Q (.bl (Ls.inRange z)) H
theorem scInR:FnScope ["number"] ["number"] (defScope sInRange):=⟨rfl,rfl,rfl,by decide +kernel,rfl,by decide +kernel,by decide +kernel⟩
theorem ok_inR{f:Addr}{fd:FuncData}(F:Fun K "in_range" "in_range" sInRange f fd)(T:AriT P w K mg aA fA):FnOk P w K mg base CX0 1 f fd ["number"] spInR:=by
 refine F.ok scInR (fun vs H Q E h=>by obtain⟨z,rfl,_⟩:=h;rfl) (fun cdv A outer s H vs Q E hr h=>?_)
 obtain⟨z,rfl,k⟩:=h
 obtain⟨t1,h1⟩:=T.least
 obtain⟨t2,h2⟩:=T.most
 refine⟨_,zE (zN (pe_chain op_le op_le (zQ (v:=V.int (-9223372036854775808)) (by rfl) h1 ⟨t1,rfl⟩) (pv 0) (zQ (v:=V.int 9223372036854775807) (by rfl) h2 ⟨t2,rfl⟩))),?_⟩
 refine⟨_,rfl,_,_,rfl,rfl,_,rfl,?_⟩
 unfold Ls.inRange at k
 refine ite2 (fun g=>?_) (fun g=>?_)
 ·rw[g]at k
  exact⟨_,_,rfl,rfl,k⟩
 ·have g':decide ((-9223372036854775808:Int)≤z)=false:=by simpa using g
  rw[g']at k
  exact k
def spStd:Sp:=fun vs H Q _=>∃(o:Nat) (a b:Int),vs=[.int ((6+o:Nat):Int),.int a,.int b]∧o≤6∧Sm a∧Sm b∧∀H',Same H H'→Q (.int ((stdP o a b:Nat):Int)) H'
theorem scStd:FnScope ["number","a","b"] ["number","a","b"] (defScope sOpStd):=⟨rfl,rfl,rfl,by decide +kernel,rfl,by decide +kernel,by decide +kernel⟩
theorem in_div(o:Nat):inV (V.int ((6+o:Nat):Int)) [.int 9,.int 10]=decide (o=3∨o=4):=by
 show(([.int 9,.int 10]:List V).any fun y=>eqV y (V.int ((6+o:Nat):Int)))=_
 simp only[List.any_cons,List.any_nil,Bool.or_false,eqV]
 have c1:((9:Int)==((6+o:Nat):Int))=decide (o=3):=by
  by_cases h:o=3
  ·subst h;rfl
  ·rw[decide_eq_false h];exact beq_false_of_ne fun z=>h (by omega)
 have c2:((10:Int)==((6+o:Nat):Int))=decide (o=4):=by
  by_cases h:o=4
  ·subst h;rfl
  ·rw[decide_eq_false h];exact beq_false_of_ne fun z=>h (by omega)
 rw[c1,c2]
 by_cases h1:o=3<;>by_cases h2:o=4<;>simp[h1,h2]
theorem ok_std{f f1:Addr}{fd fd1:FuncData}(F:Fun K "operation_standing" "operation_standing" sOpStd f fd)(T:AriT P w K mg aA fA)(D1:Dn K mg "in_range" sInRange f1 fd1 ["number"]):FnOk P w K mg base CX0 2 f fd ["number","a","b"] spStd:=by
 have G1:FnOk P w K mg base CX0 1 f1 fd1 ["number"] spInR:=ok_inR D1.fn T
 refine F.ok scStd (fun vs H Q E h=>by obtain⟨o,a,b,rfl,_⟩:=h;rfl) (fun cdv A outer s H vs Q E hr h=>?_)
 obtain⟨o,a,b,rfl,ho,ha,hb,k⟩:=h
 obtain⟨ta,hA⟩:=T.add
 obtain⟨t9,h9⟩:=T.div
 obtain⟨t10,h10⟩:=T.mod
 obtain⟨t2,hz⟩:=T.byz
 obtain⟨t1,hou⟩:=T.outr
 obtain⟨t7,hgo⟩:=T.goes
 refine⟨_,zD (zV (pw_and (zK yR (pv 0) (pe_tup (zA (zQ (v:=V.int 9) (by rfl) h9 ⟨t9,rfl⟩) (zA (zQ (v:=V.int 10) (by rfl) h10 ⟨t10,rfl⟩) zG))) rfl) (pw_and1 (zK yC (pv 2) zI (zM _)))).pt (zE (zN (zQ (v:=V.int 2) (by rfl) hz ⟨t2,rfl⟩))) zL)
  (zD (zV (pt_val (zS G1 hr (by rfl) D1.at_ D1.fn.kp D1.bd .nil pass0 (zA (pe_callV (yH ix_tup (zQ (v:=V.ref aA) (by rfl) T.ops rfl) (yQ op_sub (pv 0) (zQ (v:=V.int 6) (by rfl) hA ⟨ta,rfl⟩)) (fun _ _=>rfl)) (zA (pv 1) (zA (pv 2) zG))) zG)) (fun _=>rfl)) (zE (zN (zQ (v:=V.int 7) (by rfl) hgo ⟨t7,rfl⟩))) zL)
  (zE (zN (zQ (v:=V.int 1) (by rfl) hou ⟨t1,rfl⟩)))),?_⟩
 have h2l:(2:Nat)≤sizeLine:=by have:=zP;omega
 obtain⟨fd',G,hk,hbd⟩:=T.fns base o ho
 have ei:(((6+o:Nat):Int) -6)=((o:Nat):Int):=by omega
 unfold stdP at k
 refine⟨_,rfl,h2l,fun q hq=>⟨q,_,rfl,.inr (SqT.of zB),rfl,rfl,_,rfl,?_⟩⟩
 have s1:Same H (upd H q (.tup [.int 9,.int 10])):=Same.upd' (Same.refl H) hq
 revert s1
 generalize upd H q (.tup [.int 9,.int 10])=H1
 intro s1
 show if inV (V.int ((6+o:Nat):Int)) [.int 9,.int 10]=true then _ else _
 rw[in_div]
 by_cases c:o=3∨o=4
 ·rw[decide_eq_true c]
  refine iteT ⟨_,rfl,rfl,_,rfl,?_⟩
  show if decide (V.int b=V.int 0)=true then _ else _
  rw[decV]
  by_cases z:b=0
  ·rw[decide_eq_true z]
   rw[if_pos ⟨c,z⟩]at k
   exact iteT (k _ s1)
  ·rw[decide_eq_false z]
   rw[if_neg (fun x=>z x.2)]at k
   refine iteF ?_
   refine⟨_,rfl,_,_,rfl,rfl,aA,_,_,_,rfl,rfl,T.opsT _,(by rw[ei];exact T.ix ho),fA o,fd',_,_,1,CX0,_,rfl,G,hr,hk,hbd,pass0,_,rfl,_,rfl,a,b,rfl,ha,hb,(fun _=>z),resP o a b,rfl,_,rfl,?_⟩
   cases er:Ls.inRange (resP o a b)with
   |true=>rw[er]at k;exact iteT (k _ s1)
   |false=>rw[er]at k;exact iteF (k _ s1)
 ·rw[decide_eq_false c]
  rw[if_neg (fun x=>c x.1)]at k
  refine iteF (iteF ?_)
  refine⟨_,rfl,_,_,rfl,rfl,aA,_,_,_,rfl,rfl,T.opsT _,(by rw[ei];exact T.ix ho),fA o,fd',_,_,1,CX0,_,rfl,G,hr,hk,hbd,pass0,_,rfl,_,rfl,a,b,rfl,ha,hb,(fun x=>absurd x c),resP o a b,rfl,_,rfl,?_⟩
  cases er:Ls.inRange (resP o a b)with
  |true=>rw[er]at k;exact iteT (k _ s1)
  |false=>rw[er]at k;exact iteF (k _ s1)
end
end Ar
namespace Mn
open Ls
open Ck hiding Bytes
open Cc
theorem closeIn_end:∀(l:List L) (d:Nat),closeIn d l<l.length→l[closeIn d l]? =some .ends
 |[],d,h=>absurd h (by simp[closeIn])
 |x::r,d,h=>by
  unfold closeIn at h ⊢
  by_cases c:opens x=true
  ·rw[if_pos c]at h ⊢
   simp only[List.length_cons]at h
   rw[Nat.add_comm 1,List.getElem?_cons_succ]
   exact closeIn_end r (d+1) (by omega)
  ·rw[if_neg c]at h ⊢
   cases x with
   |ends=>
    dsimp only at h ⊢
    by_cases e:d=0
    ·rw[if_pos e];rfl
    ·rw[if_neg e]at h ⊢
     simp only[List.length_cons]at h
     rw[Nat.add_comm 1,List.getElem?_cons_succ]
     exact closeIn_end r (d-1) (by omega)
   |_=>
    dsimp only at h ⊢
    simp only[List.length_cons]at h
    rw[Nat.add_comm 1,List.getElem?_cons_succ]
    exact closeIn_end r d (by omega)
theorem closeIn_lt:∀(l:List L) (d e:Nat),d<e→closeIn d l<l.length→closeIn d l<closeIn e l
 |[],d,e,_,h=>absurd h (by simp[closeIn])
 |x::r,d,e,hd,h=>by
  unfold closeIn at h ⊢
  by_cases c:opens x=true
  ·rw[if_pos c]at h ⊢
   rw[if_pos c]
   simp only[List.length_cons]at h
   have:=closeIn_lt r (d+1) (e+1) (by omega) (by omega)
   omega
  ·rw[if_neg c]at h ⊢
   rw[if_neg c]
   cases x with
   |ends=>
    dsimp only at h ⊢
    rw[if_neg (show¬e=0 by omega)]
    by_cases z:d=0
    ·rw[if_pos z];omega
    ·rw[if_neg z]at h ⊢
     simp only[List.length_cons]at h
     have:=closeIn_lt r (d-1) (e-1) (by omega) (by omega)
     omega
   |_=>
    dsimp only at h ⊢
    simp only[List.length_cons]at h
    have:=closeIn_lt r d e hd (by omega)
    omega
theorem elseIn_le:∀(l:List L) (d:Nat),elseIn d l≤closeIn d l
 |[],d=>Nat.le_refl _
 |x::r,d=>by
  unfold elseIn closeIn
  by_cases c:opens x=true
  ·rw[if_pos c,if_pos c]
   have:=elseIn_le r (d+1)
   omega
  ·rw[if_neg c,if_neg c]
   cases x with
   |ends=>
    dsimp only
    split
    ·exact Nat.le_refl _
    ·have:=elseIn_le r (d-1)
     omega
   |els=>
    dsimp only
    split
    ·omega
    ·have:=elseIn_le r d
     omega
   |_=>
    dsimp only
    have:=elseIn_le r d
    omega
theorem drop_get{P:List L}{k j:Nat}:(P.drop k)[j]? =P[k+j]? :=List.getElem?_drop
structure Bl (P:List L):Prop where
 shut:∀i l,P[i]? =some l→opens l=true→close P i<P.length∧P[close P i]? =some .ends
 back:∀j,P[j]? =some .ends→∃o l,opener P j=some o∧P[o]? =some l∧opens l=true∧o<j∧close P o=j∧∀i l',P[i]? =some l'→opens l'=true→close P i=j→i=o
 top:∀j p vs,P[j]? =some (.proc p vs)→∀i l,P[i]? =some l→opens l=true→i<j→close P i<j
 nest:∀i j l l',P[i]? =some l→opens l=true→P[j]? =some l'→opens l'=true→i<j→j≤close P i→close P j<close P i
 els:∀j,P[j]? =some .els→∃o e,P[o]? =some (.cond e)∧o<j∧close P o=close P j∧j<close P o∧close P j<P.length
theorem op_get{P:List L}{i:Nat}{l:L}(h:P[i]? =some l)(ho:opens l=true):((P[i]?).map opens).getD false=true:=by rw[h];exact ho
section
variable {Ws:List (List Bytes)}(hv:scanP (toldP [] Ws) 1 [] [] Ws=0)
include hv
theorem at_k:∀k,k≤Ws.length→∃B bl bg S,BInv (Ws.map lineW) B k bl S∧scanP (toldP [] Ws) (k+1) bl bg (Ws.drop k)=0∧(k=Ws.length→S=[])
 |0,_=>⟨⟨[],[],[]⟩,[],[],[],binv_nil,hv,fun _=>rfl⟩
 |k+1,h=>by
  obtain⟨B,bl,bg,S,I,hs,_⟩:=at_k k (by omega)
  obtain⟨_,_,bl',bg',S',I',hs'⟩:=step_facts (procOk_of hv) I (List.getElem?_eq_getElem (by omega)) hs
  refine⟨_,bl',bg',S',I',hs',fun e=>?_⟩
  rw[e,List.drop_length,scanP]at hs'
  have hb:bl'=[]:=by
   by_cases c:bl'=[]
   ·exact c
   ·rw[if_neg c]at hs';omega
  have:=I'.sl
  rw[hb]at this
  exact List.length_eq_zero_iff.mp this
theorem blk_at{k d o h:Nat}{B:Bd}{bl:List Kd}{S:List (Nat×Nat)}(I:BInv (Ws.map lineW) B k bl S)(hd:S[d]? =some (o,h)):∃kd,bl.reverse[d]? =some kd∧BlockOk (Ws.map lineW) B k d o h kd:=by
 have hb:d<bl.reverse.length:=by rw[List.length_reverse,←I.sl];exact(List.getElem?_eq_some_iff.mp hd).1
 exact⟨_,List.getElem?_eq_getElem hb,I.blk d o h _ hd (List.getElem?_eq_getElem hb)⟩
theorem blk_open{k d o h:Nat}{B:Bd}{kd:Kd}(b:BlockOk (Ws.map lineW) B k d o h kd):o≤h∧∃l,(Ws.map lineW)[o]? =some l∧opens l=true:=by
 have:=b.kd_
 cases kd with
 |if_=>obtain⟨e,x,hx⟩:=this;exact⟨by omega,_,hx,rfl⟩
 |else_=>obtain⟨e,⟨x,hx⟩,_⟩:=this;exact⟨by omega,_,hx,rfl⟩
 |while_=>obtain⟨e,x,hx⟩:=this;exact⟨by omega,_,hx,rfl⟩
 |proc=>obtain⟨e,x,y,hx⟩:=this;exact⟨by omega,_,hx,rfl⟩
 |_=>exact this.elim
theorem bl_of:Bl (Ws.map lineW):=by
 have hlen:(Ws.map lineW).length=Ws.length:=List.length_map ..
 have shut:∀i l,(Ws.map lineW)[i]? =some l→opens l=true→close (Ws.map lineW) i< (Ws.map lineW).length:=fun i l h ho=>by
  obtain⟨B,bl,bg,S,I,_,hS⟩:=at_k hv Ws.length (Nat.le_refl _)
  have:=hS rfl
  subst this
  have hi:=(List.getElem?_eq_some_iff.mp h).1
  rcases I.shut i (by omega) (op_get h ho)with⟨d,h,hd⟩ | hd
  ·cases hd
  ·omega
 have shut2:∀i l,(Ws.map lineW)[i]? =some l→opens l=true→(Ws.map lineW)[close (Ws.map lineW) i]? =some .ends:=fun i l h ho=>by
  have:=shut i l h ho
  unfold close at this ⊢
  have e:=closeIn_end ((Ws.map lineW).drop (i+1)) 0 (by rw[List.length_drop];omega)
  rw[drop_get]at e
  exact e
 refine⟨fun i l h ho=>⟨shut i l h ho,shut2 i l h ho⟩,?_,?_,?_,?_⟩
 ·intro j hj
  have hjl:=(List.getElem?_eq_some_iff.mp hj).1
  obtain⟨B,bl,bg,S,I,hs,_⟩:=at_k hv j (by omega)
  have hpos:S≠[]:=fun z=>by
   subst z
   have hb:bl=[]:=List.length_eq_zero_iff.mp I.sl.symm
   have hws:Ws[j]? =some (Ws[j]'(by omega)):=List.getElem?_eq_getElem (by omega)
   obtain⟨hrd,hx,_⟩:=step_facts (procOk_of hv) I hws hs
   have hl:lineW (Ws[j]'(by omega))=.ends:=by
    rw[List.getElem?_map,hws]at hj
    exact Option.some.inj hj
   rw[hl]at hrd
   have hk:kindOf (Ws[j]'(by omega))=.end_:=by
    generalize Ws[j]'(by omega)=ws at hrd
    cases hrd
    rfl
   obtain⟨h,hs',e,_⟩:=hx (.inr hk)
   rw[I.hd]at e
   cases e
  cases S with
  |nil=>exact absurd rfl hpos
  |cons x S'=>
   obtain⟨o,h⟩:=x
   have hop:=opener_of I hj
   obtain⟨kd,_,b⟩:=blk_at hv I (d:=0) (o:=o) (h:=h) rfl
   obtain⟨hoh,l,hl,hlo⟩:=blk_open hv b
   have hlt:=b.lt
   have hc:close (Ws.map lineW) o=j:=by rw[b.cl,cl_end0 hj]
   refine⟨o,l,hop,hl,hlo,by omega,hc,fun i l' hi hio hci=>?_⟩
   have hij:i<j:=by
    have:i+1≤close (Ws.map lineW) i:=by unfold close;omega
    omega
   rcases I.shut i hij (op_get hi hio)with⟨d,h',hd⟩ | hd
   ·obtain⟨kd',_,b'⟩:=blk_at hv I hd
    cases d with
    |zero=>cases hd;rfl
    |succ d=>
     have:=b'.cl
     rw[hci,cl_endS hj]at this
     omega
   ·omega
 ·intro j p vs hj i l hi hio hij
  have hjl:=(List.getElem?_eq_some_iff.mp hj).1
  obtain⟨B,bl,bg,S,I,hs,_⟩:=at_k hv j (by omega)
  have hws:Ws[j]? =some (Ws[j]'(by omega)):=List.getElem?_eq_getElem (by omega)
  have hl:lineW (Ws[j]'(by omega))=.proc p vs:=by
   rw[List.getElem?_map,hws]at hj
   exact Option.some.inj hj
  obtain⟨hrd,_,_⟩:=step_facts (procOk_of hv) I hws hs
  have hk:kindOf (Ws[j]'(by omega))=.proc:=by
   rw[hl]at hrd
   generalize Ws[j]'(by omega)=ws at hrd
   cases hrd
   rfl
  rw[List.drop_eq_getElem_cons (by omega)]at hs
  obtain⟨_,h2,_⟩:=scan_zero (by omega) hs
  unfold allowsP at h2
  rw[hk]at h2
  simp only[Bool.and_eq_true,decide_eq_true_eq]at h2
  have hS:S=[]:=List.length_eq_zero_iff.mp (I.sl.trans h2.1)
  subst hS
  rcases I.shut i hij (op_get hi hio)with⟨d,h',hd⟩ | hd
  ·cases hd
  ·exact hd
 ·intro i j l l' hi hio hj hjo hij hjc
  have hjl:=(List.getElem?_eq_some_iff.mp hj).1
  obtain⟨B,bl,bg,S,I,hs,_⟩:=at_k hv (j+1) (by omega)
  have hne:j≠close (Ws.map lineW) i:=fun z=>by
   have:=shut2 i l hi hio
   rw[←z,hj]at this
   cases this
   cases hjo
  obtain⟨d,h,hd⟩:∃d h,S[d]? =some (i,h):=by
   rcases I.shut i (by omega) (op_get hi hio)with x | x
   ·exact x
   ·omega
  obtain⟨e,g,he⟩:∃d h,S[d]? =some (j,h):=by
   rcases I.shut j (by omega) (op_get hj hjo)with x | x
   ·exact x
   ·unfold close at x;omega
  obtain⟨kd,_,b⟩:=blk_at hv I hd
  obtain⟨ke,_,b'⟩:=blk_at hv I he
  have hjc':=shut j l' hj hjo
  rw[b'.cl]at hjc' ⊢
  rw[b.cl]
  have hed:e<d:=by
   have h1:=blk_open hv b'
   have hg:g=j:=by have:=b'.lt;omega
   have h2:=b.lt
   by_cases c:e<d
   ·exact c
   ·exfalso
    have ed:e≠d:=fun z=>by rw[z,hd]at he;cases he;omega
    have hS1:(S.map (·.2))[d]? =some h:=by rw[List.getElem?_map,hd];rfl
    have hS2:(S.map (·.2))[e]? =some g:=by rw[List.getElem?_map,he];rfl
    obtain⟨l1,e1⟩:=List.getElem?_eq_some_iff.mp hS1
    obtain⟨l2,e2⟩:=List.getElem?_eq_some_iff.mp hS2
    have:=List.pairwise_iff_getElem.mp I.dec d e l1 l2 (by omega)
    rw[e1,e2]at this
    have:=b.lt
    omega
  have:=closeIn_lt ((Ws.map lineW).drop (j+1)) e d hed (by rw[List.length_drop];omega)
  omega
 ·intro j hj
  have hjl:=(List.getElem?_eq_some_iff.mp hj).1
  obtain⟨B,bl,bg,S,I,hs,_⟩:=at_k hv j (by omega)
  have hws:Ws[j]? =some (Ws[j]'(by omega)):=List.getElem?_eq_getElem (by omega)
  have hl:lineW (Ws[j]'(by omega))=.els:=by
   rw[List.getElem?_map,hws]at hj
   exact Option.some.inj hj
  obtain⟨hrd,_,_⟩:=step_facts (procOk_of hv) I hws hs
  have hk:kindOf (Ws[j]'(by omega))=.else_:=by
   rw[hl]at hrd
   generalize Ws[j]'(by omega)=ws at hrd
   cases hrd
   rfl
  rw[List.drop_eq_getElem_cons (by omega)]at hs
  obtain⟨_,h2,_⟩:=scan_zero (by omega) hs
  unfold allowsP at h2
  rw[hk]at h2
  simp only[Bool.and_eq_true,decide_eq_true_eq]at h2
  cases S with
  |nil=>have:=I.sl;simp at this;omega
  |cons x S'=>
   obtain⟨o,h⟩:=x
   obtain⟨kd,hkd,b⟩:=blk_at hv I (d:=0) (o:=o) (h:=h) rfl
   have hb0:bl.reverse[0]? =bl.getLast?:=by
    rw[List.getLast?_eq_getElem?,List.getElem?_reverse h2.1,Nat.sub_zero]
   have hkd':kd=.if_:=by
    rw[hb0,h2.2]at hkd
    exact(Option.some.inj hkd).symm
   subst hkd'
   obtain⟨hho,e,he⟩:=b.kd_
   have hlt:=b.lt
   have hc:=b.cl
   rw[cl_else hj]at hc
   have hcj:close (Ws.map lineW) j=close (Ws.map lineW) o:=by rw[hc];rfl
   have hsh:=shut o _ he rfl
   exact⟨o,e,he,by omega,hcj.symm,by omega,by omega⟩
end
end Mn
namespace Mn
open Ls
open Ck hiding Bytes
open Cc
def stepless:KE→Bool
 |.of .put=>false
 |.of .if_=>false
 |.of .while_=>false
 |.of .set=>false
 |.of .do_=>false
 |_=>true
def goesOn:KE→Bool
 |.of .nothing=>true
 |.of .set=>true
 |.of .get=>true
 |.of .put=>true
 |.of .end_=>true
 |.of .stop=>true
 |_=>false
def Sh(l:Ln):Prop:=(stepless l.kind=true→l.steps=[])∧(goesOn l.kind=true→l.target=none)
theorem fill_sh(R:PrT)(ps ws:List Bytes):Sh (fillP R ps ws):=by
 unfold fillP
 split
 ·exact⟨(fun h=>nomatch h),fun _=>rfl⟩
 ·exact⟨(fun h=>nomatch h),fun _=>rfl⟩
 ·exact⟨(fun h=>nomatch h),fun _=>rfl⟩
 ·exact⟨(fun h=>nomatch h),fun _=>rfl⟩
 ·exact⟨fun _=>rfl,fun _=>rfl⟩
 ·exact⟨(fun h=>nomatch h),(fun h=>nomatch h)⟩
 ·exact⟨fun _=>rfl,fun _=>rfl⟩
theorem setT_sh{t:Nat}{l:Ln}(h:Sh l)(hk:goesOn l.kind=false):Sh (setT t l):=⟨h.1,fun g=>by
 have g':goesOn l.kind=true:=g
 rw[hk]at g';cases g'⟩
def Kr(ws:List Bytes)(l:Ln):Prop:=l.kind=.of (kindOf ws)∨(kindOf ws=.end_∧(l.kind=.ew∨l.kind=.ep))
def ShW(ws:List Bytes)(l:Ln):Prop:=Sh l∧Kr ws l
def ShL(Ws:List (List Bytes))(ls:List Ln):Prop:=∀(j:Nat) (l:Ln),ls[j]? =some l→∃ws,Ws[j]? =some ws∧ShW ws l
section
variable {Ws:List (List Bytes)}
theorem sh_add{ls:List Ln}{l:Ln}{ws:List Bytes}(h:ShL Ws ls)(hl:ShW ws l)(hw:Ws[ls.length]? =some ws):ShL Ws (ls++[l]):=fun j x hx=>by
 by_cases c:j<ls.length
 ·rw[List.getElem?_append_left c]at hx;exact h j x hx
 ·rw[List.getElem?_append_right (by omega)]at hx
  cases e:j-ls.length with
  |zero=>
   rw[e]at hx
   cases hx
   rw[show j=ls.length by omega]
   exact⟨ws,hw,hl⟩
  |succ n=>rw[e]at hx;cases hx
theorem sh_mod{ls:List Ln}{h0 t:Nat}(h:ShL Ws ls)(hk:∀x,ls[h0]? =some x→goesOn x.kind=false):ShL Ws (ls.modify h0 (setT t)):=fun j x hx=>by
 by_cases c:h0=j
 ·subst c
  cases e:ls[h0]? with
  |none=>
   rw[List.getElem?_modify]at hx
   rw[e]at hx
   simp at hx
  |some y=>
   rw[yU e]at hx
   cases hx
   obtain⟨ws,hw,h1,h2⟩:=h _ _ e
   exact⟨ws,hw,setT_sh h1 (hk y e),h2⟩
 ·rw[yW c]at hx
  exact h j x hx
theorem sh_take{R:PrT}{B:Bd}{ws:List Bytes}(h:ShL Ws B.lines)(hw:Ws[B.lines.length]? =some ws)(hh:∀h0∈B.heads,∀x,B.lines[h0]? =some x→goesOn x.kind=false):ShL Ws (takeP R B ws).lines:=by
 unfold takeP
 have hl:ShW ws (fillP R B.params ws):=⟨fill_sh R B.params ws,.inl (fill_kind R B.params ws).1⟩
 have hml:∀h0 t,(B.lines.modify h0 (setT t)).length=B.lines.length:=fun _ _=>List.length_modify ..
 dsimp only
 split
 ·exact sh_add h hl hw
 ·exact sh_add h hl hw
 ·exact sh_add h hl hw
 ·split
  ·rename_i h0 hs e
   exact sh_add (sh_mod h (hh h0 (by rw[e];simp))) hl (by rw[hml];exact hw)
  ·exact h
 ·rename_i ek
  split
  ·rename_i h0 hs e
   have hm:=sh_mod (t:=B.lines.length+1) h (hh h0 (by rw[e];simp))
   have hkind:(fillP R B.params ws).kind=.of .end_:=by rw[(fill_kind R B.params ws).1,ek]
   have hst:(fillP R B.params ws).steps=[]:=hl.1.1 (by rw[hkind];rfl)
   unfold closeP
   dsimp only
   split
   ·exact sh_add hm ⟨⟨fun _=>hst,(fun z=>nomatch z)⟩,.inr ⟨ek,.inl rfl⟩⟩ (by rw[hml];exact hw)
   ·exact sh_add hm ⟨⟨fun _=>hst,(fun z=>nomatch z)⟩,.inr ⟨ek,.inr rfl⟩⟩ (by rw[hml];exact hw)
   ·exact sh_add hm hl (by rw[hml];exact hw)
  ·exact h
 ·exact sh_add h hl hw
end
theorem build_snoc(R:PrT):∀(Ws:List (List Bytes)) (B:Bd) (ws:List Bytes),buildP R B (Ws++[ws])=takeP R (buildP R B Ws) ws
 |[],B,ws=>rfl
 |x::r,B,ws=>by
  show buildP R (takeP R B x) (r++[ws])=_
  rw[build_snoc R r]
  rfl
section
variable {Ws:List (List Bytes)}(hv:scanP (toldP [] Ws) 1 [] [] Ws=0)
include hv
theorem sh_k:∀k,k≤Ws.length→∃bl bg S,BInv (Ws.map lineW) (buildP (procsP 0 [] Ws) ⟨[],[],[]⟩ (Ws.take k)) k bl S∧scanP (toldP [] Ws) (k+1) bl bg (Ws.drop k)=0∧ShL Ws (buildP (procsP 0 [] Ws) ⟨[],[],[]⟩ (Ws.take k)).lines
 |0,_=>⟨[],[],[],by rw[List.take_zero];exact binv_nil,hv,by rw[List.take_zero];exact fun j l h=>nomatch h⟩
 |k+1,h=>by
  obtain⟨bl,bg,S,I,hs,hsh⟩:=sh_k k (by omega)
  have hws:Ws[k]? =some (Ws[k]'(by omega)):=List.getElem?_eq_getElem (by omega)
  obtain⟨_,_,bl',bg',S',I',hs'⟩:=step_facts (procOk_of hv) I hws hs
  have eb:buildP (procsP 0 [] Ws) ⟨[],[],[]⟩ (Ws.take (k+1))=takeP (procsP 0 [] Ws) (buildP (procsP 0 [] Ws) ⟨[],[],[]⟩ (Ws.take k)) (Ws[k]'(by omega)):=by
   rw[List.take_succ,hws]
   exact build_snoc _ _ _ _
  refine⟨bl',bg',S',by rw[eb];exact I',hs',?_⟩
  rw[eb]
  refine sh_take hsh (by rw[I.len];exact hws) fun h0 hm x hx=>?_
  rw[I.hd]at hm
  obtain⟨y,hy,rfl⟩:=List.mem_map.mp hm
  obtain⟨d,hd⟩:=List.mem_iff_getElem?.mp hy
  obtain⟨kd,_,b⟩:=blk_at hv I (o:=y.1) (h:=y.2) hd
  obtain⟨l,hl,hk,_⟩:=b.ln
  rw[hx]at hl
  cases hl
  rw[hk]
  have:=b.kd_
  cases kd with
  |if_=>rfl
  |else_=>rfl
  |while_=>rfl
  |proc=>rfl
  |_=>exact this.elim
theorem prog_sh:ShL Ws (progP Ws):=by
 obtain⟨_,_,_,_,_,h⟩:=sh_k hv Ws.length (Nat.le_refl _)
 rw[List.take_length]at h
 exact h
theorem prog_tgt(hw:∀ws∈Ws,ws.length≤16500):∀(j:Nat) (l:Ln),(progP Ws)[j]? =some l→(wantsT l.kind=true→l.target.isSome=true)∧(l.kind=.of .set∨l.kind=.of .get→l.store.isSome=true):=by
 obtain⟨bl,_,S,I,hs,_⟩:=sh_k hv Ws.length (Nat.le_refl _)
 rw[List.take_length]at I
 rw[List.drop_length,scanP]at hs
 have hb:bl=[]:=by
  by_cases c:bl=[]
  ·exact c
  ·rw[if_neg c]at hs;omega
 have hS:S=[]:=List.length_eq_zero_iff.mp (by rw[I.sl,hb];rfl)
 have hh:=I.hd
 rw[hS]at hh
 intro j l hj
 have ok:=prog_ok Ws hw
 refine⟨fun h=>?_,(ok.all l (List.mem_of_getElem? hj)).has⟩
 rcases ok.tgt j l hj h with x | x
 ·exact x
 ·rw[hh]at x;cases x
end
def Cx(P:List L)(k:Nat):Option (List Nat)→Prop
 |none=>∀j p vs,P[j]? =some (.proc p vs)→j<k→close P j<k
 |some vs=>∃j p,P[j]? =some (.proc p vs)∧j<k∧k≤close P j
theorem close_gt(P:List L)(i:Nat):i<close P i:=by unfold close;omega
section
variable {P:List L}(B:Bl P)
include B
theorem cx_next{i:Nat}{l:L}{c:Option (List Nat)}(hl:P[i]? =some l)(hp:∀p vs,l≠.proc p vs)(he:l=.ends→∀o p vs,opener P i=some o→P[o]? ≠some (.proc p vs))(h:Cx P i c):Cx P (i+1) c:=by
 cases c with
 |none=>
  intro j p vs hj hji
  by_cases e:j=i
  ·subst e;rw[hl]at hj;exact absurd (Option.some.inj hj) (hp p vs)
  ·have:=h j p vs hj (by omega);omega
 |some vs=>
  obtain⟨j,p,hj,h1,h2⟩:=h
  refine⟨j,p,hj,by omega,?_⟩
  by_cases e:i=close P j
  ·exfalso
   have hs:=(B.shut j _ hj rfl).2
   rw[←e,hl]at hs
   have hle:=Option.some.inj hs
   obtain⟨o,l',ho,hlo,_,_,_,hu⟩:=B.back i (by rw[hl,hle])
   have:=hu j _ hj rfl e.symm
   subst this
   exact he hle _ p vs ho hj
  ·omega
theorem cx_jump{i t:Nat}{l:L}{c:Option (List Nat)}(hl:P[i]? =some l)(ho:opens l=true)(h1:i<t)(h2:t≤close P i+1)(hp:∀p vs,l=.proc p vs→t=close P i+1)(h:Cx P i c):Cx P t c:=by
 cases c with
 |none=>
  intro j p vs hj hjt
  rcases Nat.lt_trichotomy j i with c | c | c
  ·have:=h j p vs hj c;omega
  ·subst c
   rw[hl]at hj
   have:=hp p vs (Option.some.inj hj)
   omega
  ·have:=B.top j p vs hj i l hl ho c;omega
 |some vs=>
  obtain⟨j,p,hj,g1,g2⟩:=h
  have:=B.nest j i _ l hj rfl hl ho g1 g2
  exact⟨j,p,hj,by omega,by omega⟩
theorem cx_else{i:Nat}{c:Option (List Nat)}(hl:P[i]? =some .els)(h:Cx P i c):Cx P (close P i+1) c:=by
 obtain⟨o,e,ho,h1,h2,h3,h4⟩:=B.els i hl
 cases c with
 |none=>
  intro j p vs hj hjt
  rcases Nat.lt_trichotomy j i with c | c | c
  ·have:=h j p vs hj c;omega
  ·subst c;rw[hl]at hj;cases hj
  ·have:=B.top j p vs hj o _ ho rfl (by omega);omega
 |some vs=>
  obtain⟨j,p,hj,g1,g2⟩:=h
  have hjo:j<o:=by
   rcases Nat.lt_trichotomy j o with c | c | c
   ·exact c
   ·subst c;rw[ho]at hj;cases hj
   ·have:=B.top j p vs hj o _ ho rfl c;omega
  have:=B.nest j o _ _ hj rfl ho rfl hjo (by omega)
  exact⟨j,p,hj,by omega,by omega⟩
theorem cx_back{i o:Nat}{l:L}{c:Option (List Nat)}(hl:P[i]? =some .ends)(hop:opener P i=some o)(hlo:P[o]? =some l)(hp:∀p vs,l≠.proc p vs)(h:Cx P i c):Cx P o c:=by
 obtain⟨o',l',ho,hlo',hoo,h1,h2,hu⟩:=B.back i hl
 rw[hop]at ho
 cases ho
 rw[hlo]at hlo'
 cases hlo'
 cases c with
 |none=>
  intro j p vs hj hjo
  have:=h j p vs hj (by omega)
  by_cases c:close P j<o
  ·exact c
  ·have:=B.nest j o _ _ hj rfl hlo hoo hjo (by omega);omega
 |some vs=>
  obtain⟨j,p,hj,g1,g2⟩:=h
  have hjo:j<o:=by
   rcases Nat.lt_trichotomy j o with c | c | c
   ·exact c
   ·subst c;rw[hlo]at hj;exact absurd (Option.some.inj hj) (hp p vs)
   ·have:=B.top j p vs hj o _ hlo hoo c;omega
  exact⟨j,p,hj,hjo,by omega⟩
theorem cx_call{j p:Nat}{vs:List Nat}(hj:P[j]? =some (.proc p vs)):Cx P (j+1) (some vs):=⟨j,p,hj,by omega,close_gt P j⟩
theorem cx_ret{i o p:Nat}{vs:List Nat}{c:Option (List Nat)}(hl:P[i]? =some .ends)(hop:opener P i=some o)(hlo:P[o]? =some (.proc p vs))(h:Cx P i c):c≠none:=fun z=>by
 subst z
 obtain⟨o',l',ho,hlo',hoo,h1,h2,hu⟩:=B.back i hl
 rw[hop]at ho
 cases ho
 have:=h o p vs hlo h1
 omega
theorem cx_in{i:Nat}{l:L}{vs:List Nat}(hl:P[i]? =some l)(he:l≠.ends)(h:Cx P i (some vs)):inProc P i=vs:=by
 obtain⟨j,p,hj,g1,g2⟩:=h
 have hlt:i<close P j:=by
  by_cases c:i=close P j
  ·have hs:=(B.shut j _ hj rfl).2
   rw[←c,hl]at hs
   exact absurd (Option.some.inj hs) he
  ·omega
 rw[inProc_eq]
 have hf:(List.range i).find? (inTest P i)=some j:=by
  cases e:(List.range i).find? (inTest P i)with
  |none=>
   rw[List.find?_eq_none]at e
   have:=e j (List.mem_range.mpr g1)
   unfold inTest at this
   rw[hj]at this
   exact absurd (decide_eq_true hlt) this
  |some j'=>
   have hm:=List.mem_range.mp (List.mem_of_find?_eq_some e)
   have ht:=List.find?_some e
   unfold inTest at ht
   split at ht
   ·rename_i p' vs' hj'
    have ht':=of_decide_eq_true ht
    rcases Nat.lt_trichotomy j j' with c | c | c
    ·have:=B.top j' p' vs' hj' j _ hj rfl c;omega
    ·rw[c]
    ·have:=B.top j p vs hj j' _ hj' rfl c;omega
   ·cases ht
 rw[hf]
 dsimp only
 rw[hj]
theorem cx_out{i:Nat}(h:Cx P i none):inProc P i=[]:=by
 rw[inProc_eq]
 have hf:(List.range i).find? (inTest P i)=none:=by
  rw[List.find?_eq_none]
  intro j hj
  unfold inTest
  split
  ·rename_i p vs e
   have:=h j p vs e (List.mem_range.mp hj)
   simp;omega
  ·simp
 rw[hf]
end
end Mn
namespace Mn
open Ls
open Ck hiding Bytes
open Cc Ar
def EOk:Expr→Prop
 |.num n=>inRange n=true
 |.var v=>v<26
 |.bin o a b=>o≤6∧EOk a∧EOk b
 |.not a=>EOk a
theorem val_lt:∀(ds:Bytes) (n:Nat),ds.all isDigit=true→ds.foldl (fun(n:Nat) (c:UInt8)=>10*n+ (c.toNat-48)) n< (n+1) *10 ^ ds.length
 |[],n,_=>by simp
 |c::r,n,h=>by
  simp only[List.all_cons,Bool.and_eq_true]at h
  rw[List.foldl_cons]
  have h1:=h.1
  unfold isDigit at h1
  simp only[Bool.and_eq_true,decide_eq_true_eq]at h1
  have:=val_lt r (10*n+ (c.toNat-48)) h.2
  refine Nat.lt_of_lt_of_le this ?_
  rw[List.length_cons,Nat.pow_succ]
  have h3:(10*n+ (c.toNat-48) +1)≤(n+1) *10:=by omega
  calc (10*n+ (c.toNat-48) +1) *10 ^ r.length≤((n+1) *10) *10 ^ r.length:=Nat.mul_le_mul_right _ h3
   _=(n+1) * (10 ^ r.length*10):=by rw[Nat.mul_assoc,Nat.mul_comm 10]
theorem num_in{w:Bytes}{z:Int}(h:numberOf w=some z):inRange z=true:=by
 unfold numberOf at h
 by_cases c:w.length≤18∨(w.head? =some 45∧w.length≤19)
 ·rw[if_pos c]at h
  unfold whole at h
  dsimp only at h
  generalize hd:(if w.head? =some 45 then w.drop 1 else w)=ds at h
  have hl:ds.length≤18:=by
   rw[←hd]
   split
   ·rename_i e
    rw[List.length_drop]
    rcases c with c | c<;>omega
   ·rename_i e
    rcases c with c | c
    ·exact c
    ·exact absurd c.1 e
  by_cases g:ds≠[]∧ds.all isDigit=true
  ·rw[if_pos g]at h
   have hv:=val_lt ds 0 g.2
   have hp:10 ^ ds.length≤10 ^ 18:=Nat.pow_le_pow_right (by decide) hl
   have hv':valueOf ds<10 ^ 18:=by unfold valueOf;omega
   have e:=Option.some.inj h
   unfold inRange
   simp only[Bool.and_eq_true,decide_eq_true_eq]
   split at e<;>omega
  ·rw[if_neg g]at h;cases h
 ·rw[if_neg c]at h;cases h
theorem var_lt{w:Bytes}{v:Nat}(h:varOf w=some v):v<26:=by
 unfold varOf at h
 split at h
 ·split at h
  ·cases h;omega
  ·cases h
 ·cases h
theorem op_le{w:Bytes}{o:Nat}(h:opOf w=some o):o≤6:=(op_word h).1
theorem expr_ok:∀(n:Nat) (ws:List Bytes) (e:Expr) (r:List Bytes),expr n ws=some (e,r)→EOk e
 |0,ws,e,r,h=>by cases ws<;>cases h
 |n+1,[],e,r,h=>by cases h
 |n+1,w::t,e,r,h=>by
  unfold expr at h
  cases h1:numberOf w with
  |some z=>rw[h1]at h;cases h;exact num_in h1
  |none=>
   cases h2:varOf w with
   |some v=>rw[h1,h2]at h;cases h;exact var_lt h2
   |none=>
    cases h3:opOf w with
    |some o=>
     rw[h1,h2,h3]at h
     dsimp only at h
     cases ha:expr n t with
     |none=>rw[ha]at h;cases h
     |some x=>
      rw[ha]at h
      simp only[Option.bind_some]at h
      cases hb:expr n x.2 with
      |none=>rw[hb]at h;cases h
      |some y=>
       rw[hb]at h
       cases h
       exact⟨op_le h3,expr_ok n t x.1 x.2 ha,expr_ok n x.2 y.1 y.2 hb⟩
    |none=>
     rw[h1,h2,h3]at h
     dsimp only at h
     split at h
     ·cases ha:expr n t with
      |none=>rw[ha]at h;cases h
      |some x=>
       rw[ha]at h
       cases h
       exact expr_ok n t x.1 x.2 ha
     ·cases h
theorem one_ok{ws:List Bytes}{e:Expr}(h:one ws=some e):EOk e:=by
 unfold one at h
 cases ha:expr (ws.length+1) ws with
 |none=>rw[ha]at h;cases h
 |some x=>
  rw[ha]at h
  simp only[Option.bind_some]at h
  split at h
  ·cases h;exact expr_ok _ _ x.1 x.2 ha
  ·cases h
theorem several_ok:∀(n:Nat) (ws:List Bytes) (es:List Expr),several n ws=some es→∀e∈es,EOk e
 |0,ws,es,h=>by cases ws<;>cases h
 |n+1,[],es,h=>by cases h;intro e he;cases he
 |n+1,w::t,es,h=>by
  unfold several at h
  cases ha:expr (t.length+2) (w::t)with
  |none=>rw[ha]at h;cases h
  |some x=>
   rw[ha]at h
   simp only[Option.bind_some]at h
   cases hb:several n x.2 with
   |none=>rw[hb]at h;cases h
   |some l=>
    rw[hb]at h
    cases h
    intro e he
    rcases List.mem_cons.mp he with c | c
    ·subst c;exact expr_ok _ _ x.1 x.2 ha
    ·exact several_ok n x.2 l hb e c
theorem procAt_is:∀(P:List L) (n p:Nat) (x:Nat×List Nat),procAt p n P=some x→n≤x.1∧P[x.1-n]? =some (.proc p x.2)
 |[],n,p,x,h=>by cases h
 |l::r,n,p,x,h=>by
  have rec_:procAt p (n+1) r=some x→n≤x.1∧(l::r)[x.1-n]? =some (.proc p x.2):=fun h=>by
   obtain⟨h1,h2⟩:=procAt_is r (n+1) p x h
   refine⟨by omega,?_⟩
   rw[show x.1-n=(x.1- (n+1)) +1 by omega,List.getElem?_cons_succ]
   exact h2
  unfold procAt at h
  cases l with
  |proc q vs=>
   dsimp only at h
   by_cases c:q=p
   ·rw[if_pos c]at h
    cases h
    subst c
    exact⟨Nat.le_refl _,by rw[Nat.sub_self];rfl⟩
   ·rw[if_neg c]at h
    exact rec_ h
  |_=>exact rec_ h
inductive Lv (P:List L) (i:Nat):L→Ln→Prop
 |skip {l:Ln}:l.kind=.of .nothing→l.steps=[]→l.target=none→Lv P i .skip l
 |set {l:Ln} {v:Nat} {e:Expr}:l.kind=.of .set→l.steps=exprI (inProc P i) e→l.store=some (varI (inProc P i) v 5 3)→l.target=none→EOk e→v<26→Lv P i (.set v e) l
 |get {l:Ln} {v:Nat}:l.kind=.of .get→l.steps=[]→l.store=some (varI (inProc P i) v 5 3)→l.target=none→v<26→Lv P i (.get v) l
 |put {l:Ln} {e:Expr}:l.kind=.of .put→l.steps=exprI (inProc P i) e→l.target=none→EOk e→Lv P i (.put e) l
 |cond {l:Ln} {e:Expr}:l.kind=.of .if_→l.steps=exprI (inProc P i) e→l.target=some (elseOf P i+1)→EOk e→Lv P i (.cond e) l
 |loop {l:Ln} {e:Expr}:l.kind=.of .while_→l.steps=exprI (inProc P i) e→l.target=some (close P i+1)→EOk e→Lv P i (.loop e) l
 |els {l:Ln}:l.kind=.of .else_→l.steps=[]→l.target=some (close P i+1)→Lv P i .els l
 |proc {l:Ln} {p:Nat} {vs:List Nat}:l.kind=.of .proc→l.steps=[]→l.target=some (close P i+1)→Lv P i (.proc p vs) l
 |call {l:Ln} {p:Nat} {es:List Expr} {x:Nat×List Nat}:l.kind=.of .do_→l.steps=es.flatMap (exprI (inProc P i))→l.target=some (x.1+1)→procAt p 0 P=some x→es.length=x.2.length→(∀e∈es,EOk e)→Lv P i (.call p es) l
 |stop {l:Ln}:l.kind=.of .stop→Lv P i .halt_ l
 |endW {l:Ln} {o:Nat} {e:Expr}:l.kind=.ew→l.steps=[]→l.target=some o→opener P i=some o→P[o]? =some (.loop e)→Lv P i .ends l
 |endP {l:Ln} {o p:Nat} {vs:List Nat}:l.kind=.ep→l.steps=[]→opener P i=some o→P[o]? =some (.proc p vs)→Lv P i .ends l
 |endC {l:Ln} {o:Nat} {e:Expr}:l.kind=.of .end_→l.steps=[]→l.target=none→opener P i=some o→P[o]? =some (.cond e)→Lv P i .ends l
theorem snoc_inj{α:Type}{a b:List α}{x y:α}(h:a++[x]=b++[y]):a=b∧x=y:=by
 have:=List.append_inj' h rfl
 exact⟨this.1,by have:=this.2;cases this;rfl⟩
theorem some_of{t:Option Nat}{n:Nat}(h:t.isSome=true)(e:((t.getD 0:Nat):Int)=((n:Nat):Int)):t=some n:=by
 cases t with
 |none=>cases h
 |some m=>
  have e':(m:Int)=(n:Int):=e
  rw[show m=n by omega]
section
variable {Ws:List (List Bytes)}(hv:scanP (toldP [] Ws) 1 [] [] Ws=0)(hw:∀ws∈Ws,ws.length≤16500)
include hv hw
theorem view{i:Nat}{l:Ln}(hl:(progP Ws)[i]? =some l):∃l0,(Ws.map lineW)[i]? =some l0∧Lv (Ws.map lineW) i l0 l:=by
 have B:=bl_of hv
 obtain⟨hlen,hall⟩:=prog_lines hv
 have hi:i<Ws.length:=by rw[←hlen];exact(List.getElem?_eq_some_iff.mp hl).1
 obtain⟨l',hl',hs⟩:=hall i hi
 rw[hl]at hl'
 cases hl'
 obtain⟨ws,hws,⟨hst,htg⟩,hkr⟩:=prog_sh hv i l hl
 obtain⟨hT,hSt⟩:=prog_tgt hv hw i l hl
 have hP:(Ws.map lineW)[i]? =some (lineW ws):=by rw[List.getElem?_map,hws];rfl
 have hrd:Rd (fun p=>(procAt p 0 (Ws.map lineW)).map fun x=>x.2.length) ws (lineW ws):=rd_of (told_ok Ws) (by
  obtain⟨_,_,bg,_,_,hsc,_⟩:=at_k hv i (by omega)
  obtain⟨hk1,hk2⟩:=List.getElem?_eq_some_iff.mp hws
  rw[List.drop_eq_getElem_cons hk1,hk2]at hsc
  exact(scan_zero (by omega) hsc).1)
 refine⟨lineW ws,hP,?_⟩
 have hd:=getD_at hP
 unfold specI at hs
 rw[hd]at hs
 revert hs hP
 generalize lineW ws=l0 at hrd
 intro hs hP
 have kk:∀k,kindOf ws=k→k≠.end_→l.kind=.of k:=fun k e ne=>by
  rcases hkr with h | h
  ·rw[h,e]
  ·rw[e]at h;exact absurd h.1 ne
 cases hrd with
 |skip e=>
  have hk:=kk _ e (by decide)
  exact .skip hk (hst (by rw[hk];rfl)) (htg (by rw[hk];rfl))
 |set h1 h2=>
  have hk:=kk .set rfl (by decide)
  unfold lineIs at hs
  rw[hk]at hs
  dsimp only at hs
  cases hso:l.store with
  |none=>have:=hSt (.inl hk);rw[hso]at this;cases this
  |some x=>
   rw[hso]at hs
   obtain⟨e1,e2⟩:=snoc_inj (List.cons.inj hs).2
   exact .set hk e1 (by rw[hso,e2]) (htg (by rw[hk];rfl)) (one_ok h2) (var_lt h1)
 |get h1=>
  have hk:=kk .get rfl (by decide)
  unfold lineIs at hs
  rw[hk]at hs
  dsimp only at hs
  cases hso:l.store with
  |none=>have:=hSt (.inr hk);rw[hso]at this;cases this
  |some x=>
   rw[hso]at hs
   have e2:=(List.cons.inj (List.cons.inj hs).2).1
   exact .get hk (hst (by rw[hk];rfl)) (by rw[hso,e2]) (htg (by rw[hk];rfl)) (var_lt h1)
 |put h1=>
  have hk:=kk .put rfl (by decide)
  unfold lineIs at hs
  rw[hk]at hs
  obtain⟨e1,e2⟩:=snoc_inj (List.cons.inj hs).2
  exact .put hk e1 (htg (by rw[hk];rfl)) (one_ok h1)
 |cond h1=>
  have hk:=kk .if_ rfl (by decide)
  unfold lineIs at hs
  rw[hk]at hs
  obtain⟨e1,e2⟩:=snoc_inj (List.cons.inj hs).2
  have e3:=(List.cons.inj (Prod.mk.inj e2).2).1
  exact .cond hk e1 (some_of (hT (by rw[hk];rfl)) e3) (one_ok h1)
 |loop h1=>
  have hk:=kk .while_ rfl (by decide)
  unfold lineIs at hs
  rw[hk]at hs
  obtain⟨e1,e2⟩:=snoc_inj (List.cons.inj hs).2
  have e3:=(List.cons.inj (Prod.mk.inj e2).2).1
  exact .loop hk e1 (some_of (hT (by rw[hk];rfl)) e3) (one_ok h1)
 |els=>
  have hk:=kk .else_ rfl (by decide)
  unfold lineIs at hs
  rw[hk]at hs
  have e3:=(List.cons.inj (Prod.mk.inj (List.cons.inj hs).1).2).1
  exact .els hk (hst (by rw[hk];rfl)) (some_of (hT (by rw[hk];rfl)) e3)
 |ends=>
  obtain⟨o,lo,hop,hlo,hoo,_,_,_⟩:=B.back i hP
  rw[hop]at hs
  simp only[Option.bind_some,hlo]at hs
  have hk:l.kind=.of .end_∨l.kind=.ew∨l.kind=.ep:=by
   rcases hkr with h | h
   ·exact .inl h
   ·exact .inr h.2
  unfold lineIs at hs
  cases lo with
  |loop e=>
   have hk':l.kind=.ew:=by
    rcases hk with h | h | h
    ·rw[h]at hs;cases hs
    ·exact h
    ·rw[h]at hs;cases hs
   rw[hk']at hs
   have e3:=(List.cons.inj (Prod.mk.inj (List.cons.inj hs).1).2).1
   exact .endW hk' (hst (by rw[hk'];rfl)) (some_of (hT (by rw[hk'];rfl)) e3) hop hlo
  |proc p vs=>
   have hk':l.kind=.ep:=by
    rcases hk with h | h | h
    ·rw[h]at hs;cases hs
    ·rw[h]at hs;cases hs
    ·exact h
   exact .endP hk' (hst (by rw[hk'];rfl)) hop hlo
  |cond e=>
   have hk':l.kind=.of .end_:=by
    rcases hk with h | h | h
    ·exact h
    ·rw[h]at hs;cases hs
    ·rw[h]at hs;cases hs
   exact .endC hk' (hst (by rw[hk'];rfl)) (htg (by rw[hk'];rfl)) hop hlo
  |_=>cases hoo
 |stop=>exact .stop (kk .stop rfl (by decide))
 |proc h1 h2=>
  have hk:=kk .proc rfl (by decide)
  unfold lineIs at hs
  rw[hk]at hs
  have e3:=(List.cons.inj (Prod.mk.inj (List.cons.inj hs).1).2).1
  exact .proc hk (hst (by rw[hk];rfl)) (some_of (hT (by rw[hk];rfl)) e3)
 |call h1 h2 h3=>
  rename_i q es p es'
  have hk:=kk .do_ rfl (by decide)
  unfold lineIs at hs
  rw[hk]at hs
  obtain⟨e1,e2⟩:=snoc_inj (List.cons.inj hs).2
  have e3:=(List.cons.inj (Prod.mk.inj e2).2).1
  cases hp:procAt p 0 (Ws.map lineW)with
  |none=>rw[hp]at h3;cases h3
  |some x=>
   rw[hp]at h3 e3
   have e4:x.2.length=es'.length:=Option.some.inj h3
   exact .call hk e1 (some_of (hT (by rw[hk];rfl)) e3) hp e4.symm (several_ok _ _ _ h2)
end
end Mn
namespace Mn
open Ls
open Ck hiding Bytes
open Cc Ar
theorem orW{o:Option L}{l:L}(h:orWrong o=l)(hl:l≠.wrong):o=some l:=by
 cases o with
 |none=>exact absurd h.symm hl
 |some x=>exact congrArg some h
theorem map_no{α:Type}{o:Option α}{f:α→L}{l:L}(h:orWrong (o.map f)=l)(hl:l≠.wrong):∃a,f a=l:=by
 cases o with
 |none=>exact absurd h.symm hl
 |some x=>exact⟨x,h⟩
theorem proc_distinct{ws:List Bytes}{p:Nat}{vs:List Nat}(h:lineW ws=.proc p vs):distinct vs=true:=by
 have hw:L.proc p vs≠.wrong:=fun z=>nomatch z
 unfold lineW at h
 by_cases c0:WORDS<ws.length
 ·rw[if_pos c0]at h;cases h
 rw[if_neg c0]at h
 cases ws with
 |nil=>cases h
 |cons w r=>
  dsimp only at h
  by_cases c1:w.head? =some 35
  ·rw[if_pos c1]at h;cases h
  rw[if_neg c1]at h
  by_cases c2:w=ascii "set"
  ·rw[if_pos c2]at h
   cases r with
   |nil=>cases h
   |cons v e=>
    have:=orW (show orWrong ((varOf v).bind fun v=>(one e).map (L.set v))=_ from h) hw
    cases hv:varOf v with
    |none=>rw[hv]at this;cases this
    |some x=>
     rw[hv]at this
     simp only[Option.bind_some,Option.map_eq_some_iff]at this
     obtain⟨_,_,z⟩:=this
     cases z
  rw[if_neg c2]at h
  by_cases c3:w=ascii "get"
  ·rw[if_pos c3]at h
   cases r with
   |nil=>cases h
   |cons v e=>
    cases e with
    |nil=>obtain⟨a,z⟩:=map_no (show orWrong ((varOf v).map L.get)=_ from h) hw;cases z
    |cons _ _=>cases h
  rw[if_neg c3]at h
  by_cases c4:w=ascii "put"
  ·rw[if_pos c4]at h;obtain⟨a,z⟩:=map_no h hw;cases z
  rw[if_neg c4]at h
  by_cases c5:w=ascii "if"
  ·rw[if_pos c5]at h;obtain⟨a,z⟩:=map_no h hw;cases z
  rw[if_neg c5]at h
  by_cases c6:w=ascii "while"
  ·rw[if_pos c6]at h;obtain⟨a,z⟩:=map_no h hw;cases z
  rw[if_neg c6]at h
  by_cases c7:w=ascii "else"
  ·rw[if_pos c7]at h
   by_cases d:r=[]
   ·rw[if_pos d]at h;cases h
   ·rw[if_neg d]at h;cases h
  rw[if_neg c7]at h
  by_cases c8:w=ascii "end"
  ·rw[if_pos c8]at h
   by_cases d:r=[]
   ·rw[if_pos d]at h;cases h
   ·rw[if_neg d]at h;cases h
  rw[if_neg c8]at h
  by_cases c9:w=ascii "stop"
  ·rw[if_pos c9]at h
   by_cases d:r=[]
   ·rw[if_pos d]at h;cases h
   ·rw[if_neg d]at h;cases h
  rw[if_neg c9]at h
  by_cases c10:w=ascii "proc"
  ·rw[if_pos c10]at h
   cases r with
   |nil=>cases h
   |cons q us=>
    have:=orW (show orWrong ((procOf q).bind fun p=>(varsOf us).bind fun l=>if l.length≤4∧distinct l=true then some (L.proc p l)else none)=_ from h) hw
    cases hq:procOf q with
    |none=>rw[hq]at this;cases this
    |some x=>
     rw[hq]at this
     simp only[Option.bind_some]at this
     cases hu:varsOf us with
     |none=>rw[hu]at this;cases this
     |some l=>
      rw[hu]at this
      simp only[Option.bind_some]at this
      by_cases g:l.length≤4∧distinct l=true
      ·rw[if_pos g]at this
       cases this
       exact g.2
      ·rw[if_neg g]at this;cases this
  rw[if_neg c10]at h
  by_cases c11:w=ascii "do"
  ·rw[if_pos c11]at h
   cases r with
   |nil=>cases h
   |cons q es=>
    have:=orW (show orWrong ((procOf q).bind fun p=>(several (es.length+1) es).map (L.call p))=_ from h) hw
    cases hq:procOf q with
    |none=>rw[hq]at this;cases this
    |some x=>
     rw[hq]at this
     simp only[Option.bind_some,Option.map_eq_some_iff]at this
     obtain⟨_,_,z⟩:=this
     cases z
  rw[if_neg c11]at h
  cases h
def ownS(s:S):List Int:=match s.frames with
 |[]=>[]
 |f::_=>f.locals.map (·.2)
def invZ(a:Int):Int:=if a=0 then 1 else 0
def wk(sh:Nat→Int)(own:List Int):List Ii→List Int→Except Nat (List Int)
 |[],st=>.ok st
 |x::r,st=>
  if x.1=1 then wk sh own r (x.2.getD 0 0::st)
  else if x.1=2 then wk sh own r (sh (x.2.getD 0 0).toNat::st)
  else if x.1=4 then wk sh own r (own.getD (x.2.getD 0 0).toNat 0::st)
  else if x.1=13 then wk sh own r (invZ (st.getD 0 0)::st.drop 1)
  else if stdP (x.1-6) (st.getD 1 0) (st.getD 0 0)≠7 then .error (stdP (x.1-6) (st.getD 1 0) (st.getD 0 0))else wk sh own r (resP (x.1-6) (st.getD 1 0) (st.getD 0 0)::st.drop 2)
theorem std7{o:Nat}{a b:Int}(h:stdP o a b=7):inRange (resP o a b)=true:=by
 unfold stdP at h
 split at h
 ·cases h
 ·split at h
  ·assumption
  ·cases h
theorem std_k{o:Nat}{a b:Int}(h:stdP o a b≠7):1≤stdP o a b∧stdP o a b≤5:=by
 unfold stdP at h ⊢
 split
 ·omega
 ·split
  ·rename_i c d;rw[if_neg c,if_pos d]at h;exact absurd rfl h
  ·omega
section
variable {sh:Nat→Int}{own:List Int}{vs:List Nat}{look:Nat→Int}
 (hl:∀v,v<26→look v=match vs.findIdx? fun(x:Nat)=>x==v with | some i=>own.getD i 0 | none=>sh v)
 (hr:∀v,v<26→inRange (look v)=true)
include hl hr
theorem wk_expr:∀(e:Expr),EOk e→∀(r:List Ii) (st:List Int),(wk sh own (exprI vs e++r) st=match Expr.eval look e with | .ok z=>wk sh own r (z::st) | .error k=>.error k)∧(∀z,Expr.eval look e=.ok z→inRange z=true)∧(∀k,Expr.eval look e=.error k→1≤k∧k≤5)
 |.num n,ok,r,st=>⟨rfl,fun z h=>by cases h;exact ok,(fun k h=>by cases h)⟩
 |.var v,ok,r,st=>by
  refine⟨?_,fun z h=>by cases h;exact hr v ok,(fun k h=>by cases h)⟩
  show wk sh own (varI vs v 4 2::r) st=wk sh own r (look v::st)
  rw[hl v ok]
  unfold varI
  cases vs.findIdx? fun(x:Nat)=>x==v with
  |none=>rfl
  |some i=>rfl
 |.bin o a b,ok,r,st=>by
  obtain⟨ho,oa,ob⟩:=ok
  have A:=wk_expr a oa (exprI vs b++((6+o,[])::r)) st
  have e0:exprI vs (.bin o a b)++r=exprI vs a++(exprI vs b++((6+o,[])::r)):=by
   show(exprI vs a++(exprI vs b++[(6+o,[])]))++r=_
   rw[List.append_assoc,List.append_assoc];rfl
  rw[e0,A.1]
  cases ha:Expr.eval look a with
  |error k=>
   have:Expr.eval look (.bin o a b)=.error k:=by
    show(match Expr.eval look a,Expr.eval look b with
     |.error k,_=>.error k
     |.ok _,.error k=>.error k
     |.ok x,.ok y=>arith o x y:Except Nat Int)=_
    rw[ha]
   rw[this]
   exact⟨rfl,(fun z h=>by cases h),fun k' h=>by cases h;exact A.2.2 _ ha⟩
  |ok x=>
   have Bb:=wk_expr b ob ((6+o,[])::r) (x::st)
   dsimp only
   rw[Bb.1]
   cases hb:Expr.eval look b with
   |error k=>
    have:Expr.eval look (.bin o a b)=.error k:=by
     show(match Expr.eval look a,Expr.eval look b with
      |.error k,_=>.error k
      |.ok _,.error k=>.error k
      |.ok x,.ok y=>arith o x y:Except Nat Int)=_
     rw[ha,hb]
    rw[this]
    exact⟨rfl,(fun z h=>by cases h),fun k' h=>by cases h;exact Bb.2.2 _ hb⟩
   |ok y=>
    have:Expr.eval look (.bin o a b)=arith o x y:=by
     show(match Expr.eval look a,Expr.eval look b with
      |.error k,_=>.error k
      |.ok _,.error k=>.error k
      |.ok x,.ok y=>arith o x y:Except Nat Int)=_
     rw[ha,hb]
    rw[this]
    rw[arith_eq ho (A.2.1 x ha) (Bb.2.1 y hb)]
    have ew:wk sh own ((6+o,[])::r) (y::x::st)=if stdP o x y≠7 then .error (stdP o x y)else wk sh own r (resP o x y::st):=by
     have e6:6+o-6=o:=by omega
     rw[wk]
     rw[if_neg (show¬6+o=1 by omega),if_neg (show¬6+o=2 by omega),if_neg (show¬6+o=4 by omega),if_neg (show¬6+o=13 by omega),e6]
     rfl
    dsimp only
    rw[ew]
    by_cases c:stdP o x y=7
    ·rw[if_pos c,if_neg (by simpa using c)]
     exact⟨rfl,fun z h=>by cases h;exact std7 c,(fun k h=>by cases h)⟩
    ·rw[if_neg c,if_pos c]
     exact⟨rfl,(fun z h=>by cases h),fun k h=>by cases h;exact std_k c⟩
 |.not a,ok,r,st=>by
  have A:=wk_expr a ok ((13,[])::r) st
  have e0:exprI vs (.not a)++r=exprI vs a++((13,[])::r):=by
   show(exprI vs a++[(13,[])])++r=_
   rw[List.append_assoc];rfl
  rw[e0,A.1]
  cases ha:Expr.eval look a with
  |error k=>
   have:Expr.eval look (.not a)=.error k:=by
    show(match Expr.eval look a with
     |.error k=>.error k
     |.ok x=>.ok (if x=0 then 1 else 0):Except Nat Int)=_
    rw[ha]
   rw[this]
   exact⟨rfl,(fun z h=>by cases h),fun k' h=>by cases h;exact A.2.2 _ ha⟩
  |ok x=>
   have:Expr.eval look (.not a)=.ok (if x=0 then 1 else 0):=by
    show(match Expr.eval look a with
     |.error k=>.error k
     |.ok x=>.ok (if x=0 then 1 else 0):Except Nat Int)=_
    rw[ha]
   rw[this]
   exact⟨rfl,fun z h=>by cases h;split<;>rfl,(fun k' h=>by cases h)⟩
theorem wk_all:∀(es:List Expr),(∀e∈es,EOk e)→∀(st:List Int),(wk sh own (es.flatMap (exprI vs)) st=match evalAll look es with | .ok zs=>.ok (zs.reverse++st) | .error k=>.error k)∧(∀zs,evalAll look es=.ok zs→zs.length=es.length∧∀z∈zs,inRange z=true)∧(∀k,evalAll look es=.error k→1≤k∧k≤5)
 |[],ok,st=>⟨rfl,fun zs h=>by cases h;exact⟨rfl,fun z h=>nomatch h⟩,(fun k h=>by cases h)⟩
 |e::r,ok,st=>by
  have A:=wk_expr hl hr e (ok e (by simp)) (r.flatMap (exprI vs)) st
  rw[List.flatMap_cons,A.1]
  have ee:evalAll look (e::r)=match Expr.eval look e,evalAll look r with
   |.error k,_=>.error k
   |.ok _,.error k=>.error k
   |.ok x,.ok l=>.ok (x::l):=rfl
  cases ha:Expr.eval look e with
  |error k=>
   rw[ha]at ee
   rw[ee]
   exact⟨rfl,(fun z h=>by cases h),fun k' h=>by cases h;exact A.2.2 _ ha⟩
  |ok x=>
   have Bb:=wk_all r (fun e he=>ok e (List.mem_cons_of_mem _ he)) (x::st)
   dsimp only
   rw[Bb.1]
   cases hb:evalAll look r with
   |error k=>
    rw[ha,hb]at ee
    rw[ee]
    exact⟨rfl,(fun z h=>by cases h),fun k' h=>by cases h;exact Bb.2.2 _ hb⟩
   |ok zs=>
    rw[ha,hb]at ee
    rw[ee]
    refine⟨by simp,fun l h=>?_,(fun k h=>by cases h)⟩
    cases h
    obtain⟨b1,b2⟩:=Bb.2.1 zs hb
    refine⟨by simp[b1],fun z hz=>?_⟩
    rcases List.mem_cons.mp hz with c | c
    ·subst c;exact A.2.1 _ ha
    ·exact b2 z c
end
end Mn
namespace Mn
open Ls
open Ck hiding Bytes
open Cc Ar
def Ch(P:List L):Nat→List Frame→Prop
 |k,[]=>Cx P k none
 |k,f::fs=>Cx P k (some (f.locals.map (·.1)))∧f.back≤P.length∧Ch P f.back fs
structure RI (P:List L) (s:S):Prop where
 ch:Ch P s.pc s.frames
 pc:s.pc≤P.length
 vr:∀v,inRange (s.vars v)=true
 fr:∀f∈s.frames,∀x∈f.locals,inRange x.2=true
 fl:s.frames.length≤200
theorem ch_pc{P:List L}{k t:Nat}{fs:List Frame}(h:∀c,Cx P k c→Cx P t c)(g:Ch P k fs):Ch P t fs:=by
 cases fs with
 |nil=>exact h _ g
 |cons f r=>exact⟨h _ g.1,g.2⟩
theorem find_fst(d:Int)(v:Nat):∀(xs:List (Nat×Int)),(match xs.find? fun x=>x.1==v with | some x=>x.2 | none=>d)=match (xs.map (·.1)).findIdx? fun(x:Nat)=>x==v with | some i=>(xs.map (·.2)).getD i 0 | none=>d
 |[]=>rfl
 |x::r=>by
  rw[List.find?_cons,List.map_cons,List.findIdx?_cons]
  by_cases c:(x.1==v)=true
  ·rw[c];rfl
  ·have c':(x.1==v)=false:=by simpa using c
   rw[c']
   dsimp only
   rw[find_fst d v r]
   rw[if_neg (by simp)]
   cases (r.map (·.1)).findIdx? fun(x:Nat)=>x==v with
   |none=>rfl
   |some i=>rfl
theorem look_eq{P:List L}(B:Bl P){s:S}(I:RI P s){l0:L}(hl:P[s.pc]? =some l0)(he:l0≠.ends)(v:Nat):s.look v=match (inProc P s.pc).findIdx? fun(x:Nat)=>x==v with | some i=>(ownS s).getD i 0 | none=>s.vars v:=by
 have hc:=I.ch
 unfold S.look ownS
 cases hf:s.frames with
 |nil=>
  rw[hf]at hc
  rw[cx_out B hc]
  rfl
 |cons f fs=>
  rw[hf]at hc
  rw[cx_in B hl he hc.1]
  dsimp only
  rw[←find_fst]
  cases f.locals.find? fun x=>x.1==v<;>rfl
theorem look_in{P:List L}{s:S}(I:RI P s)(v:Nat):inRange (s.look v)=true:=by
 unfold S.look
 cases hf:s.frames with
 |nil=>exact I.vr v
 |cons f fs=>
  dsimp only
  cases e:f.locals.find? fun x=>x.1==v with
  |none=>exact I.vr v
  |some x=>exact I.fr f (by rw[hf];simp) x (List.mem_of_find?_eq_some e)
theorem distinct_nd:∀{vs:List Nat},distinct vs=true→vs.Nodup
 |[],_=>List.nodup_nil
 |x::r,h=>by
  unfold distinct at h
  simp only[Bool.and_eq_true,Bool.not_eq_true']at h
  refine List.nodup_cons.mpr ⟨fun z=>?_,distinct_nd h.2⟩
  have:=h.1
  rw[List.contains_iff_mem.mpr z]at this
  cases this
theorem upd_loc(v:Nat)(z:Int):∀(xs:List (Nat×Int)) (i:Nat),(xs.map (·.1)).Nodup→(xs.map (·.1)).findIdx? (fun(x:Nat)=>x==v)=some i→
  (xs.any fun x=>x.1==v)=true∧(xs.map fun x=>if x.1=v then(v,z)else x).map (·.1)=xs.map (·.1)∧(xs.map fun x=>if x.1=v then(v,z)else x).map (·.2)=(xs.map (·.2)).set i z∧i<xs.length
 |[],i,_,h=>by cases h
 |x::r,i,nd,h=>by
  rw[List.map_cons,List.findIdx?_cons]at h
  obtain⟨n1,n2⟩:=List.nodup_cons.mp nd
  by_cases c:x.1=v
  ·have hb:(x.1==v)=true:=by simpa using c
   rw[if_pos hb]at h
   cases h
   have hr:∀y∈r,(if y.1=v then(v,z)else y)=y:=fun y hy=>if_neg fun e=>n1 (by show x.1∈_;rw[c,←e];exact List.mem_map.mpr ⟨y,hy,rfl⟩)
   have hr':(r.map fun x=>if x.1=v then(v,z)else x)=r:=by
    conv=>rhs;rw[←List.map_id r]
    exact List.map_congr_left fun y hy=>hr y hy
   refine⟨by rw[List.any_cons,hb];rfl,?_,?_,by simp⟩
   ·rw[List.map_cons,if_pos c,hr',List.map_cons,List.map_cons,c]
   ·rw[List.map_cons,if_pos c,hr',List.map_cons,List.map_cons];rfl
  ·have hb:¬(x.1==v)=true:=by simpa using c
   rw[if_neg hb]at h
   cases e:(r.map (·.1)).findIdx? fun(x:Nat)=>x==v with
   |none=>rw[e]at h;cases h
   |some j=>
    rw[e]at h
    cases h
    obtain⟨h1,h2,h3,h4⟩:=upd_loc v z r j n2 e
    refine⟨by rw[List.any_cons,h1,Bool.or_true],?_,?_,by simp;exact h4⟩
    ·rw[List.map_cons,if_neg c,List.map_cons,h2,List.map_cons]
    ·rw[List.map_cons,if_neg c,List.map_cons,h3,List.map_cons];rfl
theorem no_loc(v:Nat):∀(xs:List (Nat×Int)),(xs.map (·.1)).findIdx? (fun(x:Nat)=>x==v)=none→(xs.any fun x=>x.1==v)=false
 |[],_=>rfl
 |x::r,h=>by
  rw[List.map_cons,List.findIdx?_cons]at h
  by_cases c:(x.1==v)=true
  ·rw[if_pos c]at h;cases h
  ·rw[if_neg c]at h
   have c':(x.1==v)=false:=by simpa using c
   rw[List.any_cons,c',Bool.false_or]
   refine no_loc v r ?_
   cases e:(r.map (·.1)).findIdx? fun(x:Nat)=>x==v with
   |none=>rfl
   |some j=>rw[e]at h;cases h
inductive Gv (s:S) (vs:List Nat) (v:Nat) (z:Int):S→Prop
 |own {f:Frame} {fs:List Frame} {i:Nat} {lo:List (Nat×Int)}:s.frames=f::fs→varI vs v 5 3=(5,[(i:Int)])→i<f.locals.length→lo.map (·.1)=f.locals.map (·.1)→lo.map (·.2)=(f.locals.map (·.2)).set i z→Gv s vs v z { s with frames:=⟨f.back,lo⟩::fs }
 |all:varI vs v 5 3=(3,[(v:Int)])→Gv s vs v z { s with vars:=Ls.set s.vars v z }
theorem gives{P:List L}(B:Bl P)(hd:∀(j p:Nat) (vs:List Nat),P[j]? =some (L.proc p vs)→vs.Nodup){s:S}(I:RI P s){l0:L}(hl:P[s.pc]? =some l0)(he:l0≠.ends)(v:Nat)(z:Int)(k:Nat):Gv { s with pc:=k } (inProc P s.pc) v z (({ s with pc:=k }:S).give v z):=by
 have hc:=I.ch
 unfold S.give
 cases hf:s.frames with
 |nil=>
  rw[hf]at hc
  rw[cx_out B hc]
  exact .all rfl
 |cons f fs=>
  rw[hf]at hc
  rw[cx_in B hl he hc.1]
  have nd:(f.locals.map (·.1)).Nodup:=by
   obtain⟨j,p,hj,_⟩:=hc.1
   exact hd j p _ hj
  dsimp only
  cases e:(f.locals.map (·.1)).findIdx? fun(x:Nat)=>x==v with
  |none=>
   rw[no_loc v _ e,if_neg (by simp)]
   refine .all ?_
   unfold varI
   rw[e]
  |some i=>
   obtain⟨h1,h2,h3,h4⟩:=upd_loc v z f.locals i nd e
   rw[h1,if_pos rfl]
   refine .own (f:=f) (fs:=fs) (i:=i) rfl ?_ h4 h2 h3
   unfold varI
   rw[e]
theorem gv_ri{P:List L}{s t:S}{vs:List Nat}{v:Nat}{z:Int}(I:RI P s)(g:Gv s vs v z t)(hz:inRange z=true):RI P t:=by
 have hch:=I.ch
 cases g with
 |own hf he hi h1 h2=>
  rename_i f fs i lo
  rw[hf]at hch
  refine⟨?_,I.pc,I.vr,?_,?_⟩
  ·refine⟨?_,hch.2⟩
   show Cx P s.pc (some (lo.map (·.1)))
   rw[h1]
   exact hch.1
  ·intro g hg x hx
   rcases List.mem_cons.mp hg with c | c
   ·subst c
    have hx2:x.2∈lo.map (·.2):=List.mem_map.mpr ⟨x,hx,rfl⟩
    rw[h2]at hx2
    rcases List.mem_or_eq_of_mem_set hx2 with c | c
    ·obtain⟨y,hy,e⟩:=List.mem_map.mp c
     rw[←e]
     exact I.fr f (by rw[hf];simp) y hy
    ·rw[c];exact hz
   ·exact I.fr g (by rw[hf];exact List.mem_cons_of_mem _ c) x hx
  ·have:=I.fl
   rw[hf]at this
   exact this
 |all he=>
  refine⟨hch,I.pc,fun w=>?_,I.fr,I.fl⟩
  show inRange (Ls.set s.vars v z w)=true
  unfold Ls.set
  split
  ·exact hz
  ·exact I.vr w
def nextS(P:List L)(l0:L)(s:S)(q out r:List Int):S×List Int×List Int:=match l0 with
 |.set v _=>((s.to (s.pc+1)).give v (r.headD 0),q,out)
 |.get v=>((s.to (s.pc+1)).give v (q.headD 0),q.tail,out)
 |.put _=>(s.to (s.pc+1),q,out++[r.headD 0])
 |.cond _=>(if r.headD 0=0 then s.to (elseOf P s.pc+1)else s.to (s.pc+1),q,out)
 |.loop _=>(if r.headD 0=0 then s.to (close P s.pc+1)else s.to (s.pc+1),q,out)
 |.els=>(s.to (close P s.pc+1),q,out)
 |.proc _ _=>(s.to (close P s.pc+1),q,out)
 |.call p _=>(match procAt p 0 P with
  |some x=>({ s with pc:=x.1+1,frames:=⟨s.pc+1,x.2.zip r⟩::s.frames },q,out)
  |none=>(s,q,out))
 |.ends=>(match opener P s.pc with
  |some o=>(match P[o]? with
   |some (.loop _)=>(s.to o,q,out)
   |some (.proc _ _)=>(match s.frames with
    |f::fs=>({ s with pc:=f.back,frames:=fs },q,out)
    |[]=>(s,q,out))
   |_=>(s.to (s.pc+1),q,out))
  |none=>(s,q,out))
 |_=>(s.to (s.pc+1),q,out)
def stdL(l:Ln)(s:S)(q:List Int):Nat:=if l.kind=.of .stop then 0 else match wk s.vars (ownS s) l.steps []with
 |.error k=>k
 |.ok _=>if l.kind=.of .do_∧s.frames.length=200 then 3 else if l.kind=.of .get∧q=[]then 6 else 7
def resL(l:Ln)(s:S):List Int:=match wk s.vars (ownS s) l.steps []with
 |.error _=>[]
 |.ok st=>st.reverse
inductive Ag (s:S) (q out:List Int):Nat→Act S→S×List Int×List Int→Prop
 |done {t:S×List Int×List Int}:Ag s q out 0 .done t
 |fault {k:Nat} {t:S×List Int×List Int} (h:1≤k∧k≤5):Ag s q out k (.fault k (s.pc+1)) t
 |wait {f:Int→S} {t:S×List Int×List Int} (h:q=[]):Ag s q out 6 (.get f) t
 |go {t:S}:Ag s q out 7 (.go t) (t,q,out)
 |put {v:Int} {t:S}:Ag s q out 7 (.put v t) (t,q,out++[v])
 |got {f:Int→S} {a:Int} {r:List Int} (h:q=a::r):Ag s q out 7 (.get f) (f a,r,out)
theorem ag{P:List L}(B:Bl P){s:S}{q out:List Int}(I:RI P s){l0:L}{l:Ln}(hP:P[s.pc]? =some l0)(hl:Lv P s.pc l0 l):Ag s q out (stdL l s q) (sstep P s) (nextS P l0 s q out (resL l s)):=by
 have hwk:∀e,l0≠.ends→EOk e→l.steps=exprI (inProc P s.pc) e→wk s.vars (ownS s) l.steps []=(match Expr.eval s.look e with | .ok z=>.ok [z] | .error k=>.error k)∧∀k,Expr.eval s.look e=.error k→1≤k∧k≤5:=fun e ne ok hs=>by
  have A:=wk_expr (sh:=s.vars) (own:=ownS s) (vs:=inProc P s.pc) (look:=s.look) (fun v _=>look_eq B I hP ne v) (fun v _=>look_in I v) e ok [] []
  rw[List.append_nil]at A
  rw[hs]
  exact⟨A.1,A.2.2⟩
 unfold sstep
 rw[hP]
 cases hl with
 |skip hk hs ht=>
  unfold stdL
  rw[hk,hs,if_neg (by decide)]
  exact .go
 |stop hk=>
  unfold stdL
  rw[hk,if_pos rfl]
  exact .done
 |set hk hs hso ht ok hv=>
  rename_i v e
  obtain⟨h1,h2⟩:=hwk e (fun z=>nomatch z) ok hs
  unfold stdL resL
  rw[hk,if_neg (by decide),h1]
  dsimp only
  cases ev:Expr.eval s.look e with
  |error k=>exact .fault (h2 k ev)
  |ok z=>exact .go
 |get hk hs hso ht hv=>
  rename_i v
  unfold stdL
  rw[hk,if_neg (by decide),hs]
  show Ag s q out (if KE.of Kd.get=.of .do_∧s.frames.length=200 then 3 else if KE.of Kd.get=.of .get∧q=[]then 6 else 7) _ _
  rw[if_neg (fun z=>nomatch z.1)]
  cases q with
  |nil=>rw[if_pos ⟨rfl,rfl⟩];exact .wait rfl
  |cons a r=>rw[if_neg (fun z=>nomatch z.2)];exact .got (f:=fun z=>(s.to (s.pc+1)).give v z) rfl
 |put hk hs ht ok=>
  rename_i e
  obtain⟨h1,h2⟩:=hwk e (fun z=>nomatch z) ok hs
  unfold stdL resL
  rw[hk,if_neg (by decide),h1]
  dsimp only
  cases ev:Expr.eval s.look e with
  |error k=>exact .fault (h2 k ev)
  |ok z=>exact .put
 |cond hk hs ht ok=>
  rename_i e
  obtain⟨h1,h2⟩:=hwk e (fun z=>nomatch z) ok hs
  unfold stdL resL
  rw[hk,if_neg (by decide),h1]
  dsimp only
  cases ev:Expr.eval s.look e with
  |error k=>exact .fault (h2 k ev)
  |ok z=>
   show Ag s q out 7 (if z=0 then .go (s.to (elseOf P s.pc+1))else .go (s.to (s.pc+1))) (if z=0 then s.to (elseOf P s.pc+1)else s.to (s.pc+1),q,out)
   by_cases c:z=0
   ·rw[if_pos c,if_pos c];exact .go
   ·rw[if_neg c,if_neg c];exact .go
 |loop hk hs ht ok=>
  rename_i e
  obtain⟨h1,h2⟩:=hwk e (fun z=>nomatch z) ok hs
  unfold stdL resL
  rw[hk,if_neg (by decide),h1]
  dsimp only
  cases ev:Expr.eval s.look e with
  |error k=>exact .fault (h2 k ev)
  |ok z=>
   show Ag s q out 7 (if z=0 then .go (s.to (close P s.pc+1))else .go (s.to (s.pc+1))) (if z=0 then s.to (close P s.pc+1)else s.to (s.pc+1),q,out)
   by_cases c:z=0
   ·rw[if_pos c,if_pos c];exact .go
   ·rw[if_neg c,if_neg c];exact .go
 |els hk hs ht=>
  unfold stdL
  rw[hk,hs,if_neg (by decide)]
  exact .go
 |proc hk hs ht=>
  unfold stdL
  rw[hk,hs,if_neg (by decide)]
  exact .go
 |call hk hs ht hp hn ok=>
  rename_i p es x
  have A:=wk_all (sh:=s.vars) (own:=ownS s) (vs:=inProc P s.pc) (look:=s.look) (fun v _=>look_eq B I hP (fun z=>nomatch z) v) (fun v _=>look_in I v) es ok []
  unfold stdL resL
  rw[hk,if_neg (by decide),hs,A.1]
  dsimp only[nextS]
  rw[hp]
  cases ev:evalAll s.look es with
  |error k=>exact .fault (A.2.2 k ev)
  |ok zs=>
   dsimp only
   have hfl:(CALLS≤s.frames.length)↔s.frames.length=200:=by have:=I.fl;unfold CALLS;omega
   by_cases c:s.frames.length=200
   ·rw[if_pos ⟨rfl,c⟩,if_pos (hfl.mpr c)]
    exact .fault ⟨by decide,by decide⟩
   ·rw[if_neg (fun z=>c z.2),if_neg (fun z=>nomatch z.1),if_neg (fun z=>c (hfl.mp z)),List.append_nil,List.reverse_reverse]
    exact .go
 |endW hk hs ht ho hlo=>
  unfold stdL
  dsimp only[nextS]
  rw[hk,hs,if_neg (by decide),ho]
  dsimp only
  rw[hlo]
  exact .go
 |endP hk hs ho hlo=>
  rename_i o p vs
  unfold stdL
  dsimp only[nextS]
  rw[hk,hs,if_neg (by decide),ho]
  dsimp only
  rw[hlo]
  dsimp only
  have hc:=I.ch
  cases hf:s.frames with
  |nil=>
   rw[hf]at hc
   exact absurd rfl (cx_ret B hP ho hlo hc)
  |cons f fs=>exact .go
 |endC hk hs ht ho hlo=>
  unfold stdL
  dsimp only[nextS]
  rw[hk,hs,if_neg (by decide),ho]
  dsimp only
  rw[hlo]
  exact .go
end Mn
namespace Mn
open Ls
open Ck hiding Bytes
open Cc Ar
theorem ri_to{P:List L}{s:S}{t:Nat}(I:RI P s)(ht:t≤P.length)(h:∀c,Cx P s.pc c→Cx P t c):RI P (s.to t):=⟨ch_pc h I.ch,ht,I.vr,I.fr,I.fl⟩
theorem zip_fst{α β:Type}:∀(a:List α) (b:List β),a.length=b.length→(a.zip b).map (·.1)=a∧(a.zip b).map (·.2)=b
 |[],[],_=>⟨rfl,rfl⟩
 |[],_::_,h=>by cases h
 |_::_,[],h=>by cases h
 |x::a,y::b,h=>by
  obtain⟨h1,h2⟩:=zip_fst a b (by simpa using h)
  exact⟨by rw[List.zip_cons_cons,List.map_cons,h1],by rw[List.zip_cons_cons,List.map_cons,h2]⟩
theorem res_one{P:List L}(B:Bl P){s:S}{q:List Int}(I:RI P s){l0:L}{l:Ln}{e:Expr}(hP:P[s.pc]? =some l0)(ne:l0≠.ends)(ok:EOk e)(hs:l.steps=exprI (inProc P s.pc) e)(h7:stdL l s q=7)(hk:l.kind≠.of .stop):∃z,resL l s=[z]∧inRange z=true:=by
 have A:=wk_expr (sh:=s.vars) (own:=ownS s) (vs:=inProc P s.pc) (look:=s.look) (fun v _=>look_eq B I hP ne v) (fun v _=>look_in I v) e ok [] []
 rw[List.append_nil]at A
 unfold stdL at h7
 rw[if_neg hk,hs,A.1]at h7
 unfold resL
 rw[hs,A.1]
 cases ev:Expr.eval s.look e with
 |error k=>
  rw[ev]at h7
  have:=A.2.2 k ev
  dsimp only at h7
  omega
 |ok z=>exact⟨z,rfl,A.2.1 z ev⟩
theorem res_all{P:List L}(B:Bl P){s:S}{q:List Int}(I:RI P s){l0:L}{l:Ln}{es:List Expr}(hP:P[s.pc]? =some l0)(ne:l0≠.ends)(ok:∀e∈es,EOk e)(hs:l.steps=es.flatMap (exprI (inProc P s.pc)))(h7:stdL l s q=7)(hk:l.kind=.of .do_):(resL l s).length=es.length∧(∀z∈resL l s,inRange z=true)∧s.frames.length≠200:=by
 have A:=wk_all (sh:=s.vars) (own:=ownS s) (vs:=inProc P s.pc) (look:=s.look) (fun v _=>look_eq B I hP ne v) (fun v _=>look_in I v) es ok []
 unfold stdL at h7
 rw[hk,if_neg (by decide),hs,A.1]at h7
 unfold resL
 rw[hs,A.1]
 cases ev:evalAll s.look es with
 |error k=>
  rw[ev]at h7
  have:=A.2.2 k ev
  dsimp only at h7
  omega
 |ok zs=>
  rw[ev]at h7
  dsimp only at h7 ⊢
  obtain⟨h1,h2⟩:=A.2.1 zs ev
  rw[List.append_nil,List.reverse_reverse]
  refine⟨h1,h2,fun c=>?_⟩
  rw[if_pos ⟨rfl,c⟩]at h7
  cases h7
theorem else_le(P:List L)(i:Nat):i<elseOf P i+1∧elseOf P i+1≤close P i+1:=by
 unfold elseOf close
 have:=elseIn_le (P.drop (i+1)) 0
 omega
theorem ri_next{P:List L}(B:Bl P)(hd:∀(j p:Nat) (vs:List Nat),P[j]? =some (L.proc p vs)→vs.Nodup){s:S}{q out:List Int}(I:RI P s)(hq:∀z∈q,inRange z=true){l0:L}{l:Ln}(hP:P[s.pc]? =some l0)(hl:Lv P s.pc l0 l)(h7:stdL l s q=7):
  RI P (nextS P l0 s q out (resL l s)).1∧(∀z∈(nextS P l0 s q out (resL l s)).2.1,inRange z=true):=by
 have hlt:s.pc<P.length:=(List.getElem?_eq_some_iff.mp hP).1
 cases hl with
 |skip hk hs ht=>exact⟨ri_to I hlt (fun c h=>cx_next B hP (fun p vs z=>nomatch z) (fun z=>nomatch z) h),hq⟩
 |stop hk=>unfold stdL at h7;rw[hk,if_pos rfl]at h7;cases h7
 |set hk hs hso ht ok hv=>
  rename_i v e
  obtain⟨z,hz,hzr⟩:=res_one B I hP (fun z=>nomatch z) ok hs h7 (by rw[hk];decide)
  refine⟨?_,hq⟩
  rw[hz]
  exact gv_ri (ri_to I hlt (fun c h=>cx_next B hP (fun p vs z=>nomatch z) (fun z=>nomatch z) h)) (gives B hd I hP (fun z=>nomatch z) v z (s.pc+1)) hzr
 |get hk hs hso ht hv=>
  rename_i v
  cases q with
  |nil=>
   unfold stdL at h7
   rw[hk,if_neg (by decide),hs]at h7
   change (if KE.of Kd.get=.of .do_∧s.frames.length=200 then 3 else if KE.of Kd.get=.of .get∧([]:List Int)=[]then 6 else 7)=7 at h7
   rw[if_neg (fun z=>nomatch z.1),if_pos ⟨rfl,rfl⟩]at h7
   cases h7
  |cons a r=>
   exact⟨gv_ri (ri_to I hlt (fun c h=>cx_next B hP (fun p vs z=>nomatch z) (fun z=>nomatch z) h)) (gives B hd I hP (fun z=>nomatch z) v a (s.pc+1)) (hq a (by simp)),fun z hz=>hq z (List.mem_cons_of_mem _ hz)⟩
 |put hk hs ht ok=>exact⟨ri_to I hlt (fun c h=>cx_next B hP (fun p vs z=>nomatch z) (fun z=>nomatch z) h),hq⟩
 |cond hk hs ht ok=>
  rename_i e
  refine⟨?_,hq⟩
  dsimp only[nextS]
  split
  ·have h1:=(B.shut s.pc _ hP rfl).1
   have h2:=else_le P s.pc
   exact ri_to I (by omega) (fun c h=>cx_jump B hP rfl h2.1 h2.2 (fun p vs z=>nomatch z) h)
  ·exact ri_to I hlt (fun c h=>cx_next B hP (fun p vs z=>nomatch z) (fun z=>nomatch z) h)
 |loop hk hs ht ok=>
  rename_i e
  refine⟨?_,hq⟩
  dsimp only[nextS]
  split
  ·have h1:=(B.shut s.pc _ hP rfl).1
   have h2:=close_gt P s.pc
   exact ri_to I (by omega) (fun c h=>cx_jump B hP rfl (by omega) (Nat.le_refl _) (fun p vs z=>nomatch z) h)
  ·exact ri_to I hlt (fun c h=>cx_next B hP (fun p vs z=>nomatch z) (fun z=>nomatch z) h)
 |els hk hs ht=>
  obtain⟨_,_,_,_,_,_,h4⟩:=B.els s.pc hP
  exact⟨ri_to I (by omega) (fun c h=>cx_else B hP h),hq⟩
 |proc hk hs ht=>
  have h1:=(B.shut s.pc _ hP rfl).1
  have h2:=close_gt P s.pc
  exact⟨ri_to I (by omega) (fun c h=>cx_jump B hP rfl (by omega) (Nat.le_refl _) (fun p vs _=>rfl) h),hq⟩
 |call hk hs ht hp hn ok=>
  rename_i p es x
  obtain⟨h1,h2,h3⟩:=res_all B I hP (fun z=>nomatch z) ok hs h7 hk
  obtain⟨_,hx⟩:=procAt_is P 0 p x hp
  rw[Nat.sub_zero]at hx
  have hz:=zip_fst x.2 (resL l s) (by omega)
  refine⟨?_,?_⟩
  ·dsimp only[nextS]
   rw[hp]
   refine⟨⟨?_,hlt,ch_pc (fun c h=>cx_next B hP (fun p vs z=>nomatch z) (fun z=>nomatch z) h) I.ch⟩,(List.getElem?_eq_some_iff.mp hx).1,I.vr,?_,?_⟩
   ·show Cx P (x.1+1) (some ((x.2.zip (resL l s)).map (·.1)))
    rw[hz.1]
    exact cx_call B hx
   ·intro f hf y hy
    rcases List.mem_cons.mp hf with c | c
    ·subst c
     exact h2 _ (by have:y.2∈(x.2.zip (resL l s)).map (·.2):=List.mem_map.mpr ⟨y,hy,rfl⟩;rw[hz.2]at this;exact this)
    ·exact I.fr f c y hy
   ·show(_::s.frames).length≤200
    have:=I.fl
    rw[List.length_cons];omega
  ·dsimp only[nextS]
   rw[hp]
   exact hq
 |endW hk hs ht ho hlo=>
  rename_i o e
  refine⟨?_,?_⟩
  ·dsimp only[nextS]
   rw[ho]
   dsimp only
   rw[hlo]
   exact ri_to I (Nat.le_of_lt (List.getElem?_eq_some_iff.mp hlo).1) (fun c h=>cx_back B hP ho hlo (fun p vs z=>nomatch z) h)
  ·dsimp only[nextS]
   rw[ho]
   dsimp only
   rw[hlo]
   exact hq
 |endP hk hs ho hlo=>
  rename_i o p vs
  have hc:=I.ch
  cases hf:s.frames with
  |nil=>
   rw[hf]at hc
   exact absurd rfl (cx_ret B hP ho hlo hc)
  |cons f fs=>
   rw[hf]at hc
   have e:nextS P .ends s q out (resL l s)=({ s with pc:=f.back,frames:=fs },q,out):=by
    dsimp only[nextS]
    rw[ho]
    dsimp only
    rw[hlo]
    dsimp only
    rw[hf]
   rw[e]
   refine⟨⟨hc.2.2,hc.2.1,I.vr,fun g hg=>I.fr g (by rw[hf];exact List.mem_cons_of_mem _ hg),?_⟩,hq⟩
   have:=I.fl
   rw[hf,List.length_cons]at this
   show fs.length≤200
   omega
 |endC hk hs ht ho hlo=>
  rename_i o e
  refine⟨?_,?_⟩
  ·dsimp only[nextS]
   rw[ho]
   dsimp only
   rw[hlo]
   exact ri_to I hlt (fun c h=>cx_next B hP (fun p vs z=>nomatch z) (fun _ o' p vs h1 h2=>by rw[ho]at h1;cases h1;rw[hlo]at h2;cases h2) h)
  ·dsimp only[nextS]
   rw[ho]
   dsimp only
   rw[hlo]
   exact hq
structure Txt (P:List L) (ls:List Ln):Prop where
 bl:Bl P
 nd:∀(j p:Nat) (vs:List Nat),P[j]? =some (L.proc p vs)→vs.Nodup
 len:ls.length=P.length
 view:∀(i:Nat) (l:Ln),ls[i]? =some l→∃l0,P[i]? =some l0∧Lv P i l0 l
theorem txt_of{Ws:List (List Bytes)}(hv:scanP (toldP [] Ws) 1 [] [] Ws=0)(hw:∀ws∈Ws,ws.length≤16500):Txt (Ws.map lineW) (progP Ws):=by
 refine⟨bl_of hv,fun j p vs h=>?_,?_,fun i l h=>view hv hw h⟩
 ·rw[List.getElem?_map]at h
  obtain⟨ws,_,e⟩:=Option.map_eq_some_iff.mp h
  exact distinct_nd (proc_distinct e)
 ·rw[(prog_lines hv).1,List.length_map]
def stdS(ls:List Ln)(s:S)(q:List Int):Nat:=match ls[s.pc]? with
 |none=>0
 |some l=>stdL l s q
def rlP(P:List L)(ls:List Ln):Nat→S×List Int×List Int→S×List Int×List Int
 |0,t=>t
 |k+1,t=>match ls[t.1.pc]? with
  |none=>t
  |some l=>if stdL l t.1 t.2.1≠7 then t else rlP P ls k (nextS P (P.getD t.1.pc .wrong) t.1 t.2.1 t.2.2 (resL l t.1))
theorem run_eq{P:List L}{ls:List Ln}(T:Txt P ls):∀(k:Nat) (s:S) (q out:List Int),RI P s→(∀z∈q,inRange z=true)→
  let r:=goText P k s q
  rlP P ls k (s,q,out)=(r.1,r.2.1,out++r.2.2)∧RI P r.1∧(∀z∈r.2.1,inRange z=true)∧r.2.2.length≤k
 |0,s,q,out,I,hq=>⟨by show(s,q,out)=(s,q,out++[]);rw[List.append_nil],I,hq,Nat.le_refl _⟩
 |k+1,s,q,out,I,hq=>by
  have stay:∀r,r=(s,q,([]:List Int))→(s,q,out)=(r.1,r.2.1,out++r.2.2)∧RI P r.1∧(∀z∈r.2.1,inRange z=true)∧r.2.2.length≤k+1:=fun r e=>by
   subst e
   exact⟨by rw[List.append_nil],I,hq,Nat.zero_le _⟩
  unfold rlP goText
  dsimp only
  cases hl:ls[s.pc]? with
  |none=>
   have hn:P[s.pc]? =none:=by
    rw[List.getElem?_eq_none_iff]at hl ⊢
    rw[←T.len];exact hl
   have e:sstep P s=.done:=by unfold sstep;rw[hn]
   rw[e]
   exact stay _ rfl
  |some l=>
   obtain⟨l0,hP,lv⟩:=T.view _ _ hl
   have A:=ag T.bl (q:=q) (out:=out) I hP lv
   have hri:=fun h7=>ri_next T.bl T.nd (out:=out) I hq hP lv h7
   dsimp only
   rw[getD_at hP]
   revert A hri
   generalize stdL l s q=st
   generalize nextS P l0 s q out (resL l s)=t
   generalize sstep P s=a
   intro A hri
   cases A with
   |done=>rw[if_pos (by decide)];exact stay _ rfl
   |fault h=>rw[if_pos (by omega)];exact stay _ rfl
   |wait h=>subst h;rw[if_pos (by decide)];exact stay _ rfl
   |go=>
    rename_i t'
    rw[if_neg (by decide)]
    have:=run_eq T k t' q out (hri rfl).1 hq
    exact⟨this.1,this.2.1,this.2.2.1,Nat.le_succ_of_le this.2.2.2⟩
   |put=>
    rename_i v t'
    rw[if_neg (by decide)]
    have:=run_eq T k t' q (out++[v]) (hri rfl).1 hq
    dsimp only at this
    rw[List.append_assoc]at this
    exact⟨this.1,this.2.1,this.2.2.1,Nat.succ_le_succ this.2.2.2⟩
   |got h=>
    rename_i f a r
    subst h
    rw[if_neg (by decide)]
    have:=run_eq T k (f a) r out (hri rfl).1 (hri rfl).2
    exact⟨this.1,this.2.1,this.2.2.1,Nat.le_succ_of_le this.2.2.2⟩
def stB(q:List Int)(a:Act S):Nat×Nat:=match a with
 |.done=>(0,0)
 |.fault k l=>(k,l)
 |.get _=>if q=[]then(6,0)else(7,0)
 |_=>(7,0)
theorem ag_st{s:S}{q out:List Int}{k:Nat}{a:Act S}{t:S×List Int×List Int}(A:Ag s q out k a t):stB q a=(k,if 1≤k∧k≤5 then s.pc+1 else 0):=by
 cases A with
 |done=>rfl
 |fault h=>rw[if_pos h];rfl
 |wait h=>subst h;rfl
 |go=>rfl
 |put=>rfl
 |got h=>subst h;rfl
theorem text_state{P:List L}{ls:List Ln}(T:Txt P ls){s:S}{q:List Int}(I:RI P s):textState P s q=(stdS ls s q,if 1≤stdS ls s q∧stdS ls s q≤5 then s.pc+1 else 0):=by
 unfold textState stdS
 cases hl:ls[s.pc]? with
 |none=>
  have hn:P[s.pc]? =none:=by
   rw[List.getElem?_eq_none_iff]at hl ⊢
   rw[←T.len];exact hl
  have e:sstep P s=.done:=by unfold sstep;rw[hn]
  rw[e]
  rfl
 |some l=>
  obtain⟨l0,hP,lv⟩:=T.view _ _ hl
  exact ag_st (ag T.bl (q:=q) (out:=[]) I hP lv)
theorem ri_init{P:List L}:RI P S.init:=⟨fun j p vs _ h=>absurd h (Nat.not_lt_zero _),Nat.zero_le _,fun _=>rfl,fun f h=>(nomatch h),by decide⟩
end Mn
namespace Rn
open PySem L2 Ins Pg R
abbrev Ii:=Cc.Ii
abbrev Ln:=Cc.Ln
abbrev S:=Ls.S
def rF(L ag:Addr)(tk at_:V)(ash acl ao:Addr)(re:V):List (Str×V):=
 [("program",.ref L),("given",.ref ag),("taken",tk),("at",at_),("shared",.ref ash),("calls",.ref acl),("out",.ref ao),("results",re)]
section
variable {L ag ash acl ao:Addr}{tk at_ re x:V}
theorem rF_program:(rF L ag tk at_ ash acl ao re).lookup ("program":Str)=some (.ref L):=rfl
theorem rF_given:(rF L ag tk at_ ash acl ao re).lookup ("given":Str)=some (.ref ag):=rfl
theorem rF_taken:(rF L ag tk at_ ash acl ao re).lookup ("taken":Str)=some tk:=rfl
theorem rF_at:(rF L ag tk at_ ash acl ao re).lookup ("at":Str)=some at_:=rfl
theorem rF_shared:(rF L ag tk at_ ash acl ao re).lookup ("shared":Str)=some (.ref ash):=rfl
theorem rF_calls:(rF L ag tk at_ ash acl ao re).lookup ("calls":Str)=some (.ref acl):=rfl
theorem rF_out:(rF L ag tk at_ ash acl ao re).lookup ("out":Str)=some (.ref ao):=rfl
theorem rF_results:(rF L ag tk at_ ash acl ao re).lookup ("results":Str)=some re:=rfl
theorem rF_work:(rF L ag tk at_ ash acl ao re).lookup ("work_out":Str)=none:=rfl
theorem rF_look:(rF L ag tk at_ ash acl ao re).lookup ("look_at_line":Str)=none:=rfl
theorem rF_store:(rF L ag tk at_ ash acl ao re).lookup ("store_value":Str)=none:=rfl
theorem rF_line:(rF L ag tk at_ ash acl ao re).lookup ("run_line":Str)=none:=rfl
theorem rF_behind:(rF L ag tk at_ ash acl ao re).lookup ("place_behind":Str)=none:=rfl
theorem rF_lines:(rF L ag tk at_ ash acl ao re).lookup ("run_lines":Str)=none:=rfl
theorem rF_told:(rF L ag tk at_ ash acl ao re).lookup ("told":Str)=none:=rfl
theorem rP_taken:putF "taken" x (rF L ag tk at_ ash acl ao re)=rF L ag x at_ ash acl ao re:=rfl
theorem rF_len:(rF L ag tk at_ ash acl ao re).length <1000:=by show 8<1000;decide
end
def callF(b:V)(o:Addr):List (Str×V):=[("back",b),("own",.ref o)]
theorem callF_back{b:V}{o:Addr}:(callF b o).lookup ("back":Str)=some b:=rfl
theorem callF_own{b:V}{o:Addr}:(callF b o).lookup ("own":Str)=some (.ref o):=rfl
structure Gr where
 p:Addr
 dx:Addr
 L:Addr
 ag:Addr
 ash:Addr
 acl:Addr
 ao:Addr
 ar:V
 cs:List Addr
 os:List Addr
def Gr.obj(G:Gr)(CR:Addr)(pc tk:Nat):HO:=.ins CR G.dx (rF G.L G.ag (.int (tk:Int)) (.int (pc:Int)) G.ash G.acl G.ao G.ar)
def shV(f:Nat→Int):List V:=(List.range 26).map fun i=>V.int (f i)
def ownL(f:Ls.Frame):HO:=.lst ((f.locals.map (·.2)).map V.int)
structure St where
 s:S
 tk:Nat
 out:List Int
def cells(CR:Addr)(G:Gr)(t:St):List (Addr×HO):=
 (G.p,G.obj CR t.s.pc t.tk)::(G.ash,.lst (shV t.s.vars))::(G.acl,.lst (G.cs.reverse.map V.ref))::(G.ao,.lst (t.out.map V.int))::G.os.zip (t.s.frames.map ownL)
def ProgW(C CL:Addr)(W:Hp)(L:Addr)(ls:List Ln):Prop:=∃as:List Addr,W L=some (.lst (as.map V.ref))∧as.length=ls.length∧∀(i:Nat) (a:Addr) (l:Ln),as[i]? =some a→ls[i]? =some l→LnAt C CL W W a (i+1) l
theorem ProgW.mono{C CL:Addr}{W U:Hp}{L:Addr}{ls:List Ln}(h:ProgW C CL W L ls)(s:Same W U):ProgW C CL U L ls:=by
 obtain⟨as,h1,h2,h3⟩:=h
 refine⟨as,s _ _ h1,h2,fun i a l ha hl=>?_⟩
 obtain⟨dx,st,so,e,h4,h5⟩:=h3 i a l ha hl
 exact⟨dx,st,so,s _ _ e,h4.mono s,h5.mono s⟩
structure RnAt (K:PySem.W.Frag) (C CL CC CR:Addr) (W H:Hp) (G:Gr) (ls:List Ln) (gv:List Int) (t:St):Prop where
 sub:Same W H
 pr:ProgW C CL W G.L ls
 gi:SqL K W G.ag (gv.map V.int)
 ce:∀x∈cells CR G t,H x.1=some x.2
 nd:((cells CR G t).map Prod.fst).Nodup
 wn:∀a∈(cells CR G t).map Prod.fst,W a=none
 ol:G.os.length=t.s.frames.length
 cp:Paired (fun(c:Addr) (x:Addr×Nat)=>∃dx,W c=some (.ins CC dx (callF (.int (x.2:Int)) x.1))) G.cs (G.os.zip (t.s.frames.map (·.back)))
section
variable {K:PySem.W.Frag}{C CL CC CR:Addr}{W H:Hp}{G:Gr}{ls:List Ln}{gv:List Int}{t:St}
theorem RnAt.ob(I:RnAt K C CL CC CR W H G ls gv t):H G.p=some (G.obj CR t.s.pc t.tk):=I.ce (G.p,_) (.head _)
theorem RnAt.sh(I:RnAt K C CL CC CR W H G ls gv t):H G.ash=some (.lst (shV t.s.vars)):=I.ce (G.ash,_) (.tail _ (.head _))
theorem RnAt.ca(I:RnAt K C CL CC CR W H G ls gv t):H G.acl=some (.lst (G.cs.reverse.map V.ref)):=I.ce (G.acl,_) (.tail _ (.tail _ (.head _)))
theorem RnAt.ou(I:RnAt K C CL CC CR W H G ls gv t):H G.ao=some (.lst (t.out.map V.int)):=I.ce (G.ao,_) (.tail _ (.tail _ (.tail _ (.head _))))
theorem RnAt.grow(I:RnAt K C CL CC CR W H G ls gv t){H':Hp}(h:Same H H'):RnAt K C CL CC CR W H' G ls gv t:=
 ⟨I.sub.trans h,I.pr,I.gi,fun x hx=>h _ _ (I.ce x hx),I.nd,I.wn,I.ol,I.cp⟩
theorem put_cells{l:List (Addr×HO)}{H:Hp}(h:∀x∈l,H x.1=some x.2)(nd:(l.map Prod.fst).Nodup){i:Nat}{a:Addr}{o o':HO}(hi:l[i]? =some (a,o)):∀x∈l.set i (a,o'),(upd H a o') x.1=some x.2:=by
 intro x hx
 obtain⟨j,hj⟩:=List.mem_iff_getElem?.mp hx
 by_cases c:j=i
 ·subst c
  rw[List.getElem?_set_self (List.getElem?_eq_some_iff.mp hi).1]at hj
  cases hj
  exact zB
 ·rw[List.getElem?_set_ne (fun z=>c z.symm)]at hj
  have ne:x.1≠a:=fun z=>by
   have h1:(l.map Prod.fst)[j]? =some a:=by rw[List.getElem?_map,hj,←z];rfl
   have h2:(l.map Prod.fst)[i]? =some a:=by rw[List.getElem?_map,hi];rfl
   exact c ((List.getElem?_inj (List.getElem?_eq_some_iff.mp h1).1 nd).mp (h1.trans h2.symm))
  rw[zF ne]
  exact h x (List.mem_of_getElem? hj)
theorem set_keys{l:List (Addr×HO)}{i:Nat}{a:Addr}{o o':HO}(hi:l[i]? =some (a,o)):(l.set i (a,o')).map Prod.fst=l.map Prod.fst:=by
 rw[List.map_set]
 refine List.ext_getElem? fun j=>?_
 by_cases c:i=j
 ·subst c
  rw[List.getElem?_set_self (by rw[List.length_map];exact(List.getElem?_eq_some_iff.mp hi).1),List.getElem?_map,hi];rfl
 ·rw[List.getElem?_set_ne c]
theorem RnAt.put(I:RnAt K C CL CC CR W H G ls gv t){i:Nat}{a:Addr}{o o':HO}{t':St}{G':Gr}(hi:(cells CR G t)[i]? =some (a,o))(he:cells CR G' t'=(cells CR G t).set i (a,o'))(hf:t'.s.frames.map (·.back)=t.s.frames.map (·.back))(e1:G'.L=G.L)(e2:G'.ag=G.ag)(e3:G'.cs=G.cs)(e4:G'.os=G.os):RnAt K C CL CC CR W (upd H a o') G' ls gv t':=by
 have hk:(cells CR G' t').map Prod.fst=(cells CR G t).map Prod.fst:=by rw[he];exact set_keys hi
 have wa:W a=none:=I.wn a (List.mem_map.mpr ⟨_,List.mem_of_getElem? hi,rfl⟩)
 have hl:t'.s.frames.length=t.s.frames.length:=by have:=congrArg List.length hf;rwa [List.length_map,List.length_map]at this
 exact⟨Same.upd' I.sub wa,by rw[e1];exact I.pr,by rw[e2];exact I.gi,by rw[he];exact put_cells I.ce I.nd hi,by rw[hk];exact I.nd,by rw[hk];exact I.wn,by rw[e4];exact I.ol.trans hl.symm,by rw[hf,e3,e4];exact I.cp⟩
theorem RnAt.ext(I:RnAt K C CL CC CR W H G ls gv t){W':Hp}(h:Same W W')(sub:Same W' H)(wn:∀a∈(cells CR G t).map Prod.fst,W' a=none):RnAt K C CL CC CR W' H G ls gv t:=
 ⟨sub,I.pr.mono h,h.seq I.gi,I.ce,I.nd,wn,I.ol,Paired.mapP I.cp fun c x ⟨dx,e⟩=>⟨dx,h _ _ e⟩⟩
theorem RnAt.some_of(I:RnAt K C CL CC CR W H G ls gv t){a:Addr}(ha:a∈(cells CR G t).map Prod.fst):∃o,H a=some o:=by
 obtain⟨x,hx,rfl⟩:=List.mem_map.mp ha
 exact⟨_,I.ce x hx⟩
theorem RnAt.putV(I:RnAt K C CL CC CR W H G ls gv t)(f:Nat→Int):RnAt K C CL CC CR W (upd H G.ash (.lst (shV f))) G ls gv { t with s:={ t.s with vars:=f } }:=
 I.put (i:=1) rfl rfl rfl rfl rfl rfl rfl
theorem RnAt.putO(I:RnAt K C CL CC CR W H G ls gv t)(l:List Int):RnAt K C CL CC CR W (upd H G.ao (.lst (l.map V.int))) G ls gv { t with out:=l }:=
 I.put (i:=3) rfl rfl rfl rfl rfl rfl rfl
theorem RnAt.putP(I:RnAt K C CL CC CR W H G ls gv t)(pc tk:Nat)(re:V):RnAt K C CL CC CR W (upd H G.p (.ins CR G.dx (rF G.L G.ag (.int (tk:Int)) (.int (pc:Int)) G.ash G.acl G.ao re))) { G with ar:=re } ls gv { t with s:={ t.s with pc:=pc },tk:=tk }:=
 I.put (i:=0) rfl rfl rfl rfl rfl rfl rfl
theorem RnAt.putF(I:RnAt K C CL CC CR W H G ls gv t){o:Addr}{os:List Addr}{f g:Ls.Frame}{fs:List Ls.Frame}{l:List Int}(ho:G.os=o::os)(hf:t.s.frames=f::fs)(hb:g.back=f.back)(hg:g.locals.map (·.2)=l):RnAt K C CL CC CR W (upd H o (.lst (l.map V.int))) G ls gv { t with s:={ t.s with frames:=g::fs } }:=by
 refine I.put (i:=4) (o:=ownL f) (t':={ t with s:={ t.s with frames:=g::fs } }) (G':=G) ?_ ?_ ?_ rfl rfl rfl rfl
 ·unfold cells
  rw[ho,hf]
  rfl
 ·unfold cells
  rw[ho,hf,←hg]
  rfl
 ·rw[hf]
  show g.back::_=f.back::_
  rw[hb]
theorem RnAt.top(I:RnAt K C CL CC CR W H G ls gv t){f:Ls.Frame}{fs:List Ls.Frame}(hf:t.s.frames=f::fs):∃c cs o os dx,G.cs=c::cs∧G.os=o::os∧W c=some (.ins CC dx (callF (.int (f.back:Int)) o))∧H o=some (.lst ((f.locals.map (·.2)).map V.int))∧os.length=fs.length∧Paired (fun(c:Addr) (x:Addr×Nat)=>∃dx,W c=some (.ins CC dx (callF (.int (x.2:Int)) x.1))) cs (os.zip (fs.map (·.back))):=by
 have hl:=I.ol
 have hp:=I.cp
 rw[hf]at hl hp
 cases ho:G.os with
 |nil=>rw[ho]at hl;cases hl
 |cons o os=>
  rw[ho]at hl hp
  have hp':Paired (fun(c:Addr) (x:Addr×Nat)=>∃dx,W c=some (.ins CC dx (callF (.int (x.2:Int)) x.1))) G.cs ((o,f.back)::os.zip (fs.map (·.back))):=hp
  cases hc:G.cs with
  |nil=>rw[hc]at hp';cases hp'
  |cons c cs=>
   rw[hc]at hp'
   cases hp' with
   |cons r q=>
    obtain⟨dx,e⟩:=r
    refine⟨c,cs,o,os,dx,rfl,rfl,e,I.ce (o,ownL f) ?_,by simpa using hl,q⟩
    unfold cells
    rw[ho,hf]
    exact .tail _ (.tail _ (.tail _ (.tail _ (.head _))))
theorem RnAt.cs_len(I:RnAt K C CL CC CR W H G ls gv t):G.cs.length=t.s.frames.length:=by
 rw[Paired.length I.cp,List.length_zip,List.length_map,I.ol,Nat.min_self]
theorem RnAt.pop(I:RnAt K C CL CC CR W H G ls gv t){f:Ls.Frame}{fs:List Ls.Frame}{c o:Addr}{cs os:List Addr}(hf:t.s.frames=f::fs)(hc:G.cs=c::cs)(ho:G.os=o::os)(hl:os.length=fs.length)(hp:Paired (fun(c:Addr) (x:Addr×Nat)=>∃dx,W c=some (.ins CC dx (callF (.int (x.2:Int)) x.1))) cs (os.zip (fs.map (·.back)))):
  RnAt K C CL CC CR W (upd H G.acl (.lst (cs.reverse.map V.ref))) { G with cs:=cs,os:=os } ls gv { t with s:={ t.s with frames:=fs } }:=by
 have hm:∀x∈cells CR { G with cs:=cs,os:=os } { t with s:={ t.s with frames:=fs } },x∈(cells CR G t).set 2 (G.acl,.lst (cs.reverse.map V.ref)):=fun x hx=>by
  unfold cells
  rw[ho,hf]
  rcases hx with _ | ⟨_,hx⟩
  ·exact .head _
  rcases hx with _ | ⟨_,hx⟩
  ·exact .tail _ (.head _)
  rcases hx with _ | ⟨_,hx⟩
  ·exact .tail _ (.tail _ (.head _))
  rcases hx with _ | ⟨_,hx⟩
  ·exact .tail _ (.tail _ (.tail _ (.head _)))
  ·exact .tail _ (.tail _ (.tail _ (.tail _ (.tail _ hx))))
 have h3:(cells CR G t)[2]? =some (G.acl,.lst (G.cs.reverse.map V.ref)):=rfl
 have wa:W G.acl=none:=I.wn _ (List.mem_map.mpr ⟨_,List.mem_of_getElem? h3,rfl⟩)
 have nd:=I.nd
 have wn:=I.wn
 unfold cells at nd wn
 rw[ho,hf]at nd wn
 refine⟨Same.upd' I.sub wa,I.pr,I.gi,fun x hx=>put_cells I.ce I.nd h3 x (hm x hx),?_,?_,hl,hp⟩
 ·refine List.Nodup.sublist ?_ nd
  exact .cons₂ _ (.cons₂ _ (.cons₂ _ (.cons₂ _ (.cons _ (List.Sublist.refl _)))))
 ·intro a ha
  refine wn a (List.Sublist.subset ?_ ha)
  exact .cons₂ _ (.cons₂ _ (.cons₂ _ (.cons₂ _ (.cons _ (List.Sublist.refl _)))))
theorem RnAt.push(I:RnAt K C CL CC CR W H G ls gv t){c dx o:Addr}{f:Ls.Frame}(hc:H c=some (.ins CC dx (callF (.int (f.back:Int)) o)))(ho:H o=some (.lst ((f.locals.map (·.2)).map V.int)))(nc:c∉(cells CR G t).map Prod.fst)(no:o∉(cells CR G t).map Prod.fst)(wo:W o=none)(noc:o≠c):
  RnAt K C CL CC CR (jn W (one1 c (.ins CC dx (callF (.int (f.back:Int)) o)))) (upd H G.acl (.lst ((c::G.cs).reverse.map V.ref))) { G with cs:=c::G.cs,os:=o::G.os } ls gv { t with s:={ t.s with frames:=f::t.s.frames } }:=by
 have h3:(cells CR G t)[2]? =some (G.acl,.lst (G.cs.reverse.map V.ref)):=rfl
 have m3:G.acl∈(cells CR G t).map Prod.fst:=List.mem_map.mpr ⟨_,List.mem_of_getElem? h3,rfl⟩
 have wa:W G.acl=none:=I.wn _ m3
 have sj:Same (jn W (one1 c (.ins CC dx (callF (.int (f.back:Int)) o)))) H:=xG I.sub (yV hc)
 have nac:G.acl≠c:=fun z=>nc (z▸m3)
 have nao:G.acl≠o:=fun z=>no (z▸m3)
 have wj:jn W (one1 c (.ins CC dx (callF (.int (f.back:Int)) o))) G.acl=none:=yG wa (one_no nac)
 have ek:(cells CR { G with cs:=c::G.cs,os:=o::G.os } { t with s:={ t.s with frames:=f::t.s.frames } }).map Prod.fst=G.p::G.ash::G.acl::G.ao::o::(G.os.zip (t.s.frames.map ownL)).map Prod.fst:=rfl
 have ek0:(cells CR G t).map Prod.fst=G.p::G.ash::G.acl::G.ao::(G.os.zip (t.s.frames.map ownL)).map Prod.fst:=rfl
 have pm:(G.p::G.ash::G.acl::G.ao::o::(G.os.zip (t.s.frames.map ownL)).map Prod.fst).Perm (o::(cells CR G t).map Prod.fst):=by
  rw[ek0]
  exact List.perm_middle (l₁:=[G.p,G.ash,G.acl,G.ao])
 refine⟨Same.upd' sj wj,I.pr.mono jn_l,Same.seq jn_l I.gi,?_,?_,?_,by show(o::G.os).length=(f::t.s.frames).length;rw[List.length_cons,List.length_cons,I.ol],?_⟩
 ·intro x hx
  have key:=put_cells (o':=.lst ((c::G.cs).reverse.map V.ref)) I.ce I.nd h3
  rcases hx with _ | ⟨_,hx⟩
  ·exact key _ (.head _)
  rcases hx with _ | ⟨_,hx⟩
  ·exact key _ (.tail _ (.head _))
  rcases hx with _ | ⟨_,hx⟩
  ·exact key _ (.tail _ (.tail _ (.head _)))
  rcases hx with _ | ⟨_,hx⟩
  ·exact key _ (.tail _ (.tail _ (.tail _ (.head _))))
  rcases hx with _ | ⟨_,hx⟩
  ·exact(zF nao.symm).trans ho
  ·exact key _ (.tail _ (.tail _ (.tail _ (.tail _ hx))))
 ·rw[ek]
  exact pm.nodup_iff.mpr (List.nodup_cons.mpr ⟨no,I.nd⟩)
 ·intro a ha
  rw[ek]at ha
  rcases List.mem_cons.mp (pm.mem_iff.mp ha)with e | e
  ·rw[e];exact yG wo (one_no noc)
  ·exact yG (I.wn a e) (one_no fun z=>nc (z▸e))
 ·refine .cons ⟨dx,jn_r I.sub (yV hc) _ _ one_at⟩ (Paired.mapP I.cp fun c x ⟨dx,e⟩=>⟨dx,jn_l _ _ e⟩)
def ky(CR:Addr)(G:Gr)(t:St):List Addr:=(cells CR G t).map Prod.fst
theorem ky_p:G.p∈ky CR G t:=.head _
theorem ky_ash:G.ash∈ky CR G t:=.tail _ (.head _)
theorem RnAt.kfresh(I:RnAt K C CL CC CR W H G ls gv t){a:Addr}(h:H a=none):a∉ky CR G t:=fun z=>by
 obtain⟨u,e⟩:=I.some_of z
 rw[h]at e;cases e
end
end Rn
namespace Rn
open PySem L2 Ins Pg R Ar
structure RnT (K:PySem.W.Frag) (mg:Str→Option Value) (CC CR:Addr):Prop where
 en:∃t,mg "ENDED"=some (.int 0 t)
 tm:∃t,mg "TOO_MANY_CALLS"=some (.int 3 t)
 fs:∃t,mg "FULL_STACK"=some (.int 5 t)
 wt:∃t,mg "WAITING"=some (.int 6 t)
 go:∃t,mg "GOES_ON"=some (.int 7 t)
 mc:∃t,mg "MOST_CALLS"=some (.int 200 t)
 lt:∃t,mg "LETTERS"=some (.int 26 t)
 pu:∃t,mg "PUSH"=some (.int 1 t)
 ld:∃t,mg "LOAD"=some (.int 2 t)
 ll:∃t,mg "LOADL"=some (.int 4 t)
 sl:∃t,mg "STOREL"=some (.int 5 t)
 no:∃t,mg "NOT"=some (.int 13 t)
 cC:Cls K CC
 nB:NoAttr K CC "back"
 nW:NoAttr K CC "own"
 cR:Cls K CR
 nProg:NoAttr K CR "program"
 nGiven:NoAttr K CR "given"
 nTaken:NoAttr K CR "taken"
 nAt:NoAttr K CR "at"
 nShared:NoAttr K CR "shared"
 nCalls:NoAttr K CR "calls"
 nOut:NoAttr K CR "out"
 nRes:NoAttr K CR "results"
 mgC:mg "Call"=some (.ref CC)
 mgR:mg "Run"=some (.ref CR)
 len:mg "len"=none
 rng:mg "range"=none
def Safe(own:List Int):List Ii→Nat→Prop
 |[],_=>True
 |x::r,d=>((∃z,x=(1,[z])∧Ls.inRange z=true)∧Safe own r (d+1))∨((∃g:Nat,x=(2,[(g:Int)])∧g<26)∧Safe own r (d+1))∨((∃i:Nat,x=(4,[(i:Int)])∧i<own.length)∧Safe own r (d+1))∨((x=(13,[])∧1≤d)∧Safe own r d)∨((∃o,x=(6+o,[])∧o≤6∧2≤d)∧Safe own r (d-1))
theorem safe_expr{own:List Int}{vs:List Nat}(hi:∀v i,(vs.findIdx? fun(x:Nat)=>x==v)=some i→i<own.length):∀(e:Ls.Expr),Mn.EOk e→∀(r:List Ii) (d:Nat),Safe own r (d+1)→Safe own (Cc.exprI vs e++r) d
 |.num n,ok,r,d,h=>.inl ⟨⟨n,rfl,ok⟩,h⟩
 |.var v,ok,r,d,h=>by
  show Safe own (Cc.varI vs v 4 2::r) d
  unfold Cc.varI
  cases e:vs.findIdx? fun(x:Nat)=>x==v with
  |none=>exact .inr (.inl ⟨⟨v,rfl,ok⟩,h⟩)
  |some i=>exact .inr (.inr (.inl ⟨⟨i,rfl,hi v i e⟩,h⟩))
 |.bin o a b,ok,r,d,h=>by
  obtain⟨ho,oa,ob⟩:=ok
  have e0:Cc.exprI vs (.bin o a b)++r=Cc.exprI vs a++(Cc.exprI vs b++((6+o,[])::r)):=by
   show(Cc.exprI vs a++(Cc.exprI vs b++[(6+o,[])]))++r=_
   rw[List.append_assoc,List.append_assoc];rfl
  rw[e0]
  exact safe_expr hi a oa _ d (safe_expr hi b ob _ (d+1) (.inr (.inr (.inr (.inr ⟨⟨o,rfl,ho,by omega⟩,h⟩)))))
 |.not a,ok,r,d,h=>by
  have e0:Cc.exprI vs (.not a)++r=Cc.exprI vs a++((13,[])::r):=by
   show(Cc.exprI vs a++[(13,[])])++r=_
   rw[List.append_assoc];rfl
  rw[e0]
  exact safe_expr hi a ok _ d (.inr (.inr (.inr (.inl ⟨⟨rfl,by omega⟩,h⟩))))
theorem safe_all{own:List Int}{vs:List Nat}(hi:∀v i,(vs.findIdx? fun(x:Nat)=>x==v)=some i→i<own.length):∀(es:List Ls.Expr),(∀e∈es,Mn.EOk e)→∀d,Safe own (es.flatMap (Cc.exprI vs)) d
 |[],_,_=>trivial
 |e::r,ok,d=>by
  rw[List.flatMap_cons]
  exact safe_expr hi e (ok e (by simp)) _ d (safe_all hi r (fun e he=>ok e (List.mem_cons_of_mem _ he)) (d+1))
theorem atI_rev{α:Type}{g:α→V}{l:List α}{j:Nat}{z:α}{i:Int}(h:l[j]? =some z)(hi:i= -((j:Int) +1)):atI (l.reverse.map g) i=some (g z):=by
 have hj:=(List.getElem?_eq_some_iff.mp h).1
 subst hi
 unfold atI ixN
 rw[List.length_map,List.length_reverse,if_neg (by omega),if_pos (by omega)]
 show(l.reverse.map g)[(-((j:Int) +1) + (l.length:Int)).toNat]? =_
 rw[show(-((j:Int) +1) + (l.length:Int)).toNat=l.length-1-j by omega,List.getElem?_map,List.getElem?_reverse (by omega),show l.length-1- (l.length-1-j)=j by omega,h]
 rfl
theorem rev_snoc{α:Type}{g:α→V}(z:α)(l:List α):l.reverse.map g++[g z]=(z::l).reverse.map g:=by simp
theorem rev_drop{α:Type}{g:α→V}(z:α)(l:List α):((z::l).reverse.map g).dropLast=l.reverse.map g:=by simp
theorem rev_last{α:Type}{g:α→V}(z:α)(l:List α):((z::l).reverse.map g)[((z::l).reverse.map g).length -1]? =some (g z):=by simp
theorem sh_at{f:Nat→Int}{i:Nat}(h:i<26):atI (shV f) (i:Int)=some (V.int (f i)):=by
 refine zW ?_
 unfold shV
 rw[List.getElem?_map,List.getElem?_range h];rfl
theorem sm_of{z:Int}(h:Ls.inRange z=true):Sm z:=by
 unfold Ls.inRange at h
 simp only[Bool.and_eq_true,decide_eq_true_eq]at h
 exact h
theorem own_at{l:List Int}{i:Nat}(h:i<l.length):atI (l.map V.int) (i:Int)=some (V.int (l.getD i 0)):=zW (by rw[List.getElem?_map,List.getD_eq_getElem?_getD,List.getElem?_eq_getElem h];rfl)
theorem own_in{P:List Ls.L}{s:S}(R:Mn.RI P s)(i:Nat):Ls.inRange ((Mn.ownS s).getD i 0)=true:=by
 unfold Mn.ownS
 cases hf:s.frames with
 |nil=>rfl
 |cons f fs=>
  dsimp only
  rw[List.getD_eq_getElem?_getD,List.getElem?_map]
  cases e:f.locals[i]? with
  |none=>rfl
  |some x=>exact R.fr f (by rw[hf];simp) x (List.mem_of_getElem? e)
section
variable {P:Program}{w:World}{K:PySem.W.Frag}{mg:Str→Option Value}{base:Heap}{C CL CB CC CR aW aA:Addr}{wA fA:Nat→Addr}
def spWork(K:PySem.W.Frag)(C CL CC CR:Addr):Sp:=fun vs H Q _=>∃(G:Gr) (st:Addr) (W:Hp) (ls:List Ln) (gv:List Int) (t:St) (xs:List Ii) (PP:List Ls.L),vs=[.ref G.p,.ref st]∧RnAt K C CL CC CR W H G ls gv t∧Mn.RI PP t.s∧Iss C W st xs∧xs.length≤16500∧Safe (Mn.ownS t.s) xs 0∧
 (∀k,Mn.wk t.s.vars (Mn.ownS t.s) xs []=.error k→∀H',Same H H'→Q (.int (k:Int)) H')∧
 (∀sk,Mn.wk t.s.vars (Mn.ownS t.s) xs []=.ok sk→∀H' a,RnAt K C CL CC CR W H' { G with ar:=.ref a } ls gv t→H' a=some (.lst (sk.reverse.map V.int))→W a=none→a∉ky CR { G with ar:=.ref a } t→Q (.int 7) H')
theorem scWork:FnScope ["self","steps","values","step","b","a","standing"] ["self","steps"] (defScope sRWork):=⟨rfl,rfl,rfl,by decide +kernel,rfl,by decide +kernel,by decide +kernel⟩
theorem fI{A B:Prop}{n m:Int}(e:n≠m)(h:B):if decide (V.int n=V.int m)=true then A else B:=by rw[decV,decide_eq_false e];exact iteF h
theorem tJ{A B:Prop}{n m:Int}(e:n=m)(h:A):if decide (V.int n=V.int m)=true then A else B:=by rw[decV,decide_eq_true e];exact iteT h
theorem ok_work{f fs fr fv:Addr}{fd fds fdr fdv:FuncData}(F:Fun K "work_out" "Run.work_out" sRWork f fd)(T:RnT K mg CC CR)(TI:InsC K mg C aW wA)
  (DS:Dn K mg "operation_standing" sOpStd fs fds ["number","a","b"])(GS:FnOk P w K mg base CX0 2 fs fds ["number","a","b"] spStd)
  (DR:Dn K mg "operation_result" sOpRes fr fdr ["number","a","b"])(GR:FnOk P w K mg base CX0 2 fr fdr ["number","a","b"] spRes)(DV:Dn K mg "inverse" sInv fv fdv ["a"]):FnOk P w K mg base CX0 3 f fd ["self","steps"] (spWork K C CL CC CR):=by
 have GV:FnOk P w K mg base CX0 1 fv fdv ["a"] spInv:=ok_inv DV.fn
 refine F.ok scWork (fun vs H Q E h=>by obtain⟨G,st,W,ls,gv,t,xs,PP,rfl,_⟩:=h;rfl) (fun cdv A outer s0 H vs Q E hr h=>?_)
 obtain⟨G,st,W,ls,gv,t,xs,PP,rfl,I,RI,hI,hxl,hsafe,kE,kO⟩:=h
 obtain⟨t1,h1⟩:=T.pu
 obtain⟨t2,h2⟩:=T.ld
 obtain⟨t4,h4⟩:=T.ll
 obtain⟨t13,h13⟩:=T.no
 obtain⟨t7,h7⟩:=T.go
 have hr1:Room 1 _:=hr.mono (by decide)
 refine⟨_,zD (zZ (i:=2) scWork.nd rfl (Or.inl rfl) (yI zG))
  (zD (ps_for PassesOwn.never rfl (pi_list (pv 1)) (yJ (i:=3) scWork.nd rfl (Or.inl rfl))
   (zE (zV (zK yC (zJ (pv 3) rfl) (zQ (v:=V.int 1) (by rfl) h1 ⟨t1,rfl⟩) (zM _))
    (zE (yA (xA PySem.F.plainAttrs_list PySem.F.slot_list_append PySem.F.type_list_append yD (pv 2) (zA (yH yB (zJ (pv 3) rfl) zI (fun _ _=>rfl)) zG))))
    (zE (zV (zK yC (zJ (pv 3) rfl) (zQ (v:=V.int 2) (by rfl) h2 ⟨t2,rfl⟩) (zM _))
     (zE (yA (xA PySem.F.plainAttrs_list PySem.F.slot_list_append PySem.F.type_list_append yD (pv 2) (zA (yH yB (zJ (pv 0) rfl) (yH yB (zJ (pv 3) rfl) zI (fun _ _=>rfl)) (fun _ _=>rfl)) zG))))
     (zE (zV (zK yC (zJ (pv 3) rfl) (zQ (v:=V.int 4) (by rfl) h4 ⟨t4,rfl⟩) (zM _))
      (zE (yA (xA PySem.F.plainAttrs_list PySem.F.slot_list_append PySem.F.type_list_append yD (pv 2) (zA (yH yB (zJ (yH yB (zJ (pv 0) rfl) (pe_un un_neg zI) (fun _ _=>rfl)) rfl) (yH yB (zJ (pv 3) rfl) zI (fun _ _=>rfl)) (fun _ _=>rfl)) zG))))
      (zE (zV (zK yC (zJ (pv 3) rfl) (zQ (v:=V.int 13) (by rfl) h13 ⟨t13,rfl⟩) (zM _))
       (zE (yA (xA PySem.F.plainAttrs_list PySem.F.slot_list_append PySem.F.type_list_append yD (pv 2) (zA (zS GV hr1 (by rfl) DV.at_ DV.fn.kp DV.bd .nil pass0 (zA (pe_bm0 PySem.F.plainAttrs_list PySem.F.slot_list_pop PySem.F.type_list_pop mt_pop (pv 2)) zG)) zG))))
       (zD (zZ (i:=4) scWork.nd rfl (Or.inl rfl) (pe_bm0 PySem.F.plainAttrs_list PySem.F.slot_list_pop PySem.F.type_list_pop mt_pop (pv 2)))
       (zD (zZ (i:=5) scWork.nd rfl (Or.inl rfl) (pe_bm0 PySem.F.plainAttrs_list PySem.F.slot_list_pop PySem.F.type_list_pop mt_pop (pv 2)))
       (zD (zZ (i:=6) scWork.nd rfl (Or.inl rfl) (zS GS hr (by rfl) DS.at_ DS.fn.kp DS.bd .nil pass0 (zA (zJ (pv 3) rfl) (zA (pv 5) (zA (pv 4) zG)))))
       (zD (zV (zK op_ne (pv 6) (zQ (v:=V.int 7) (by rfl) h7 ⟨t7,rfl⟩) (zM _)) (zE (zN (pv 6))) zL)
       (zE (yA (xA PySem.F.plainAttrs_list PySem.F.slot_list_append PySem.F.type_list_append yD (pv 2) (zA (zS GR hr (by rfl) DR.at_ DR.fn.kp DR.bd .nil pass0 (zA (zJ (pv 3) rfl) (zA (pv 5) (zA (pv 4) zG)))) zG)))))))))))))))))
  (zD (zY (pv 0) (pv 2) rfl)
  (zE (zN (zQ (v:=V.int 7) (by rfl) h7 ⟨t7,rfl⟩))))),?_⟩
 refine⟨Ck.zero_line,fun vl hvl=>?_⟩
 obtain⟨ps,hps,hpp⟩:=id hI
 have hpl:=Paired.length hpp
 have big:=zP
 have s0:Same H (upd H vl (.lst [])):=Same.upd' (Same.refl H) hvl
 have nkv:vl∉ky CR G t:=I.kfresh hvl
 have wv:W vl=none:=I.sub.free hvl
 refine⟨_,rfl,_,rfl,⟨_,SqL.of (s0 _ _ (I.sub _ _ hps))⟩,for_list (K:=K) (a:=st) (xs:=ps.map V.ref) (fun j σ H2=>∃(v3 v4 v5 v6:Option V) (sj:List Int),Same H H2∧H2 vl=some (.lst (sj.reverse.map V.int))∧Mn.wk t.s.vars (Mn.ownS t.s) xs []=Mn.wk t.s.vars (Mn.ownS t.s) (xs.drop j) sj∧Safe (Mn.ownS t.s) (xs.drop j) sj.length∧(∀z∈sj,Ls.inRange z=true)∧sj.length≤j∧σ=[some (.ref G.p),some (.ref st),some (.ref vl),v3,v4,v5,v6])
  ⟨none,none,none,none,[],s0,zB,rfl,hsafe,fun z h=>(nomatch h),Nat.le_refl _,rfl⟩ (fun j σ H2 _ ⟨_,_,_,_,_,s2,_⟩=>SqL.of (s2 _ _ (I.sub _ _ hps))) ?_ ?_⟩
 ·rintro j v σ H2 hv ⟨v3,v4,v5,v6,sj,s2,hv2,hwk,hsf,hin,hlj,rfl⟩
  rw[List.getElem?_map]at hv
  obtain⟨q,hq,rfl⟩:=Option.map_eq_some_iff.mp hv
  obtain⟨x,hx,hxq⟩:=Ck.paired_at' hpp hq
  have hjl:=(List.getElem?_eq_some_iff.mp hx).1
  have hdr:xs.drop j=x::xs.drop (j+1):=by
   rw[List.drop_eq_getElem_cons hjl]
   congr 1
   exact(List.getElem?_eq_some_iff.mp hx).2
  rw[hdr]at hwk hsf
  obtain⟨dxi,l,hq1,hl1⟩:=hxq
  have hq2:=s2 _ _ (I.sub _ _ hq1)
  have hl2:=s2 _ _ (I.sub _ _ hl1)
  have I2:=I.grow s2
  have lens:(sj.reverse.map V.int).length <sizeLine:=by rw[List.length_map,List.length_reverse];omega
  have fin:∀(z:Int) (H3:Hp) (v4 v5 v6:Option V) (sk:List Int),Ls.inRange z=true→(∀y∈sk,Ls.inRange y=true)→sk.length≤j→H3=upd H2 vl (.lst ((z::sk).reverse.map V.int))→Mn.wk t.s.vars (Mn.ownS t.s) xs []=Mn.wk t.s.vars (Mn.ownS t.s) (xs.drop (j+1)) (z::sk)→Safe (Mn.ownS t.s) (xs.drop (j+1)) (sk.length+1)→
    ∃(v3 v4' v5' v6':Option V) (sj:List Int),Same H H3∧H3 vl=some (.lst (sj.reverse.map V.int))∧Mn.wk t.s.vars (Mn.ownS t.s) xs []=Mn.wk t.s.vars (Mn.ownS t.s) (xs.drop (j+1)) sj∧Safe (Mn.ownS t.s) (xs.drop (j+1)) sj.length∧(∀z∈sj,Ls.inRange z=true)∧sj.length≤j+1∧[some (.ref G.p),some (.ref st),some (.ref vl),some (.ref q),v4,v5,v6]=[some (.ref G.p),some (.ref st),some (.ref vl),v3,v4',v5',v6']:=fun z H3 v4 v5 v6 sk hz hk hkl e hw hs=>by
   subst e
   refine⟨_,v4,v5,v6,z::sk,Same.upd' s2 hvl,zB,hw,hs,fun y hy=>?_,by simp;omega,rfl⟩
   rcases List.mem_cons.mp hy with c | c
   ·rw[c];exact hz
   ·exact hk y c
  rcases hsf with⟨⟨z,rfl,hz⟩,hsf⟩ | ⟨⟨g,rfl,hg⟩,hsf⟩ | ⟨⟨i,rfl,hi⟩,hsf⟩ | ⟨⟨rfl,hd1⟩,hsf⟩ | ⟨⟨o,rfl,ho,hd2⟩,hsf⟩
  ·refine⟨_,rfl,q,C,dxi,_,_,rfl,hq2,TI.cl,TI.nN,zX ..,rfl,_,rfl,tJ rfl ?_⟩
   refine⟨_,rfl,.inl ⟨rfl,_,SqL.of hv2⟩,_,rfl,q,C,dxi,_,_,rfl,hq2,TI.cl,TI.nO,xB ..,l,_,_,_,rfl,rfl,SqL.of hl2,zW (j:=0) rfl,vl,_,_,rfl,rfl,hv2,lens,?_⟩
   rw[rev_snoc]
   exact fin z _ v4 v5 v6 sj hz hin hlj rfl hwk hsf
  ·refine⟨_,rfl,q,C,dxi,_,_,rfl,hq2,TI.cl,TI.nN,zX ..,rfl,_,rfl,fI (show(2:Int)≠1 by decide) ?_⟩
   refine⟨_,rfl,q,C,dxi,_,_,rfl,hq2,TI.cl,TI.nN,zX ..,rfl,_,rfl,tJ rfl ?_⟩
   refine⟨_,rfl,.inl ⟨rfl,_,SqL.of hv2⟩,_,rfl,G.p,CR,G.dx,_,_,rfl,I2.ob,T.cR,T.nShared,rF_shared ..,_,rfl,q,C,dxi,_,_,rfl,hq2,TI.cl,TI.nO,xB ..,l,_,_,_,rfl,rfl,SqL.of hl2,zW (j:=0) rfl,G.ash,_,_,_,rfl,rfl,SqL.of I2.sh,sh_at hg,vl,_,_,rfl,rfl,hv2,lens,?_⟩
   rw[rev_snoc]
   exact fin (t.s.vars g) _ v4 v5 v6 sj (RI.vr g) hin hlj rfl hwk hsf
  ·refine⟨_,rfl,q,C,dxi,_,_,rfl,hq2,TI.cl,TI.nN,zX ..,rfl,_,rfl,fI (show(4:Int)≠1 by decide) ?_⟩
   refine⟨_,rfl,q,C,dxi,_,_,rfl,hq2,TI.cl,TI.nN,zX ..,rfl,_,rfl,fI (show(4:Int)≠2 by decide) ?_⟩
   refine⟨_,rfl,q,C,dxi,_,_,rfl,hq2,TI.cl,TI.nN,zX ..,rfl,_,rfl,tJ rfl ?_⟩
   obtain⟨f0,fs0,hf⟩:∃f fs,t.s.frames=f::fs:=by
    cases hf:t.s.frames with
    |nil=>unfold Mn.ownS at hi;rw[hf]at hi;exact absurd hi (Nat.not_lt_zero _)
    |cons f fs=>exact⟨f,fs,rfl⟩
   have eo:Mn.ownS t.s=f0.locals.map (·.2):=by unfold Mn.ownS;rw[hf]
   obtain⟨c,cs,oa,os,dxc,hcs,hos,hcW,hoH,_⟩:=I2.top hf
   have hca:=I2.ca
   rw[hcs]at hca
   rw[←eo]at hoH
   refine⟨_,rfl,.inl ⟨rfl,_,SqL.of hv2⟩,_,rfl,G.p,CR,G.dx,_,_,rfl,I2.ob,T.cR,T.nCalls,rF_calls ..,_,rfl,G.acl,_,_,_,rfl,rfl,SqL.of hca,atI_rev (g:=V.ref) (j:=0) (z:=c) rfl rfl,c,CC,dxc,_,_,rfl,I2.sub _ _ hcW,T.cC,T.nW,callF_own ..,_,rfl,q,C,dxi,_,_,rfl,hq2,TI.cl,TI.nO,xB ..,l,_,_,_,rfl,rfl,SqL.of hl2,zW (j:=0) rfl,oa,_,_,_,rfl,rfl,SqL.of hoH,own_at hi,vl,_,_,rfl,rfl,hv2,lens,?_⟩
   rw[rev_snoc]
   exact fin ((Mn.ownS t.s).getD i 0) _ v4 v5 v6 sj (own_in RI i) hin hlj rfl hwk hsf
  ·refine⟨_,rfl,q,C,dxi,_,_,rfl,hq2,TI.cl,TI.nN,zX ..,rfl,_,rfl,fI (show(13:Int)≠1 by decide) ?_⟩
   refine⟨_,rfl,q,C,dxi,_,_,rfl,hq2,TI.cl,TI.nN,zX ..,rfl,_,rfl,fI (show(13:Int)≠2 by decide) ?_⟩
   refine⟨_,rfl,q,C,dxi,_,_,rfl,hq2,TI.cl,TI.nN,zX ..,rfl,_,rfl,fI (show(13:Int)≠4 by decide) ?_⟩
   refine⟨_,rfl,q,C,dxi,_,_,rfl,hq2,TI.cl,TI.nN,zX ..,rfl,_,rfl,tJ rfl ?_⟩
   cases sj with
   |nil=>exact absurd hd1 (by simp)
   |cons a r=>
    refine⟨_,rfl,.inl ⟨rfl,_,SqL.of hv2⟩,_,rfl,.inl ⟨rfl,_,SqL.of hv2⟩,vl,_,_,rfl,rfl,hv2,rev_last a r,?_⟩
    rw[rev_drop]
    refine⟨a,rfl,vl,_,_,rfl,rfl,zB,?_,?_⟩
    ·rw[List.length_map,List.length_reverse];simp at hlj;omega
    ·rw[yP,rev_snoc]
     exact fin (Mn.invZ a) _ v4 v5 v6 r (by unfold Mn.invZ;split<;>rfl) (fun y hy=>hin y (List.mem_cons_of_mem _ hy)) (by simp at hlj;omega) rfl hwk hsf
  ·have ne:∀m:Nat,m<6∨12<m→((6+o:Nat):Int)≠(m:Int):=fun m hm z=>by omega
   refine⟨_,rfl,q,C,dxi,_,_,rfl,hq2,TI.cl,TI.nN,zX ..,rfl,_,rfl,fI (ne 1 (by omega)) ?_⟩
   refine⟨_,rfl,q,C,dxi,_,_,rfl,hq2,TI.cl,TI.nN,zX ..,rfl,_,rfl,fI (ne 2 (by omega)) ?_⟩
   refine⟨_,rfl,q,C,dxi,_,_,rfl,hq2,TI.cl,TI.nN,zX ..,rfl,_,rfl,fI (ne 4 (by omega)) ?_⟩
   refine⟨_,rfl,q,C,dxi,_,_,rfl,hq2,TI.cl,TI.nN,zX ..,rfl,_,rfl,fI (ne 13 (by omega)) ?_⟩
   cases sj with
   |nil=>exact absurd hd2 (by simp)
   |cons b r=>
    cases r with
    |nil=>exact absurd hd2 (by simp)
    |cons a r=>
     have ha:=hin a (by simp)
     have hb:=hin b (by simp)
     refine⟨_,rfl,.inl ⟨rfl,_,SqL.of hv2⟩,vl,_,_,rfl,rfl,hv2,rev_last b (a::r),?_⟩
     rw[rev_drop]
     refine⟨_,rfl,.inl ⟨rfl,_,SqL.of zB⟩,vl,_,_,rfl,rfl,zB,rev_last a r,?_⟩
     rw[rev_drop,yP]
     have nvq:vl≠q:=(zH (I.sub _ _ hq1) hvl).symm
     have hq3:(upd H2 vl (.lst (r.reverse.map V.int))) q=some (.ins C dxi (insF (6+o) l)):=by rw[zF nvq.symm];exact hq2
     have s3:Same H (upd H2 vl (.lst (r.reverse.map V.int))):=Same.upd' s2 hvl
     refine⟨_,rfl,q,C,dxi,_,_,rfl,hq3,TI.cl,TI.nN,zX ..,_,rfl,_,rfl,o,a,b,rfl,ho,sm_of ha,sm_of hb,fun H4 s4=>?_⟩
     have ew:Mn.wk t.s.vars (Mn.ownS t.s) ((6+o,[])::xs.drop (j+1)) (b::a::r)=if stdP o a b≠7 then .error (stdP o a b)else Mn.wk t.s.vars (Mn.ownS t.s) (xs.drop (j+1)) (resP o a b::r):=by
      have e6:6+o-6=o:=by omega
      rw[Mn.wk]
      rw[if_neg (show¬6+o=1 by omega),if_neg (show¬6+o=2 by omega),if_neg (show¬6+o=4 by omega),if_neg (show¬6+o=13 by omega),e6]
      rfl
     refine⟨_,rfl,rfl,_,rfl,?_⟩
     show if(!decide (V.int _=V.int 7))=true then _ else _
     rw[decV]
     by_cases c7:stdP o a b=7
     ·rw[decide_eq_true (by omega)]
      have hv4:=s4 _ _ (zB (H:=H2) (a:=vl) (o:=.lst (r.reverse.map V.int)))
      have hq4:=s4 _ _ hq3
      have hz:(o=3∨o=4)→b≠0:=fun h z=>by
       unfold stdP at c7
       rw[if_pos ⟨h,z⟩]at c7
       cases c7
      refine iteF ⟨_,rfl,.inl ⟨rfl,_,SqL.of hv4⟩,_,rfl,q,C,dxi,_,_,rfl,hq4,TI.cl,TI.nN,zX ..,_,rfl,_,rfl,o,a,b,rfl,ho,sm_of ha,sm_of hb,hz,vl,_,_,rfl,rfl,hv4,?_,?_⟩
      ·rw[List.length_map,List.length_reverse];simp at hlj;omega
      ·rw[rev_snoc]
       rw[ew,if_neg (by simpa using c7)]at hwk
       refine⟨_,_,_,_,resP o a b::r,Same.upd' (s3.trans s4) hvl,zB,hwk,?_,fun y hy=>?_,by simp at hlj ⊢;omega,rfl⟩
       ·have:(b::a::r).length -1=(resP o a b::r).length:=by simp
        rw[this]at hsf
        exact hsf
       ·rcases List.mem_cons.mp hy with c | c
        ·rw[c];exact Mn.std7 c7
        ·exact hin y (List.mem_cons_of_mem _ (List.mem_cons_of_mem _ c))
     ·rw[decide_eq_false (by omega)]
      rw[ew,if_pos c7]at hwk
      exact iteT ⟨_,rfl,kE _ hwk _ (s3.trans s4)⟩
 ·rintro σ H2 ⟨v3,v4,v5,v6,sj,s2,hv2,hwk,hsf,hin,hlj,rfl⟩
  rw[List.length_map,hpl,List.drop_length]at hwk
  have I2:=I.grow s2
  refine⟨_,rfl,_,rfl,G.p,CR,G.dx,_,rfl,I2.ob,T.cR,T.nRes,rF_len ..,?_⟩
  have I3:=I2.putP t.s.pc t.tk (.ref vl)
  have npv:vl≠G.p:=fun z=>nkv (z▸ky_p)
  exact kO sj hwk _ vl I3 (by rw[zF npv];exact hv2) wv nkv
end
end Rn
namespace Rn
open PySem L2 Ins Pg R Ar
abbrev KE:=Cc.KE
abbrev Kd:=Ck.Kd
theorem kT{A B:Prop}{ke:KE}(k:Kd)(e:ke=.of k)(h:A):if decide (V.str (keStr ke)=V.str (Ck.kdStr k))=true then A else B:=by rw[ke_eq,decide_eq_true e];exact iteT h
theorem kF{A B:Prop}{ke:KE}(k:Kd)(e:ke≠.of k)(h:B):if decide (V.str (keStr ke)=V.str (Ck.kdStr k))=true then A else B:=by rw[ke_eq,decide_eq_false e];exact iteF h
theorem ep_eq(ke:KE):decide (V.str (keStr ke)=V.str "end proc")=decide (ke=.ep):=by
 cases ke with
 |of k=>cases k<;>decide +kernel
 |ew=>decide +kernel
 |ep=>decide +kernel
theorem iw_eq(ke:KE):inV (V.str (keStr ke)) [.str "if",.str "while"]=decide (ke=.of .if_∨ke=.of .while_):=by
 cases ke with
 |of k=>cases k<;>decide +kernel
 |ew=>decide +kernel
 |ep=>decide +kernel
theorem inv_ix{P:List Ls.L}(B:Mn.Bl P){s:S}(R:Mn.RI P s){l0:Ls.L}(hP:P[s.pc]? =some l0)(ne:l0≠.ends):∀v i,((Ls.inProc P s.pc).findIdx? fun(x:Nat)=>x==v)=some i→i< (Mn.ownS s).length:=fun v i h=>by
 have hc:=R.ch
 unfold Mn.ownS
 cases hf:s.frames with
 |nil=>
  rw[hf]at hc
  rw[Mn.cx_out B hc]at h
  cases h
 |cons f fs=>
  rw[hf]at hc
  rw[Mn.cx_in B hP ne hc.1]at h
  have:=(List.findIdx?_eq_some_iff_getElem.mp h).1
  simpa using this
theorem safe_line{P:List Ls.L}{ls:List Ln}(TX:Mn.Txt P ls){s:S}(R:Mn.RI P s){l:Ln}(hl:ls[s.pc]? =some l)(hk:l.kind≠.of .stop):Safe (Mn.ownS s) l.steps 0:=by
 obtain⟨l0,hP,lv⟩:=TX.view _ _ hl
 have hix:=fun ne=>inv_ix TX.bl R hP ne
 have one:∀e,l0≠.ends→Mn.EOk e→l.steps=Cc.exprI (Ls.inProc P s.pc) e→Safe (Mn.ownS s) l.steps 0:=fun e ne ok hs=>by
  rw[hs,←List.append_nil (Cc.exprI _ _)]
  exact safe_expr (hix ne) e ok [] 0 trivial
 cases lv with
 |skip _ hs _=>rw[hs];exact trivial
 |stop h=>exact absurd h hk
 |set _ hs _ _ ok _=>exact one _ (fun z=>nomatch z) ok hs
 |get _ hs _ _ _=>rw[hs];exact trivial
 |put _ hs _ ok=>exact one _ (fun z=>nomatch z) ok hs
 |cond _ hs _ ok=>exact one _ (fun z=>nomatch z) ok hs
 |loop _ hs _ ok=>exact one _ (fun z=>nomatch z) ok hs
 |els _ hs _=>rw[hs];exact trivial
 |proc _ hs _=>rw[hs];exact trivial
 |call _ hs _ _ _ ok=>rw[hs];exact safe_all (hix (fun z=>nomatch z)) _ ok 0
 |endW _ hs _ _ _=>rw[hs];exact trivial
 |endP _ hs _ _=>rw[hs];exact trivial
 |endC _ hs _ _ _=>rw[hs];exact trivial
section
variable {P:Program}{w:World}{K:PySem.W.Frag}{mg:Str→Option Value}{base:Heap}{C CL CB CC CR aW aA:Addr}{wA fA:Nat→Addr}
def spLook(K:PySem.W.Frag)(C CL CC CR:Addr):Sp:=fun vs H Q _=>∃(G:Gr) (W:Hp) (ls:List Ln) (gv:List Int) (t:St) (PP:List Ls.L),vs=[.ref G.p]∧RnAt K C CL CC CR W H G ls gv t∧Mn.RI PP t.s∧Mn.Txt PP ls∧(∀l∈ls,l.steps.length≤16500)∧t.tk≤gv.length∧
 (Mn.stdS ls t.s (gv.drop t.tk)≠7→∀H' G',G'.p=G.p→RnAt K C CL CC CR W H' G' ls gv t→Q (.int ((Mn.stdS ls t.s (gv.drop t.tk):Nat):Int)) H')∧
 (∀l,ls[t.s.pc]? =some l→Mn.stdL l t.s (gv.drop t.tk)=7→∀H' a,RnAt K C CL CC CR W H' { G with ar:=.ref a } ls gv t→H' a=some (.lst ((Mn.resL l t.s).map V.int))→W a=none→a∉ky CR { G with ar:=.ref a } t→Q (.int 7) H')
theorem scLook:FnScope ["self","line","standing"] ["self"] (defScope sRLook):=⟨rfl,rfl,rfl,by decide +kernel,rfl,by decide +kernel,by decide +kernel⟩
theorem ok_look{f fW:Addr}{fd fdW:FuncData}(F:Fun K "look_at_line" "Run.look_at_line" sRLook f fd)(T:RnT K mg CC CR)(TP:PgT K mg CL CB)(MW:Meth K CR "work_out" fW)(GW:FnOk P w K mg base CX0 3 fW fdW ["self","steps"] (spWork K C CL CC CR))(bW:Binds K fdW ["self","steps"] []):FnOk P w K mg base CX0 4 f fd ["self"] (spLook K C CL CC CR):=by
 refine F.ok scLook (fun vs H Q E h=>by obtain⟨G,W,ls,gv,t,PP,rfl,_⟩:=h;rfl) (fun cdv A outer s0 H vs Q E hr h=>?_)
 obtain⟨G,W,ls,gv,t,PP,rfl,I,R,TX,hst,htk,kN,kY⟩:=h
 obtain⟨t0,h0⟩:=T.en
 obtain⟨t3,h3⟩:=T.tm
 obtain⟨t6,h6⟩:=T.wt
 obtain⟨t7,h7⟩:=T.go
 obtain⟨tm,hm⟩:=T.mc
 refine⟨_,zD (zV (zK yC (zJ (pv 0) rfl) (zU zR (by rfl) T.len PySem.boot_len (zA (zJ (pv 0) rfl) zG)) (zM _)) (zE (zN (zQ (v:=V.int 0) (by rfl) h0 ⟨t0,rfl⟩))) zL)
  (zD (zZ (i:=1) scLook.nd rfl (Or.inl rfl) (yH yB (zJ (pv 0) rfl) (zJ (pv 0) rfl) (fun _ _=>rfl)))
  (zD (zV (zK yC (zJ (pv 1) rfl) zT (zM _)) (zE (zN (zQ (v:=V.int 0) (by rfl) h0 ⟨t0,rfl⟩))) zL)
  (zD (zZ (i:=2) scLook.nd rfl (Or.inl rfl) (pe_meth (pv 0) T.cR MW GW hr bW .nil pass0 (zA (zJ (pv 1) rfl) zG)))
  (zD (zV (zK op_ne (pv 2) (zQ (v:=V.int 7) (by rfl) h7 ⟨t7,rfl⟩) (zM _)) (zE (zN (pv 2))) zL)
  (zD (zV (pw_and (zK yC (zJ (pv 1) rfl) zT (zM _)) (pw_and1 (zK yC (zU zR (by rfl) T.len PySem.boot_len (zA (zJ (pv 0) rfl) zG)) (zQ (v:=V.int 200) (by rfl) hm ⟨tm,rfl⟩) (zM _)))).pt (zE (zN (zQ (v:=V.int 3) (by rfl) h3 ⟨t3,rfl⟩))) zL)
  (zD (zV (pw_and (zK yC (zJ (pv 1) rfl) zT (zM _)) (pw_and1 (zK yC (zJ (pv 0) rfl) (zU zR (by rfl) T.len PySem.boot_len (zA (zJ (pv 0) rfl) zG)) (zM _)))).pt (zE (zN (zQ (v:=V.int 6) (by rfl) h6 ⟨t6,rfl⟩))) zL)
  (zE (zN (zQ (v:=V.int 7) (by rfl) h7 ⟨t7,rfl⟩))))))))),?_⟩
 obtain⟨as,hL,hal,hln⟩:=id I.pr
 refine⟨_,rfl,G.p,CR,G.dx,_,_,rfl,I.ob,T.cR,T.nAt,rF_at ..,_,rfl,G.p,CR,G.dx,_,_,rfl,I.ob,T.cR,T.nProg,rF_program ..,G.L,_,rfl,.inl (SqL.of (I.sub _ _ hL)),rfl,_,rfl,?_⟩
 show if decide (V.int _=V.int _)=true then _ else _
 rw[List.length_map,hal]
 have hpc:t.s.pc≤ls.length:=by rw[TX.len];exact R.pc
 by_cases c:t.s.pc=ls.length
 ·refine tJ (by omega) ?_
  have e:Mn.stdS ls t.s (gv.drop t.tk)=0:=by unfold Mn.stdS;rw[List.getElem?_eq_none (by omega)]
  rw[e]at kN
  exact kN (by decide) H G rfl I
 refine fI (by omega) ?_
 obtain⟨l,hl⟩:∃l,ls[t.s.pc]? =some l:=⟨_,List.getElem?_eq_getElem (by omega)⟩
 obtain⟨a,ha⟩:∃a,as[t.s.pc]? =some a:=⟨_,List.getElem?_eq_getElem (by omega)⟩
 obtain⟨dxl,stl,sol,hla,hIs,hSo⟩:=hln _ _ _ ha hl
 have eS:Mn.stdS ls t.s (gv.drop t.tk)=Mn.stdL l t.s (gv.drop t.tk):=by unfold Mn.stdS;rw[hl]
 rw[eS]at kN
 have kY:=kY l hl
 have haH:=I.sub _ _ hla
 refine⟨_,rfl,G.p,CR,G.dx,_,_,rfl,I.ob,T.cR,T.nProg,rF_program ..,_,rfl,G.p,CR,G.dx,_,_,rfl,I.ob,T.cR,T.nAt,rF_at ..,G.L,_,_,_,rfl,rfl,SqL.of (I.sub _ _ hL),zW (j:=t.s.pc) (v:=V.ref a) (by rw[List.getElem?_map,ha];rfl),?_⟩
 refine⟨_,rfl,a,CL,dxl,_,_,rfl,haH,TP.cl,TP.lK,yE ..,rfl,_,rfl,?_⟩
 by_cases ck:l.kind=.of .stop
 ·refine kT .stop ck ?_
  have e:Mn.stdL l t.s (gv.drop t.tk)=0:=by unfold Mn.stdL;rw[if_pos ck]
  rw[e]at kN
  exact kN (by decide) H G rfl I
 refine kF .stop ck ?_
 refine⟨_,rfl,G.p,G.dx,_,rfl,I.ob,rF_work,_,rfl,a,CL,dxl,_,_,rfl,haH,TP.cl,TP.lS,lnF_steps ..,G,stl,W,ls,gv,t,l.steps,PP,rfl,I,R,hIs,hst l (List.mem_of_getElem? hl),safe_line TX R hl ck,fun k hk H1 s1=>?_,fun sk hk H1 ar I1 h1 w1 n1=>?_⟩
 ·have e:Mn.stdL l t.s (gv.drop t.tk)=k:=by unfold Mn.stdL;rw[if_neg ck,hk]
  have hk7:k≠7:=by
   obtain⟨l0,hP,lv⟩:=TX.view _ _ hl
   have A:=Mn.ag TX.bl (q:=gv.drop t.tk) (out:=[]) R hP lv
   rw[e]at A
   intro z
   subst z
   have:∀e,l0≠.ends→Mn.EOk e→l.steps=Cc.exprI (Ls.inProc PP t.s.pc) e→False:=fun e ne ok hs=>by
    have B:=Mn.wk_expr (sh:=t.s.vars) (own:=Mn.ownS t.s) (vs:=Ls.inProc PP t.s.pc) (look:=t.s.look) (fun v _=>Mn.look_eq TX.bl R hP ne v) (fun v _=>Mn.look_in R v) e ok [] []
    rw[List.append_nil,←hs,hk]at B
    cases ev:Ls.Expr.eval t.s.look e with
    |ok z=>rw[ev]at B;cases B.1
    |error k=>rw[ev]at B;cases B.1;have:=B.2.2 7 rfl;omega
   cases lv with
   |skip _ hs _=>rw[hs]at hk;cases hk
   |stop h=>exact ck h
   |set _ hs _ _ ok _=>exact this _ (fun z=>nomatch z) ok hs
   |get _ hs _ _ _=>rw[hs]at hk;cases hk
   |put _ hs _ ok=>exact this _ (fun z=>nomatch z) ok hs
   |cond _ hs _ ok=>exact this _ (fun z=>nomatch z) ok hs
   |loop _ hs _ ok=>exact this _ (fun z=>nomatch z) ok hs
   |els _ hs _=>rw[hs]at hk;cases hk
   |proc _ hs _=>rw[hs]at hk;cases hk
   |call hk1 hs ht1 hp1 hn1 ok=>
    rename_i p es x
    have B:=Mn.wk_all (sh:=t.s.vars) (own:=Mn.ownS t.s) (vs:=Ls.inProc PP t.s.pc) (look:=t.s.look) (fun v _=>Mn.look_eq TX.bl R hP (fun z=>nomatch z) v) (fun v _=>Mn.look_in R v) es ok []
    rw[←hs,hk]at B
    cases ev:Ls.evalAll t.s.look es with
    |ok z=>rw[ev]at B;cases B.1
    |error k=>rw[ev]at B;cases B.1;have:=B.2.2 7 rfl;omega
   |endW _ hs _ _ _=>rw[hs]at hk;cases hk
   |endP _ hs _ _=>rw[hs]at hk;cases hk
   |endC _ hs _ _ _=>rw[hs]at hk;cases hk
  refine⟨_,rfl,rfl,_,rfl,?_⟩
  show if(!decide (V.int _=V.int 7))=true then _ else _
  rw[decV,decide_eq_false (by omega)]
  rw[e]at kN
  exact iteT ⟨_,rfl,kN hk7 H1 G rfl (I.grow s1)⟩
 ·have e:Mn.stdL l t.s (gv.drop t.tk)=if l.kind=.of .do_∧t.s.frames.length=200 then 3 else if l.kind=.of .get∧gv.drop t.tk=[]then 6 else 7:=by unfold Mn.stdL;rw[if_neg ck,hk]
  have er:Mn.resL l t.s=sk.reverse:=by unfold Mn.resL;rw[hk]
  rw[←er]at h1
  rw[e]at kN kY
  have ha1:=I1.sub _ _ hla
  refine⟨_,rfl,rfl,_,rfl,?_⟩
  show if(!decide (V.int _=V.int 7))=true then _ else _
  rw[decV,decide_eq_true rfl]
  refine iteF ⟨_,rfl,a,CL,dxl,_,_,rfl,ha1,TP.cl,TP.lK,yE ..,rfl,_,rfl,?_⟩
  have last:(l.kind=.of .do_→t.s.frames.length≠200)→tSeq (tIfS (tAnd (tTest (tOp rEq (tFld K (tVar 1) "kind") (tC (.str "get")))) (tTest (tOp rEq (tFld K (tVar 0) "taken") (tCB (fun xs H Q=>∃p ys,xs=[.ref p]∧(SqL K H p ys∨SqT K H p ys)∧Q (.int ys.length) H) (tCons (tFld K (tVar 0) "given") tNil))))) (tRet (tC (V.int 6))) tNext) (tRet (tC (V.int 7))) { nx:=fun _ H'=>Q .non H',rt:=Q } [some (.ref G.p),some (.ref a),some (.int 7)] H1:=fun hd=>by
   rw[if_neg (fun z=>hd z.1 z.2)]at kN kY
   refine⟨_,rfl,a,CL,dxl,_,_,rfl,ha1,TP.cl,TP.lK,yE ..,rfl,_,rfl,?_⟩
   by_cases cg:l.kind=.of .get
   ·refine kT .get cg ?_
    refine⟨_,rfl,G.p,CR,G.dx,_,_,rfl,I1.ob,T.cR,T.nTaken,rF_taken ..,_,rfl,G.p,CR,G.dx,_,_,rfl,I1.ob,T.cR,T.nGiven,rF_given ..,G.ag,_,rfl,.inl (I1.sub.seq I1.gi),rfl,_,rfl,?_⟩
    show if decide (V.int _=V.int _)=true then _ else _
    rw[List.length_map]
    by_cases cz:t.tk=gv.length
    ·refine tJ (by omega) ?_
     rw[if_pos ⟨cg,by rw[cz,List.drop_length]⟩]at kN
     exact kN (by decide) H1 { G with ar:=.ref ar } rfl I1
    ·refine fI (by omega) ?_
     have hz:gv.drop t.tk≠[]:=fun z=>by
      have:=congrArg List.length z
      rw[List.length_drop]at this
      simp at this
      omega
     rw[if_neg (fun z=>hz z.2)]at kY
     exact kY rfl H1 ar I1 h1 w1 n1
   ·refine kF .get cg (iteF ?_)
    rw[if_neg (fun z=>cg z.1)]at kY
    exact kY rfl H1 ar I1 h1 w1 n1
  by_cases cd:l.kind=.of .do_
  ·refine kT .do_ cd ?_
   refine⟨_,rfl,G.p,CR,G.dx,_,_,rfl,I1.ob,T.cR,T.nCalls,rF_calls ..,G.acl,_,rfl,.inl (SqL.of I1.ca),rfl,_,rfl,?_⟩
   show if decide (V.int _=V.int 200)=true then _ else _
   rw[List.length_map,List.length_reverse,I.cs_len]
   by_cases c2:t.s.frames.length=200
   ·refine tJ (by omega) ?_
    rw[if_pos ⟨cd,c2⟩]at kN
    exact kN (by decide) H1 { G with ar:=.ref ar } rfl I1
   ·exact fI (by omega) (last fun _=>c2)
  ·exact kF .do_ cd (iteF (last fun z=>absurd z cd))
end
end Rn
namespace Rn
open PySem L2 Ins Pg R Ar
theorem sh_set{f:Nat→Int}{i:Nat}{z:Int}:(shV f).set i (V.int z)=shV (Ls.set f i z):=by
 unfold shV
 refine List.ext_getElem? fun j=>?_
 by_cases c:i=j
 ·subst c
  by_cases h:i<26
  ·rw[List.getElem?_set_self (by simpa using h),List.getElem?_map,List.getElem?_range h]
   show _=some (V.int (Ls.set f i z i))
   unfold Ls.set
   rw[if_pos rfl]
  ·rw[List.getElem?_eq_none (by simp;omega),List.getElem?_eq_none (by simp;omega)]
 ·rw[List.getElem?_set_ne c,List.getElem?_map,List.getElem?_map]
  by_cases h:j<26
  ·rw[List.getElem?_range h]
   show some (V.int (f j))=some (V.int (Ls.set f i z j))
   unfold Ls.set
   rw[if_neg (fun e=>c e.symm)]
  ·rw[List.getElem?_eq_none (by simp;omega)];rfl
theorem sh_ix{f:Nat→Int}{i:Nat}(h:i<26):ixN (shV f).length (i:Int)=some i:=by
 have e:(shV f).length=26:=by unfold shV;simp
 unfold ixN
 rw[e,if_pos (by omega),if_pos (by omega)]
 simp
theorem own_ix{l:List Int}{i:Nat}(h:i<l.length):ixN (l.map V.int).length (i:Int)=some i:=by
 unfold ixN
 rw[List.length_map,if_pos (by omega),if_pos (by omega)]
 simp
theorem ky_ne{ks:List Addr}{a b:Addr}(h:b∉ks)(ha:a∈ks):b≠a:=fun z=>h (z▸ha)
section
variable {P:Program}{w:World}{K:PySem.W.Frag}{mg:Str→Option Value}{base:Heap}{C CL CB CC CR aW aA:Addr}{wA fA:Nat→Addr}
def spStore(K:PySem.W.Frag)(C CL CC CR:Addr):Sp:=fun vs H Q _=>∃(G:Gr) (x:Addr) (z:Int) (W:Hp) (ls:List Ln) (gv:List Int) (t:St) (us:List Nat) (v:Nat) (s':S),vs=[.ref G.p,.ref x,.int z]∧RnAt K C CL CC CR W H G ls gv t∧InsX C W x (Cc.varI us v 5 3)∧v<26∧Mn.Gv t.s us v z s'∧
 ∀H',RnAt K C CL CC CR W H' G ls gv { t with s:=s' }→(∀b o,H b=some o→b∉ky CR G t→H' b=some o)→Q .non H'
theorem scStore:FnScope ["self","instruction","value","own"] ["self","instruction","value"] (defScope sRStore):=⟨rfl,rfl,rfl,by decide +kernel,rfl,by decide +kernel,by decide +kernel⟩
theorem ok_store{f:Addr}{fd:FuncData}(F:Fun K "store_value" "Run.store_value" sRStore f fd)(T:RnT K mg CC CR)(TI:InsC K mg C aW wA):FnOk P w K mg base CX0 1 f fd ["self","instruction","value"] (spStore K C CL CC CR):=by
 refine F.ok scStore (fun vs H Q E h=>by obtain⟨G,x,z,W,ls,gv,t,us,v,s',rfl,_⟩:=h;rfl) (fun cdv A outer s0 H vs Q E hr h=>?_)
 obtain⟨G,x,z,W,ls,gv,t,us,v,s',rfl,I,hx,hv,g,k⟩:=h
 obtain⟨t5,h5⟩:=T.sl
 refine⟨_,zE (zV (zK yC (zJ (pv 1) rfl) (zQ (v:=V.int 5) (by rfl) h5 ⟨t5,rfl⟩) (zM _))
  (zD (zZ (i:=3) scStore.nd rfl (Or.inl rfl) (zJ (yH yB (zJ (pv 0) rfl) (pe_un un_neg zI) (fun _ _=>rfl)) rfl)) (zE (ps_asg (pv 2) (pg_sub (pv 3) (yH yB (zJ (pv 1) rfl) zI (fun _ _=>rfl)) set_list))))
  (zE (ps_asg (pv 2) (pg_sub (zJ (pv 0) rfl) (yH yB (zJ (pv 1) rfl) zI (fun _ _=>rfl)) set_list)))),?_⟩
 cases g with
 |own hf he hi h1 h2=>
  rename_i f0 fs i lo
  rw[he]at hx
  obtain⟨dxi,l,hx1,hl1⟩:=hx
  have hxH:=I.sub _ _ hx1
  have hlH:=I.sub _ _ hl1
  obtain⟨c,cs,oa,os,dxc,hcs,hos,hcW,hoH,_⟩:=I.top hf
  have hca:=I.ca
  rw[hcs]at hca
  have hil:i< (f0.locals.map (·.2)).length:=by rw[List.length_map];exact hi
  refine⟨_,rfl,x,C,dxi,_,_,rfl,hxH,TI.cl,TI.nN,zX ..,rfl,_,rfl,tJ rfl ?_⟩
  refine⟨_,rfl,G.p,CR,G.dx,_,_,rfl,I.ob,T.cR,T.nCalls,rF_calls ..,_,rfl,G.acl,_,_,_,rfl,rfl,SqL.of hca,atI_rev (g:=V.ref) (j:=0) (z:=c) rfl rfl,c,CC,dxc,_,_,rfl,I.sub _ _ hcW,T.cC,T.nW,callF_own ..,?_⟩
  refine⟨_,rfl,_,rfl,_,rfl,x,C,dxi,_,_,rfl,hxH,TI.cl,TI.nO,xB ..,l,_,_,_,rfl,rfl,SqL.of hlH,zW (j:=0) rfl,oa,_,_,i,rfl,rfl,hoH,own_ix hil,?_⟩
  rw[show((f0.locals.map (·.2)).map V.int).set i (V.int z)=((f0.locals.map (·.2)).set i z).map V.int from(List.map_set ..).symm]
  have mo:oa∈ky CR G t:=by
   unfold ky cells
   rw[hos,hf]
   exact .tail _ (.tail _ (.tail _ (.tail _ (.head _))))
  exact k _ (I.putF (g:=⟨f0.back,lo⟩) hos hf rfl h2) fun b o e hb=>by rw[zF (ky_ne hb mo)];exact e
 |all he=>
  rw[he]at hx
  obtain⟨dxi,l,hx1,hl1⟩:=hx
  have hxH:=I.sub _ _ hx1
  have hlH:=I.sub _ _ hl1
  refine⟨_,rfl,x,C,dxi,_,_,rfl,hxH,TI.cl,TI.nN,zX ..,rfl,_,rfl,fI (show(3:Int)≠5 by decide) ?_⟩
  refine⟨_,rfl,_,rfl,G.p,CR,G.dx,_,_,rfl,I.ob,T.cR,T.nShared,rF_shared ..,_,rfl,x,C,dxi,_,_,rfl,hxH,TI.cl,TI.nO,xB ..,l,_,_,_,rfl,rfl,SqL.of hlH,zW (j:=0) rfl,G.ash,_,_,v,rfl,rfl,I.sh,sh_ix hv,?_⟩
  rw[sh_set]
  exact k _ (I.putV _) fun b o e hb=>by rw[zF (ky_ne hb ky_ash)];exact e
def plc(l:Ln)(pc:Nat)(z:Int):Nat:=if((l.kind=.of .if_∨l.kind=.of .while_)∧z≠0)∨l.target=none then pc+1 else l.target.getD 0
def spBehind(K:PySem.W.Frag)(C CL CC CR:Addr):Sp:=fun vs H Q _=>∃(G:Gr) (a:Addr) (W:Hp) (ls:List Ln) (gv:List Int) (t:St) (l:Ln) (n:Nat) (z:Int),vs=[.ref G.p,.ref a]∧RnAt K C CL CC CR W H G ls gv t∧LnAt C CL W W a n l∧
 ((l.kind=.of .if_∨l.kind=.of .while_)→∃ar rs,G.ar=.ref ar∧H ar=some (.lst (V.int z::rs)))∧
 (l.kind=.ep→∃f fs,t.s.frames=f::fs∧∀H' G',G'.p=G.p→RnAt K C CL CC CR W H' G' ls gv { t with s:={ t.s with frames:=fs } }→Q (.int (f.back:Int)) H')∧
 (l.kind≠.ep→∀H',Same H H'→Q (.int ((plc l t.s.pc z:Nat):Int)) H')
theorem scBehind:FnScope ["self","line","passed"] ["self","line"] (defScope sRBehind):=⟨rfl,rfl,rfl,by decide +kernel,rfl,by decide +kernel,by decide +kernel⟩
theorem ok_behind{f:Addr}{fd:FuncData}(F:Fun K "place_behind" "Run.place_behind" sRBehind f fd)(T:RnT K mg CC CR)(TP:PgT K mg CL CB):FnOk P w K mg base CX0 1 f fd ["self","line"] (spBehind K C CL CC CR):=by
 refine F.ok scBehind (fun vs H Q E h=>by obtain⟨G,a,W,ls,gv,t,l,n,z,rfl,_⟩:=h;rfl) (fun cdv A outer s0 H vs Q E hr h=>?_)
 obtain⟨G,a,W,ls,gv,t,l,n,z,rfl,I,hl,hz,kE,kN⟩:=h
 obtain⟨dxl,stl,sol,hla,hIs,hSo⟩:=hl
 refine⟨_,zD (zV (zK yC (zJ (pv 1) rfl) zT (zM _)) (zE (zN (zJ (pe_bm0 PySem.F.plainAttrs_list PySem.F.slot_list_pop PySem.F.type_list_pop mt_pop (zJ (pv 0) rfl)) rfl))) zL)
  (zD (zZ (i:=2) scBehind.nd rfl (Or.inl rfl) (pe_and (yK yR (zJ (pv 1) rfl) (pe_tup (zA zT (zA zT zG))) rfl) (pe_one (yK op_ne (yH yB (zJ (pv 0) rfl) zI (fun _ _=>rfl)) zI (zM _)))))
  (zD (zV (pw_or (pt_val (pv 2) (fun _=>rfl)) (pw_or1 (zK op_isN (zJ (pv 1) rfl) pe_non (zM _)))).pt (zE (zN (yQ op_add (zJ (pv 0) rfl) zI))) zL)
  (zE (zN (zJ (pv 1) rfl))))),?_⟩
 have haH:=I.sub _ _ hla
 refine⟨_,rfl,a,CL,dxl,_,_,rfl,haH,TP.cl,TP.lK,yE ..,rfl,_,rfl,?_⟩
 show if decide (V.str (keStr l.kind)=V.str "end proc")=true then _ else _
 rw[ep_eq]
 by_cases ce:l.kind=.ep
 ·rw[decide_eq_true ce]
  obtain⟨f0,fs,hf,k⟩:=kE ce
  obtain⟨c,cs,oa,os,dxc,hcs,hos,hcW,hoH,hol,hcp⟩:=I.top hf
  have hca:=I.ca
  rw[hcs]at hca
  refine iteT ⟨_,rfl,G.p,CR,G.dx,_,_,rfl,I.ob,T.cR,T.nCalls,rF_calls ..,.inl ⟨rfl,_,SqL.of hca⟩,G.acl,_,_,rfl,rfl,hca,rev_last c cs,?_⟩
  rw[rev_drop]
  have I1:=I.pop hf hcs hos hol hcp
  exact⟨c,CC,dxc,_,_,rfl,I1.sub _ _ hcW,T.cC,T.nB,callF_back ..,k _ { G with cs:=cs,os:=os } rfl I1⟩
 rw[decide_eq_false ce]
 have kN:=kN ce
 have h2l:(2:Nat)≤sizeLine:=by have:=zP;omega
 refine iteF ⟨_,rfl,a,CL,dxl,_,_,rfl,haH,TP.cl,TP.lK,yE ..,h2l,fun q hq=>⟨q,_,rfl,.inr (SqT.of zB),rfl,rfl,_,rfl,?_⟩⟩
 have s1:Same H (upd H q (.tup [.str "if",.str "while"])):=Same.upd' (Same.refl H) hq
 revert s1
 generalize upd H q (.tup [.str "if",.str "while"])=H1
 intro s1
 have I1:=I.grow s1
 have ha1:=s1 _ _ haH
 have kN:=kN H1 s1
 have fin:∀bz:Bool,(bz=true↔(l.kind=.of .if_∨l.kind=.of .while_)∧z≠0)→tSeq (tIfS (tOr (tB (tVar 2)) (tTest (tOp (fun x y H Q=>y=.non∧Q (.bl (decide (x=.non))) H) (tFld K (tVar 1) "target") (tC .non)))) (tRet (tOp (rI0 fun i j=>.int (i+j)) (tFld K (tVar 0) "at") (tC (.int 1)))) tNext) (tRet (tFld K (tVar 1) "target")) { nx:=fun _ H'=>Q .non H',rt:=Q } [some (.ref G.p),some (.ref a),some (.bl bz)] H1:=fun bz hb=>by
  refine⟨_,rfl,_,rfl,?_⟩
  unfold plc at kN
  cases bz with
  |true=>
   rw[if_pos (.inl (hb.mp rfl))]at kN
   refine iteT (iteT ⟨_,rfl,G.p,CR,G.dx,_,_,rfl,I1.ob,T.cR,T.nAt,rF_at ..,_,_,rfl,rfl,?_⟩)
   have e:((t.s.pc:Int) +1)=((t.s.pc+1:Nat):Int):=by omega
   dsimp only
   rw[e]
   exact kN
  |false=>
   have hb':¬((l.kind=.of .if_∨l.kind=.of .while_)∧z≠0):=fun x=>by have:=hb.mpr x;cases this
   refine iteF ⟨_,rfl,a,CL,dxl,_,_,rfl,ha1,TP.cl,TP.lT,lnF_target ..,rfl,_,rfl,?_⟩
   cases ht:l.target with
   |none=>
    rw[if_pos (.inr ht)]at kN
    refine iteT ⟨_,rfl,G.p,CR,G.dx,_,_,rfl,I1.ob,T.cR,T.nAt,rF_at ..,_,_,rfl,rfl,?_⟩
    have e:((t.s.pc:Int) +1)=((t.s.pc+1:Nat):Int):=by omega
    dsimp only
    rw[e]
    exact kN
   |some n=>
    rw[if_neg (fun x=>by rcases x with x | x;exact hb' x;rw[ht]at x;cases x),ht]at kN
    rw[show decide (natO (some n)=V.non)=false from decide_eq_false (fun z=>nomatch z)]
    rw[ht]at ha1
    exact iteF ⟨_,rfl,a,CL,dxl,_,_,rfl,ha1,TP.cl,TP.lT,lnF_target ..,kN⟩
 rw[iw_eq]
 by_cases cw:l.kind=.of .if_∨l.kind=.of .while_
 ·rw[decide_eq_true cw]
  obtain⟨ar,rs,ea,har⟩:=hz cw
  have hob:=I1.ob
  unfold Gr.obj at hob
  rw[ea]at hob
  refine iteT ⟨_,rfl,G.p,CR,G.dx,_,_,rfl,hob,T.cR,T.nRes,rF_results ..,ar,_,_,_,rfl,rfl,SqL.of (s1 _ _ har),zW (j:=0) rfl,rfl,?_⟩
  refine fin _ ?_
  rw[decV]
  by_cases c0:z=0
  ·rw[decide_eq_true c0];exact⟨(fun x=>by cases x),fun x=>absurd c0 x.2⟩
  ·rw[decide_eq_false c0];exact⟨fun _=>⟨cw,c0⟩,fun _=>rfl⟩
 ·rw[decide_eq_false cw]
  exact iteF (fin false ⟨(fun x=>by cases x),fun x=>absurd x.1 cw⟩)
def spCallInit(CC:Addr):Sp:=fun vs H Q _=>∃(p dx o:Addr) (b:V),vs=[.ref p,b,.ref o]∧H p=some (.ins CC dx [])∧Q .non (upd H p (.ins CC dx (callF b o)))
theorem scCallInit:FnScope ["self","back","own"] ["self","back","own"] (defScope sCallInit):=⟨rfl,rfl,rfl,by decide +kernel,rfl,by decide +kernel,by decide +kernel⟩
theorem ok_callInit{f:Addr}{fd:FuncData}(F:Fun K "__init__" "Call.__init__" sCallInit f fd)(T:RnT K mg CC CR):FnOk P w K mg base CX0 1 f fd ["self","back","own"] (spCallInit CC):=by
 refine F.ok scCallInit (fun vs H Q E h=>by obtain⟨p,dx,o,b,rfl,_⟩:=h;rfl) (fun cdv A outer s0 H vs Q E hr h=>?_)
 obtain⟨p,dx,o,b,rfl,hp,k⟩:=h
 refine⟨_,zD (zY (pv 0) (pv 1) rfl) (zE (zY (pv 0) (pv 2) rfl)),?_⟩
 refine⟨_,rfl,_,rfl,p,CC,dx,[],rfl,hp,T.cC,T.nB,(by show 0<1000;decide),?_⟩
 refine⟨_,rfl,_,rfl,p,CC,dx,_,rfl,zB,T.cC,T.nW,(by show 1<1000;decide),?_⟩
 show Q .non (upd (upd H p _) p _)
 rw[yP]
 exact k
end
end Rn
namespace Rn
open PySem L2 Ins Pg R Ar
theorem give_to(s:S)(k v:Nat)(z:Int):(s.to k).give v z=(s.give v z).to k:=by
 unfold Ls.S.give Ls.S.to
 cases s.frames with
 |nil=>rfl
 |cons f fs=>
  dsimp only
  split<;>rfl
theorem give_pc(s:S)(v:Nat)(z:Int):(s.give v z).pc=s.pc:=by
 unfold Ls.S.give
 cases s.frames with
 |nil=>rfl
 |cons f fs=>
  dsimp only
  split<;>rfl
theorem skipT{σ:L2.St}{H:Hp}{ta:TE}{A rest:TS}{D:Ends}{ke:KE}(k:Kd)(rd:∀Q:VK,Q (.str (keStr ke)) H→ta σ H Q)(ne:ke≠.of k)(h:rest D σ H):tSeq (tIfS (tTest (tOp rEq ta (tC (.str (Ck.kdStr k))))) A tNext) rest D σ H:=by
 refine rd _ ⟨rfl,_,rfl,?_⟩
 exact kF k ne h
theorem takeT{σ:L2.St}{H:Hp}{ta:TE}{A rest:TS}{D:Ends}{ke:KE}(k:Kd)(rd:∀Q:VK,Q (.str (keStr ke)) H→ta σ H Q)(e:ke=.of k)(h:A { D with nx:=rest D } σ H):tSeq (tIfS (tTest (tOp rEq ta (tC (.str (Ck.kdStr k))))) A tNext) rest D σ H:=by
 refine rd _ ⟨rfl,_,rfl,?_⟩
 exact kT k e h
section
variable {P:Program}{w:World}{K:PySem.W.Frag}{mg:Str→Option Value}{base:Heap}{C CL CB CC CR aW aA:Addr}{wA fA:Nat→Addr}
def spRLine(K:PySem.W.Frag)(C CL CC CR:Addr):Sp:=fun vs H Q _=>∃(G:Gr) (ar:Addr) (W:Hp) (ls:List Ln) (gv:List Int) (t:St) (PP:List Ls.L) (l0:Ls.L) (l:Ln),vs=[.ref G.p]∧G.ar=.ref ar∧RnAt K C CL CC CR W H G ls gv t∧Mn.RI PP t.s∧Mn.Txt PP ls∧t.tk≤gv.length∧t.out.length≤20000∧PP[t.s.pc]? =some l0∧ls[t.s.pc]? =some l∧Mn.stdL l t.s (gv.drop t.tk)=7∧H ar=some (.lst ((Mn.resL l t.s).map V.int))∧W ar=none∧ar∉ky CR G t∧
 ∀W' H' G' tk',Same W W'→G'.p=G.p→tk'≤gv.length→gv.drop tk'=(Mn.nextS PP l0 t.s (gv.drop t.tk) t.out (Mn.resL l t.s)).2.1→RnAt K C CL CC CR W' H' G' ls gv ⟨(Mn.nextS PP l0 t.s (gv.drop t.tk) t.out (Mn.resL l t.s)).1,tk',(Mn.nextS PP l0 t.s (gv.drop t.tk) t.out (Mn.resL l t.s)).2.2⟩→Q .non H'
theorem scRLine:FnScope ["self","line"] ["self"] (defScope sRLine):=⟨rfl,rfl,rfl,by decide +kernel,rfl,by decide +kernel,by decide +kernel⟩
theorem ok_rLine{f fS fB fI:Addr}{fd fdS fdB fdI:FuncData}(F:Fun K "run_line" "Run.run_line" sRLine f fd)(T:RnT K mg CC CR)(TP:PgT K mg CL CB)(TI:InsC K mg C aW wA)
  (MS:Mt K CR "store_value" "Run.store_value" sRStore fS fdS ["self","instruction","value"])(MB:Mt K CR "place_behind" "Run.place_behind" sRBehind fB fdB ["self","line"])
  (MI:Mk K CC fI)(FI:Fun K "__init__" "Call.__init__" sCallInit fI fdI)(bI:Binds K fdI ["self","back","own"] []):FnOk P w K mg base CX0 3 f fd ["self"] (spRLine K C CL CC CR):=by
 have GS:FnOk P w K mg base CX0 1 fS fdS ["self","instruction","value"] (spStore K C CL CC CR):=ok_store MS.fn T TI
 have GB:FnOk P w K mg base CX0 1 fB fdB ["self","line"] (spBehind K C CL CC CR):=ok_behind MB.fn T TP
 have GI:FnOk P w K mg base CX0 1 fI fdI ["self","back","own"] (spCallInit CC):=ok_callInit FI T
 refine F.ok scRLine (fun vs H Q E h=>by obtain⟨G,ar,W,ls,gv,t,PP,l0,l,rfl,_⟩:=h;rfl) (fun cdv A outer s0 H vs Q E hr h=>?_)
 obtain⟨G,ar,W,ls,gv,t,PP,l0,l,rfl,ear,I,R,TX,htk,hol,hP,hl,h7,har,war,nar,k⟩:=h
 have hr1:Room 1 _:=hr.mono (by decide)
 refine⟨_,zD (zZ (i:=1) scRLine.nd rfl (Or.inl rfl) (yH yB (zJ (pv 0) rfl) (zJ (pv 0) rfl) (fun _ _=>rfl)))
  (zD (zV (zK yC (zJ (pv 1) rfl) zT (zM _)) (zE (yA (pe_meth (pv 0) T.cR MS.me GS hr1 MS.bd .nil pass0 (zA (zJ (pv 1) rfl) (zA (yH yB (zJ (pv 0) rfl) zI (fun _ _=>rfl)) zG))))) zL)
  (zD (zV (zK yC (zJ (pv 1) rfl) zT (zM _)) (zD (yA (pe_meth (pv 0) T.cR MS.me GS hr1 MS.bd .nil pass0 (zA (zJ (pv 1) rfl) (zA (yH yB (zJ (pv 0) rfl) (zJ (pv 0) rfl) (fun _ _=>rfl)) zG)))) (zE (zY (pv 0) (yQ op_add (zJ (pv 0) rfl) zI) rfl))) zL)
  (zD (zV (zK yC (zJ (pv 1) rfl) zT (zM _)) (zE (yA (xA PySem.F.plainAttrs_list PySem.F.slot_list_append PySem.F.type_list_append yD (zJ (pv 0) rfl) (zA (yH yB (zJ (pv 0) rfl) zI (fun _ _=>rfl)) zG)))) zL)
  (zD (zV (zK yC (zJ (pv 1) rfl) zT (zM _)) (zE (yA (xA PySem.F.plainAttrs_list PySem.F.slot_list_append PySem.F.type_list_append yD (zJ (pv 0) rfl) (zA (pe_make MI GI hr (by rfl) T.mgC bI .nil pass0 (zA (yQ op_add (zJ (pv 0) rfl) zI) (zA (zJ (pv 0) rfl) zG))) zG)))) zL)
  (zE (zY (pv 0) (pe_meth (pv 0) T.cR MB.me GB hr1 MB.bd .nil pass0 (zA (pv 1) zG)) rfl)))))),?_⟩
 obtain⟨as,hL,hal,hln⟩:=id I.pr
 obtain⟨a,ha⟩:∃a,as[t.s.pc]? =some a:=⟨_,List.getElem?_eq_getElem (by rw[hal];exact(List.getElem?_eq_some_iff.mp hl).1)⟩
 have hLn:=hln _ _ _ ha hl
 obtain⟨dxl,stl,sol,hla,hIs,hSo⟩:=id hLn
 obtain⟨l0',hP',lv⟩:=TX.view _ _ hl
 rw[hP]at hP'
 cases hP'
 have big:=zP
 refine⟨_,rfl,G.p,CR,G.dx,_,_,rfl,I.ob,T.cR,T.nProg,rF_program ..,_,rfl,G.p,CR,G.dx,_,_,rfl,I.ob,T.cR,T.nAt,rF_at ..,G.L,_,_,_,rfl,rfl,SqL.of (I.sub _ _ hL),zW (j:=t.s.pc) (v:=V.ref a) (by rw[List.getElem?_map,ha];rfl),?_⟩
 have last:∀(W1 H1:Hp) (G1:Gr) (t1:St) (z:Int),Same W W1→G1.p=G.p→RnAt K C CL CC CR W1 H1 G1 ls gv t1→t1.s.pc=t.s.pc→l.kind≠.ep→((l.kind=.of .if_∨l.kind=.of .while_)→∃ar rs,G1.ar=.ref ar∧H1 ar=some (.lst (V.int z::rs)))→
   t1.tk≤gv.length→gv.drop t1.tk=(Mn.nextS PP l0 t.s (gv.drop t.tk) t.out (Mn.resL l t.s)).2.1→t1.out=(Mn.nextS PP l0 t.s (gv.drop t.tk) t.out (Mn.resL l t.s)).2.2→{ t1.s with pc:=plc l t.s.pc z }=(Mn.nextS PP l0 t.s (gv.drop t.tk) t.out (Mn.resL l t.s)).1→
   sFld K (tVar 0) (tMeth CR "place_behind" (spBehind K C CL CC CR) [] E0 (tVar 0) (tCons (tVar 1) tNil)) "at" { nx:=fun _ H'=>Q .non H',rt:=Q } [some (.ref G.p),some (.ref a)] H1:=fun W1 H1 G1 t1 z sW ep I1 epc nep hz h1 h2 h3 h4=>by
  have hob:=I1.ob
  rw[ep]at hob
  refine⟨_,rfl,G.p,G1.dx,_,rfl,hob,rF_behind,_,rfl,G1,a,W1,ls,gv,t1,l,t.s.pc+1,z,by rw[ep];rfl,I1,?_,hz,fun e=>absurd e nep,fun _ H2 s2=>?_⟩
  ·obtain⟨dx,st,so,e,x4,x5⟩:=hLn
   exact⟨dx,st,so,sW _ _ e,x4.mono sW,x5.mono sW⟩
  ·have I2:=I1.grow s2
   have hob2:=I2.ob
   rw[ep]at hob2
   refine⟨_,rfl,G.p,CR,G1.dx,_,rfl,hob2,T.cR,T.nAt,rF_len ..,?_⟩
   rw[epc]
   have I3:=I2.putP (plc l t.s.pc z) t1.tk G1.ar
   refine k W1 _ G1 t1.tk sW ep h1 h2 ?_
   rw[←h4,←h3,←ep]
   exact I3
 have rdH:∀{H1:Hp},H1 a=some (.ins CL dxl (lnF (.int ((t.s.pc+1:Nat):Int)) (.str (keStr l.kind)) (.ref stl) sol (natO l.target) (.int (l.amount:Int))))→∀Q:VK,Q (.str (keStr l.kind)) H1→tFld K (tVar 1) "kind" [some (.ref G.p),some (.ref a)] H1 Q:=fun h Q q=>rdF rfl h TP.cl TP.lK (yE ..) q
 have haH:=I.sub _ _ hla
 have hob:=I.ob
 unfold Gr.obj at hob
 rw[ear]at hob
 have plain:∀{A1 A2 A3 A4:TS} (z:Int),l.kind≠.of .set→l.kind≠.of .get→l.kind≠.of .put→l.kind≠.of .do_→l.kind≠.ep→((l.kind=.of .if_∨l.kind=.of .while_)→Mn.resL l t.s=[z])→
   (Mn.nextS PP l0 t.s (gv.drop t.tk) t.out (Mn.resL l t.s)).2=(gv.drop t.tk,t.out)→{ t.s with pc:=plc l t.s.pc z }=(Mn.nextS PP l0 t.s (gv.drop t.tk) t.out (Mn.resL l t.s)).1→
   tSeq (tIfS (tTest (tOp rEq (tFld K (tVar 1) "kind") (tC (.str (Ck.kdStr .set))))) A1 tNext) (tSeq (tIfS (tTest (tOp rEq (tFld K (tVar 1) "kind") (tC (.str (Ck.kdStr .get))))) A2 tNext) (tSeq (tIfS (tTest (tOp rEq (tFld K (tVar 1) "kind") (tC (.str (Ck.kdStr .put))))) A3 tNext) (tSeq (tIfS (tTest (tOp rEq (tFld K (tVar 1) "kind") (tC (.str (Ck.kdStr .do_))))) A4 tNext)
    (sFld K (tVar 0) (tMeth CR "place_behind" (spBehind K C CL CC CR) [] E0 (tVar 0) (tCons (tVar 1) tNil)) "at")))) { nx:=fun _ H'=>Q .non H',rt:=Q } [some (.ref G.p),some (.ref a)] H:=fun {_ _ _ _} z h1 h2 h3 h4 h5 h6 h7 h8=>
  skipT .set (rdH haH) h1 (skipT .get (rdH haH) h2 (skipT .put (rdH haH) h3 (skipT .do_ (rdH haH) h4 (last W H G t z (Same.refl W) rfl I rfl h5 (fun x=>⟨ar,[],ear,by rw[har,h6 x];rfl⟩) htk (by rw[h7]) (by rw[h7]) h8))))
 cases lv with
 |skip hk hs ht=>exact plain 0 (by rw[hk];decide) (by rw[hk];decide) (by rw[hk];decide) (by rw[hk];decide) (by rw[hk];decide) (fun x=>by rw[hk]at x;rcases x with x | x<;>cases x) rfl (by unfold plc;rw[if_pos (.inr ht)];rfl)
 |stop hk=>exact absurd h7 (by unfold Mn.stdL;rw[if_pos hk];decide)
 |set hk hs hso ht ok hv=>
  rename_i v e
  obtain⟨z,hz,hzr⟩:=Mn.res_one TX.bl R hP (fun z=>nomatch z) ok hs h7 (by rw[hk];decide)
  rw[hso]at hSo
  obtain⟨xp,rfl,hxp⟩:=hSo
  have g:=Mn.gives TX.bl TX.nd R hP (fun z=>nomatch z) v z t.s.pc
  rw[hz]at har k last
  refine takeT .set (rdH haH) hk ?_
  refine⟨_,rfl,G.p,G.dx,_,rfl,I.ob,rF_store,_,rfl,a,CL,dxl,_,_,rfl,haH,TP.cl,TP.lO,lnF_store ..,_,rfl,G.p,CR,G.dx,_,_,rfl,hob,T.cR,T.nRes,rF_results ..,ar,_,_,_,rfl,rfl,SqL.of har,zW (j:=0) rfl,G,xp,z,W,ls,gv,t,_,v,_,rfl,I,hxp,hv,g,fun H1 I1 fr1=>?_⟩
  have ha1:=I1.sub _ _ hla
  refine skipT .get (rdH ha1) (by rw[hk];decide) (skipT .put (rdH ha1) (by rw[hk];decide) (skipT .do_ (rdH ha1) (by rw[hk];decide) ?_))
  refine last W H1 G { t with s:=t.s.give v z } 0 (Same.refl W) rfl I1 ?_ (by rw[hk];decide) (fun x=>by rw[hk]at x;rcases x with x | x<;>cases x) htk rfl rfl ?_
  ·exact give_pc t.s v z
  ·unfold plc
   rw[if_pos (.inr ht)]
   exact(give_to t.s (t.s.pc+1) v z).symm
 |get hk hs hso ht hv=>
  rename_i v
  rw[hso]at hSo
  obtain⟨xp,rfl,hxp⟩:=hSo
  obtain⟨z,r,eq⟩:∃z r,gv.drop t.tk=z::r:=by
   cases e:gv.drop t.tk with
   |nil=>
    rw[e]at h7
    unfold Mn.stdL at h7
    rw[hk,if_neg (by decide),hs]at h7
    change (if Cc.KE.of Ck.Kd.get=.of .do_∧t.s.frames.length=200 then 3 else if Cc.KE.of Ck.Kd.get=.of .get∧([]:List Int)=[]then 6 else 7)=7 at h7
    rw[if_neg (fun z=>nomatch z.1),if_pos ⟨rfl,rfl⟩]at h7
    cases h7
   |cons z r=>exact⟨z,r,rfl⟩
  have hgz:gv[t.tk]? =some z:=by
   have:(gv.drop t.tk)[0]? =(z::r)[0]?:=by rw[eq]
   rw[List.getElem?_drop,Nat.add_zero]at this
   exact this
  have htl:t.tk<gv.length:=(List.getElem?_eq_some_iff.mp hgz).1
  have hdr:gv.drop (t.tk+1)=r:=by rw[←List.drop_drop,eq];rfl
  have g:=Mn.gives TX.bl TX.nd R hP (fun z=>nomatch z) v z t.s.pc
  rw[eq]at k last
  refine skipT .set (rdH haH) (by rw[hk];decide) ?_
  refine takeT .get (rdH haH) hk ?_
  refine⟨_,rfl,G.p,G.dx,_,rfl,I.ob,rF_store,_,rfl,a,CL,dxl,_,_,rfl,haH,TP.cl,TP.lO,lnF_store ..,_,rfl,G.p,CR,G.dx,_,_,rfl,I.ob,T.cR,T.nGiven,rF_given ..,_,rfl,G.p,CR,G.dx,_,_,rfl,I.ob,T.cR,T.nTaken,rF_taken ..,G.ag,_,_,_,rfl,rfl,I.sub.seq I.gi,zW (j:=t.tk) (v:=V.int z) (by rw[List.getElem?_map,hgz];rfl),G,xp,z,W,ls,gv,t,_,v,_,rfl,I,hxp,hv,g,fun H1 I1 fr1=>?_⟩
  refine⟨_,rfl,G.p,CR,G.dx,_,_,rfl,I1.ob,T.cR,T.nTaken,rF_taken ..,_,_,rfl,rfl,_,rfl,G.p,CR,G.dx,_,rfl,I1.ob,T.cR,T.nTaken,rF_len ..,?_⟩
  have I2:=I1.putP (t.s.give v z).pc (t.tk+1) G.ar
  have et:((t.tk:Int) +1)=((t.tk+1:Nat):Int):=by omega
  rw[rP_taken]
  dsimp only
  rw[et]
  revert I2
  generalize upd H1 G.p (.ins CR G.dx (rF G.L G.ag (.int ((t.tk+1:Nat):Int)) (.int ((t.s.give v z).pc:Int)) G.ash G.acl G.ao G.ar))=H2
  intro I2
  have ha2:=I2.sub _ _ hla
  refine skipT .put (rdH ha2) (by rw[hk];decide) (skipT .do_ (rdH ha2) (by rw[hk];decide) ?_)
  refine last W H2 G _ 0 (Same.refl W) rfl I2 (give_pc t.s v z) (by rw[hk];decide) (fun x=>by rw[hk]at x;rcases x with x | x<;>cases x) htl hdr rfl ?_
  unfold plc
  rw[if_pos (.inr ht)]
  exact(give_to t.s (t.s.pc+1) v z).symm
 |put hk hs ht ok=>
  rename_i e
  obtain⟨z,hz,hzr⟩:=Mn.res_one TX.bl R hP (fun z=>nomatch z) ok hs h7 (by rw[hk];decide)
  rw[hz]at har k last
  refine skipT .set (rdH haH) (by rw[hk];decide) (skipT .get (rdH haH) (by rw[hk];decide) ?_)
  refine takeT .put (rdH haH) hk ?_
  refine⟨_,rfl,G.p,CR,G.dx,_,_,rfl,I.ob,T.cR,T.nOut,rF_out ..,.inl ⟨rfl,_,SqL.of I.ou⟩,_,rfl,G.p,CR,G.dx,_,_,rfl,hob,T.cR,T.nRes,rF_results ..,ar,_,_,_,rfl,rfl,SqL.of har,zW (j:=0) rfl,G.ao,_,_,rfl,rfl,I.ou,by rw[List.length_map];omega,?_⟩
  rw[show t.out.map V.int++[V.int z]=(t.out++[z]).map V.int by simp]
  have I1:=I.putO (t.out++[z])
  have ha1:=I1.sub _ _ hla
  refine skipT .do_ (rdH ha1) (by rw[hk];decide) ?_
  refine last W _ G _ 0 (Same.refl W) rfl I1 rfl (by rw[hk];decide) (fun x=>by rw[hk]at x;rcases x with x | x<;>cases x) htk rfl rfl ?_
  unfold plc
  rw[if_pos (.inr ht)]
  rfl
 |cond hk hs ht ok=>
  rename_i e
  obtain⟨z,hz,hzr⟩:=Mn.res_one TX.bl R hP (fun z=>nomatch z) ok hs h7 (by rw[hk];decide)
  refine plain z (by rw[hk];decide) (by rw[hk];decide) (by rw[hk];decide) (by rw[hk];decide) (by rw[hk];decide) (fun _=>hz) rfl ?_
  rw[hz]
  unfold plc
  show _=if z=0 then t.s.to (Ls.elseOf PP t.s.pc+1)else t.s.to (t.s.pc+1)
  by_cases c:z=0
  ·rw[if_pos c,if_neg (fun x=>by rcases x with x | x;exact x.2 c;rw[ht]at x;cases x),ht];rfl
  ·rw[if_neg c,if_pos (.inl ⟨.inl hk,c⟩)];rfl
 |loop hk hs ht ok=>
  rename_i e
  obtain⟨z,hz,hzr⟩:=Mn.res_one TX.bl R hP (fun z=>nomatch z) ok hs h7 (by rw[hk];decide)
  refine plain z (by rw[hk];decide) (by rw[hk];decide) (by rw[hk];decide) (by rw[hk];decide) (by rw[hk];decide) (fun _=>hz) rfl ?_
  rw[hz]
  unfold plc
  show _=if z=0 then t.s.to (Ls.close PP t.s.pc+1)else t.s.to (t.s.pc+1)
  by_cases c:z=0
  ·rw[if_pos c,if_neg (fun x=>by rcases x with x | x;exact x.2 c;rw[ht]at x;cases x),ht];rfl
  ·rw[if_neg c,if_pos (.inl ⟨.inr hk,c⟩)];rfl
 |els hk hs ht=>
  exact plain 0 (by rw[hk];decide) (by rw[hk];decide) (by rw[hk];decide) (by rw[hk];decide) (by rw[hk];decide) (fun x=>by rw[hk]at x;rcases x with x | x<;>cases x) rfl (by
   unfold plc
   rw[if_neg (fun x=>by rcases x with x | x;exact x.2 rfl;rw[ht]at x;cases x),ht];rfl)
 |proc hk hs ht=>
  exact plain 0 (by rw[hk];decide) (by rw[hk];decide) (by rw[hk];decide) (by rw[hk];decide) (by rw[hk];decide) (fun x=>by rw[hk]at x;rcases x with x | x<;>cases x) rfl (by
   unfold plc
   rw[if_neg (fun x=>by rcases x with x | x;exact x.2 rfl;rw[ht]at x;cases x),ht];rfl)
 |call hk hs ht hp hn ok=>
  rename_i p es x
  obtain⟨r1,r2,r3⟩:=Mn.res_all TX.bl R hP (fun z=>nomatch z) ok hs h7 hk
  have hzip:=Mn.zip_fst x.2 (Mn.resL l t.s) (by omega)
  have en:Mn.nextS PP (.call p es) t.s (gv.drop t.tk) t.out (Mn.resL l t.s)=({ t.s with pc:=x.1+1,frames:=⟨t.s.pc+1,x.2.zip (Mn.resL l t.s)⟩::t.s.frames },gv.drop t.tk,t.out):=by
   dsimp only[Mn.nextS]
   rw[hp]
  rw[en]at k last
  refine skipT .set (rdH haH) (by rw[hk];decide) (skipT .get (rdH haH) (by rw[hk];decide) (skipT .put (rdH haH) (by rw[hk];decide) ?_))
  refine takeT .do_ (rdH haH) hk ?_
  refine⟨_,rfl,G.p,CR,G.dx,_,_,rfl,I.ob,T.cR,T.nCalls,rF_calls ..,.inl ⟨rfl,_,SqL.of I.ca⟩,_,rfl,G.p,CR,G.dx,_,_,rfl,I.ob,T.cR,T.nAt,rF_at ..,_,_,rfl,rfl,_,rfl,G.p,CR,G.dx,_,_,rfl,hob,T.cR,T.nRes,rF_results ..,fun c dx hc hdx ne=>?_⟩
  refine⟨c,dx,ar,_,rfl,zB,rfl,?_⟩
  have et:((t.s.pc:Int) +1)=((t.s.pc+1:Nat):Int):=by omega
  dsimp only
  rw[yP,et]
  have s3:Same H (upd (upd H dx (.own c)) c (.ins CC dx (callF (.int ((t.s.pc+1:Nat):Int)) ar))):=fun b u e=>by
   rw[zF (zH e hc),zF (zH e hdx)];exact e
  have hc3:(upd (upd H dx (.own c)) c (.ins CC dx (callF (.int ((t.s.pc+1:Nat):Int)) ar))) c=some (.ins CC dx (callF (.int ((t.s.pc+1:Nat):Int)) ar)):=zB
  have nca:ar≠c:=zH har hc
  revert s3 hc3
  generalize upd (upd H dx (.own c)) c (.ins CC dx (callF (.int ((t.s.pc+1:Nat):Int)) ar))=H3
  intro s3 hc3
  have I3:=I.grow s3
  have nkc:c∉ky CR G t:=I.kfresh hc
  refine⟨G.acl,_,_,rfl,rfl,I3.ca,?_,?_⟩
  ·have:=R.fl
   rw[List.length_map,List.length_reverse,I.cs_len]
   omega
  ·rw[rev_snoc]
   have har3:H3 ar=some (.lst (((x.2.zip (Mn.resL l t.s)).map (·.2)).map V.int)):=by rw[hzip.2];exact s3 _ _ har
   have I4:=I3.push (f:=⟨t.s.pc+1,x.2.zip (Mn.resL l t.s)⟩) hc3 har3 nkc nar war nca
   refine last (jn W (one1 c (.ins CC dx (callF (.int ((t.s.pc+1:Nat):Int)) ar)))) _ { G with cs:=c::G.cs,os:=ar::G.os } _ 0 jn_l rfl I4 rfl (by rw[hk];decide) (fun x=>by rw[hk]at x;rcases x with x | x<;>cases x) htk rfl rfl ?_
   unfold plc
   rw[if_neg (fun y=>by rcases y with y | y;exact y.2 rfl;rw[ht]at y;cases y),ht]
   rfl
 |endW hk hs ht ho hlo=>
  rename_i o e
  have en:Mn.nextS PP .ends t.s (gv.drop t.tk) t.out (Mn.resL l t.s)=(t.s.to o,gv.drop t.tk,t.out):=by
   dsimp only[Mn.nextS]
   rw[ho]
   dsimp only
   rw[hlo]
  exact plain 0 (by rw[hk];decide) (by rw[hk];decide) (by rw[hk];decide) (by rw[hk];decide) (by rw[hk];decide) (fun x=>by rw[hk]at x;rcases x with x | x<;>cases x) (by rw[en]) (by
   rw[en]
   unfold plc
   rw[if_neg (fun x=>by rcases x with x | x;exact x.2 rfl;rw[ht]at x;cases x),ht];rfl)
 |endC hk hs ht ho hlo=>
  rename_i o e
  have en:Mn.nextS PP .ends t.s (gv.drop t.tk) t.out (Mn.resL l t.s)=(t.s.to (t.s.pc+1),gv.drop t.tk,t.out):=by
   dsimp only[Mn.nextS]
   rw[ho]
   dsimp only
   rw[hlo]
  exact plain 0 (by rw[hk];decide) (by rw[hk];decide) (by rw[hk];decide) (by rw[hk];decide) (by rw[hk];decide) (fun x=>by rw[hk]at x;rcases x with x | x<;>cases x) (by rw[en]) (by
   rw[en]
   unfold plc
   rw[if_pos (.inr ht)];rfl)
 |endP hk hs ho hlo=>
  rename_i o p vs
  have hc:=R.ch
  cases hf:t.s.frames with
  |nil=>
   rw[hf]at hc
   exact absurd rfl (Mn.cx_ret TX.bl hP ho hlo hc)
  |cons f0 fs=>
   have en:Mn.nextS PP .ends t.s (gv.drop t.tk) t.out (Mn.resL l t.s)=({ t.s with pc:=f0.back,frames:=fs },gv.drop t.tk,t.out):=by
    dsimp only[Mn.nextS]
    rw[ho]
    dsimp only
    rw[hlo]
    dsimp only
    rw[hf]
   rw[en]at k
   refine skipT .set (rdH haH) (by rw[hk];decide) (skipT .get (rdH haH) (by rw[hk];decide) (skipT .put (rdH haH) (by rw[hk];decide) (skipT .do_ (rdH haH) (by rw[hk];decide) ?_)))
   refine⟨_,rfl,G.p,G.dx,_,rfl,I.ob,rF_behind,_,rfl,G,a,W,ls,gv,t,l,t.s.pc+1,0,rfl,I,hLn,(fun x=>by rw[hk]at x;rcases x with x | x<;>cases x),fun _=>⟨f0,fs,hf,fun H2 G2 ep2 I2=>?_⟩,fun x=>absurd hk x⟩
   have hob2:=I2.ob
   rw[ep2]at hob2
   refine⟨_,rfl,G.p,CR,G2.dx,_,rfl,hob2,T.cR,T.nAt,rF_len ..,?_⟩
   have I3:=I2.putP f0.back t.tk G2.ar
   refine k W _ G2 t.tk (Same.refl W) ep2 htk rfl ?_
   rw[←ep2]
   exact I3
end
end Rn
namespace Rn
open PySem L2 Ins Pg R Ar
theorem rl_stop{PP:List Ls.L}{ls:List Ln}{k:Nat}{s:S}{q out:List Int}(h:Mn.stdS ls s q≠7):Mn.rlP PP ls k (s,q,out)=(s,q,out):=by
 cases k with
 |zero=>rfl
 |succ k=>
  unfold Mn.rlP
  unfold Mn.stdS at h
  dsimp only
  cases e:ls[s.pc]? with
  |none=>rfl
  |some l=>
   rw[e]at h
   dsimp only at h ⊢
   rw[if_pos h]
theorem rl_next{PP:List Ls.L}{ls:List Ln}{k:Nat}{s:S}{q out:List Int}{l:Ln}{l0:Ls.L}(hl:ls[s.pc]? =some l)(hP:PP[s.pc]? =some l0)(h:Mn.stdL l s q=7):Mn.rlP PP ls (k+1) (s,q,out)=Mn.rlP PP ls k (Mn.nextS PP l0 s q out (Mn.resL l s)):=by
 rw[Mn.rlP]
 dsimp only
 rw[hl]
 dsimp only
 rw[if_neg (by simpa using h),Cc.getD_at hP]
theorem next_out{PP:List Ls.L}{l0:Ls.L}{s:S}{q out r:List Int}:(Mn.nextS PP l0 s q out r).2.2.length≤out.length+1:=by
 cases l0 with
 |put e=>show(out++[_]).length≤_;rw[List.length_append];exact Nat.le_refl _
 |call p es=>
  dsimp only[Mn.nextS]
  cases Ls.procAt p 0 PP<;>exact Nat.le_succ _
 |ends=>
  dsimp only[Mn.nextS]
  cases Ls.opener PP s.pc with
  |none=>exact Nat.le_succ _
  |some o=>
   dsimp only
   cases e:PP[o]? with
   |none=>exact Nat.le_succ _
   |some x=>
    cases x with
    |proc p vs=>
     dsimp only
     cases s.frames<;>exact Nat.le_succ _
    |_=>exact Nat.le_succ _
 |_=>exact Nat.le_succ _
section
variable {P:Program}{w:World}{K:PySem.W.Frag}{mg:Str→Option Value}{base:Heap}{C CL CB CC CR aW aA aB aC aO:Addr}{wA fA:Nat→Addr}
def spRLines(K:PySem.W.Frag)(C CL CC CR:Addr):Sp:=fun vs H Q _=>∃(G:Gr) (W:Hp) (ls:List Ln) (gv:List Int) (t:St) (PP:List Ls.L) (n:Nat),vs=[.ref G.p,.int (n:Int)]∧RnAt K C CL CC CR W H G ls gv t∧Mn.RI PP t.s∧Mn.Txt PP ls∧(∀l∈ls,l.steps.length≤16500)∧(∀z∈gv,Ls.inRange z=true)∧t.tk≤gv.length∧t.out=[]∧n≤20000∧
 ∀W' H' G' tk',Same W W'→G'.p=G.p→tk'≤gv.length→gv.drop tk'=(Mn.rlP PP ls n (t.s,gv.drop t.tk,[])).2.1→RnAt K C CL CC CR W' H' G' ls gv ⟨(Mn.rlP PP ls n (t.s,gv.drop t.tk,[])).1,tk',(Mn.rlP PP ls n (t.s,gv.drop t.tk,[])).2.2⟩→Q .non H'
theorem scRLines:FnScope ["self","n","count"] ["self","n"] (defScope sRLines):=⟨rfl,rfl,rfl,by decide +kernel,rfl,by decide +kernel,by decide +kernel⟩
theorem ok_rLines{f fL fR:Addr}{fd fdL fdR:FuncData}(F:Fun K "run_lines" "Run.run_lines" sRLines f fd)(T:RnT K mg CC CR)(ML:Meth K CR "look_at_line" fL)(GL:FnOk P w K mg base CX0 4 fL fdL ["self"] (spLook K C CL CC CR))(bL:Binds K fdL ["self"] [])
  (MR:Meth K CR "run_line" fR)(GR:FnOk P w K mg base CX0 3 fR fdR ["self"] (spRLine K C CL CC CR))(bR:Binds K fdR ["self"] []):FnOk P w K mg base CX0 5 f fd ["self","n"] (spRLines K C CL CC CR):=by
 refine F.ok scRLines (fun vs H Q E h=>by obtain⟨G,W,ls,gv,t,PP,n,rfl,_⟩:=h;rfl) (fun cdv A outer s0 H vs Q E hr h=>?_)
 obtain⟨G,W,ls,gv,t,PP,n,rfl,I,R,TX,hst,hgv,htk,hout,hn,k⟩:=h
 obtain⟨t7,h7⟩:=T.go
 have hr3:Room 3 _:=hr.mono (by decide)
 refine⟨_,zE (ps_for PassesOwn.never rfl (pi_range1 (by rfl) T.rng (zA (pv 1) zG)) (yJ (i:=2) scRLines.nd rfl (Or.inl rfl))
   (zD (zV (zK op_ne (pe_meth0 (pv 0) T.cR ML GL hr bL .nil pass0) (zQ (v:=V.int 7) (by rfl) h7 ⟨t7,rfl⟩) (zM _)) (zE ps_retN) zL)
   (zE (yA (pe_meth0 (pv 0) T.cR MR GR hr3 bR .nil pass0))))),?_⟩
 refine⟨_,rfl,_,rfl,by omega,by omega,?_⟩
 have en:((n:Int)).toNat=n:=by omega
 rw[en]
 refine for_range (fun j σ H2=>∃(v2:Option V) (W2:Hp) (G2:Gr) (t2:St),RnAt K C CL CC CR W2 H2 G2 ls gv t2∧Same W W2∧G2.p=G.p∧Mn.RI PP t2.s∧t2.tk≤gv.length∧t2.out.length≤j∧Mn.rlP PP ls n (t.s,gv.drop t.tk,[])=Mn.rlP PP ls (n-j) (t2.s,gv.drop t2.tk,t2.out)∧σ=[some (.ref G.p),some (.int (n:Int)),v2])
  ⟨none,W,G,t,I,Same.refl W,rfl,R,htk,by rw[hout];exact Nat.le_refl _,by rw[hout];rfl,rfl⟩ ?_ ?_
 ·rintro j σ H2 hj ⟨v2,W2,G2,t2,I2,sW2,ep,R2,htk2,hol2,eg,rfl⟩
  have eN:n-j=(n- (j+1)) +1:=by omega
  have hob:=I2.ob
  rw[ep]at hob
  refine⟨_,rfl,G.p,G2.dx,_,rfl,hob,rF_look,G2,W2,ls,gv,t2,PP,by rw[ep];rfl,I2,R2,TX,hst,htk2,fun hs H3 G3 ep3 I3=>?_,fun l hl hs H3 ar I3 h3 w3 n3=>?_⟩
  ·refine⟨rfl,_,rfl,?_⟩
   show if(!decide (V.int _=V.int 7))=true then _ else _
   rw[decV,decide_eq_false (by omega)]
   rw[rl_stop hs]at eg
   refine iteT (k W2 H3 G3 t2.tk sW2 (by rw[ep3,ep]) htk2 ?_ ?_)
   ·rw[eg]
   ·rw[eg];exact I3
  ·refine⟨rfl,_,rfl,?_⟩
   show if(!decide (V.int _=V.int 7))=true then _ else _
   rw[decV,decide_eq_true rfl]
   obtain⟨l0,hP,lv⟩:=TX.view _ _ hl
   have hob3:=I3.ob
   have ep3:({ G2 with ar:=.ref ar }:Gr).p=G.p:=ep
   rw[ep3]at hob3
   rw[eN,rl_next hl hP hs]at eg
   have hri:=Mn.ri_next TX.bl TX.nd (out:=t2.out) R2 (fun z hz=>hgv z (List.mem_of_mem_drop hz)) hP lv hs
   have hno:=next_out (PP:=PP) (l0:=l0) (s:=t2.s) (q:=gv.drop t2.tk) (out:=t2.out) (r:=Mn.resL l t2.s)
   refine iteF ⟨_,rfl,G.p,G2.dx,_,rfl,hob3,rF_line,{ G2 with ar:=.ref ar },ar,W2,ls,gv,t2,PP,l0,l,by rw[ep3];rfl,rfl,I3,R2,TX,htk2,by omega,hP,hl,hs,h3,w3,n3,fun W4 H4 G4 tk4 sW4 ep4 h4 hd4 I4=>?_⟩
   refine⟨_,W4,G4,_,I4,sW2.trans sW4,by rw[ep4];exact ep,hri.1,h4,by show(Mn.nextS PP l0 t2.s (gv.drop t2.tk) t2.out (Mn.resL l t2.s)).2.2.length≤j+1;omega,?_,rfl⟩
   rw[eg]
   show _=Mn.rlP PP ls (n- (j+1)) ((Mn.nextS PP l0 t2.s (gv.drop t2.tk) t2.out (Mn.resL l t2.s)).1,gv.drop tk4,_)
   rw[hd4]
 ·rintro σ H2 ⟨v2,W2,G2,t2,I2,sW2,ep,R2,htk2,hol2,eg,rfl⟩
  rw[Nat.sub_self]at eg
  refine k W2 H2 G2 t2.tk sW2 ep htk2 ?_ ?_
  ·rw[eg];rfl
  ·rw[eg];exact I2
def spTell:Sp:=fun vs H Q _=>∃(st l:Nat),vs=[.int (st:Int),.int (l:Int)]∧∀p,H p=none→Q (.ref p) (upd H p (.lst [.int (st:Int),.int ((if 1≤st∧st≤5 then l else 0:Nat):Int)]))
theorem scTell:FnScope ["standing","line"] ["standing","line"] (defScope sTellS):=⟨rfl,rfl,rfl,by decide +kernel,rfl,by decide +kernel,by decide +kernel⟩
theorem ok_tell{f:Addr}{fd:FuncData}(F:Fun K "standing_and_line" "standing_and_line" sTellS f fd)(T:RnT K mg CC CR)(ho:∃t,mg "OUT_OF_RANGE"=some (.int 1 t)):FnOk P w K mg base CX0 1 f fd ["standing","line"] spTell:=by
 refine F.ok scTell (fun vs H Q E h=>by obtain⟨st,l,rfl,_⟩:=h;rfl) (fun cdv A outer s0 H vs Q E hr h=>?_)
 obtain⟨st,l,rfl,k⟩:=h
 obtain⟨t5,h5⟩:=T.fs
 obtain⟨t1,h1⟩:=ho
 refine⟨_,zD (zV (pt_chain op_le op_le (zQ (v:=V.int 1) (by rfl) h1 ⟨t1,rfl⟩) (pv 0) (zQ (v:=V.int 5) (by rfl) h5 ⟨t5,rfl⟩)) (zE (zN (yI (zA (pv 0) (zA (pv 1) zG))))) zL)
  (zE (zN (yI (zA (pv 0) (zA zI zG))))),?_⟩
 have h2l:(2:Nat)≤sizeLine:=by have:=zP;omega
 refine⟨_,rfl,_,_,rfl,rfl,_,rfl,?_⟩
 by_cases c1:1≤st
 ·rw[decide_eq_true (by omega)]
  refine iteT ⟨_,_,rfl,rfl,_,rfl,?_⟩
  by_cases c2:st≤5
  ·rw[decide_eq_true (by omega)]
   rw[if_pos ⟨c1,c2⟩]at k
   exact iteT ⟨_,rfl,_,rfl,h2l,k⟩
  ·rw[decide_eq_false (by omega)]
   rw[if_neg (fun z=>c2 z.2)]at k
   exact iteF ⟨_,rfl,h2l,k⟩
 ·rw[decide_eq_false (by omega)]
  rw[if_neg (fun z=>c1 z.1)]at k
  exact iteF ⟨_,rfl,iteF ⟨_,rfl,h2l,k⟩⟩
def spRTold(K:PySem.W.Frag)(C CL CC CR:Addr):Sp:=fun vs H Q _=>∃(G:Gr) (W:Hp) (ls:List Ln) (gv:List Int) (t:St) (PP:List Ls.L),vs=[.ref G.p]∧RnAt K C CL CC CR W H G ls gv t∧Mn.RI PP t.s∧Mn.Txt PP ls∧(∀l∈ls,l.steps.length≤16500)∧t.tk≤gv.length∧
 ∀H' G' p,G'.p=G.p→RnAt K C CL CC CR W H' G' ls gv t→H' p=some (.lst [.int (((Ls.textState PP t.s (gv.drop t.tk)).1:Nat):Int),.int (((Ls.textState PP t.s (gv.drop t.tk)).2:Nat):Int)])→Q (.ref p) H'
theorem scRTold:FnScope ["self"] ["self"] (defScope sRTold):=⟨rfl,rfl,rfl,by decide +kernel,rfl,by decide +kernel,by decide +kernel⟩
theorem ok_rTold{f fL fT:Addr}{fd fdL fdT:FuncData}(F:Fun K "told" "Run.told" sRTold f fd)(T:RnT K mg CC CR)(ho:∃t,mg "OUT_OF_RANGE"=some (.int 1 t))(DT:Dn K mg "standing_and_line" sTellS fT fdT ["standing","line"])(ML:Meth K CR "look_at_line" fL)(GL:FnOk P w K mg base CX0 4 fL fdL ["self"] (spLook K C CL CC CR))(bL:Binds K fdL ["self"] []):FnOk P w K mg base CX0 5 f fd ["self"] (spRTold K C CL CC CR):=by
 have GT:FnOk P w K mg base CX0 1 fT fdT ["standing","line"] spTell:=ok_tell DT.fn T ho
 refine F.ok scRTold (fun vs H Q E h=>by obtain⟨G,W,ls,gv,t,PP,rfl,_⟩:=h;rfl) (fun cdv A outer s0 H vs Q E hr h=>?_)
 obtain⟨G,W,ls,gv,t,PP,rfl,I,R,TX,hst,htk,k⟩:=h
 have hr1:Room 1 _:=hr.mono (by decide)
 refine⟨_,zE (zN (zS GT hr1 (by rfl) DT.at_ DT.fn.kp DT.bd .nil pass0 (zA (pe_meth0 (pv 0) T.cR ML GL hr bL .nil pass0) (zA (yQ op_add (zJ (pv 0) rfl) zI) zG)))),?_⟩
 rw[Mn.text_state TX R]at k
 have fin:∀(H1:Hp) (G1:Gr),G1.p=G.p→RnAt K C CL CC CR W H1 G1 ls gv t→∀st,Mn.stdS ls t.s (gv.drop t.tk)=st→tOp (rI0 fun i j=>.int (i+j)) (tFld K (tVar 0) "at") (tC (.int 1)) [some (.ref G.p)] H1 fun v H2=>∃vs:List V,vs=[.int (st:Int),v]∧spTell vs H2 Q E0:=fun H1 G1 ep I1 st est=>by
  have hob:=I1.ob
  rw[ep]at hob
  refine⟨_,rfl,G.p,CR,G1.dx,_,_,rfl,hob,T.cR,T.nAt,rF_at ..,_,_,rfl,rfl,_,rfl,st,t.s.pc+1,?_,fun p hp=>?_⟩
  ·have et:((t.s.pc:Int) +1)=((t.s.pc+1:Nat):Int):=by omega
   dsimp only
   rw[et]
  ·have s2:Same H1 (upd H1 p (.lst [.int (st:Int),.int ((if 1≤st∧st≤5 then t.s.pc+1 else 0:Nat):Int)])):=Same.upd' (Same.refl H1) hp
   refine k _ G1 p ep (I1.grow s2) ?_
   rw[est]
   exact zB
 refine⟨_,rfl,G.p,G.dx,_,rfl,I.ob,rF_look,G,W,ls,gv,t,PP,rfl,I,R,TX,hst,htk,fun hs H1 G1 ep I1=>?_,fun l hl hs H1 ar I1 h1 w1 n1=>?_⟩
 ·obtain⟨x1,e1,x2,x3,x4,x5,x6,e2,e3,x7,x8,e4,i1,i2,e5,e6,vs,rfl,hsp⟩:=fin H1 G1 ep I1 _ rfl
  cases e1
  exact⟨_,rfl,x2,x3,x4,x5,x6,e2,e3,x7,x8,e4,i1,i2,e5,e6,hsp⟩
 ·have est:Mn.stdS ls t.s (gv.drop t.tk)=7:=by unfold Mn.stdS;rw[hl];exact hs
  obtain⟨x1,e1,x2,x3,x4,x5,x6,e2,e3,x7,x8,e4,i1,i2,e5,e6,vs,rfl,hsp⟩:=fin H1 { G with ar:=.ref ar } rfl I1 7 est
  cases e1
  exact⟨_,rfl,x2,x3,x4,x5,x6,e2,e3,x7,x8,e4,i1,i2,e5,e6,hsp⟩
end
end Rn
namespace Mn
open Ls
open Ck hiding Bytes
open Cc
def meanP(n:Nat)(b:Ls.Bytes)(gv:List Int):List Int:=if¬n≤20000∨gv.all inRange=false then [-3]else if checkP b≠0 then [-9]else
 ((textState ((linesW b).map lineW) (goText ((linesW b).map lineW) n S.init gv).1 (goText ((linesW b).map lineW) n S.init gv).2.1).1:Int)::((textState ((linesW b).map lineW) (goText ((linesW b).map lineW) n S.init gv).1 (goText ((linesW b).map lineW) n S.init gv).2.1).2:Int)::(goText ((linesW b).map lineW) n S.init gv).2.2
theorem mean_eq(n:Int)(l g:List Int):PyWqaywc.mean n l g=meanP n.toNat (LsNeutral.text l) g:=by
 show LsNeutral.told (Ls.step none (.mean (LsNeutral.text l) n.toNat g)).2=_
 generalize LsNeutral.text l=b
 unfold meanP Ls.step Ls.asked STEPS
 dsimp only
 by_cases c:(decide (n.toNat≤20000)&&g.all inRange)=false
 ·rw[if_pos c,if_pos (by
   by_cases d:n.toNat≤20000
   ·right
    rw[decide_eq_true d,Bool.true_and]at c
    exact c
   ·exact .inl d)]
  rfl
 ·rw[if_neg c]
  have c':n.toNat≤20000∧g.all inRange=true:=by
   have:(decide (n.toNat≤20000)&&g.all inRange)=true:=by
    cases h:(decide (n.toNat≤20000)&&g.all inRange)with
    |true=>rfl
    |false=>exact absurd h c
   simp only[Bool.and_eq_true,decide_eq_true_eq]at this
   exact this
  rw[if_neg (fun z=>by rcases z with z | z;exact z c'.1;rw[c'.2]at z;cases z)]
  unfold program checkP
  rw[←firstP_eq,lines_words]
  by_cases d:16384<b.length
  ·rw[if_neg (fun z=>by have:=z.1;unfold TEXT at this;omega),if_pos d,if_pos (by decide)]
   rfl
  ·rw[if_neg d]
   by_cases e:firstP b=0
   ·rw[if_pos ⟨by unfold TEXT;omega,e⟩,if_neg (by rw[e];decide)]
    rfl
   ·rw[if_neg (fun z=>e z.2),if_pos (by omega)]
    rfl
end Mn
namespace Rn
open PySem L2 Ins Pg R Ar
section
variable {P:Program}{w:World}{K:PySem.W.Frag}{mg:Str→Option Value}{base:Heap}{C CL CB CC CR aW aA aB aC aO:Addr}{wA fA:Nat→Addr}
theorem al{Hk:Hp}{p q:Addr}{o u u0:HO}(hq:Hk q=none)(hp:Hk p=some u0):(upd (upd Hk q o) p u) p=some u∧(upd (upd Hk q o) p u) q=some o∧(∀b v,Hk b=some v→b≠p→(upd (upd Hk q o) p u) b=some v)∧q≠p:=by
 have n:q≠p:=fun z=>by rw[z,hp]at hq;cases hq
 exact⟨zB,by rw[zF n,zB],fun b v e h=>by rw[zF h,zF (zH e hq)];exact e,n⟩
def spRInit(K:PySem.W.Frag)(C CL CC CR:Addr):Sp:=fun vs H Q _=>∃(p dx L ag:Addr) (W:Hp) (ls:List Ln) (gv:List Int),vs=[.ref p,.ref L,.ref ag]∧H p=some (.ins CR dx [])∧Same W H∧W p=none∧ProgW C CL W L ls∧SqL K W ag (gv.map V.int)∧
 ∀H' G,G.p=p→RnAt K C CL CC CR W H' G ls gv ⟨Ls.S.init,0,[]⟩→Q .non H'
theorem scRInit:FnScope ["self","program","given"] ["self","program","given"] (defScope sRInit):=⟨rfl,rfl,rfl,by decide +kernel,rfl,by decide +kernel,by decide +kernel⟩
theorem sh_rep:(List.replicate (26:Int).toNat [V.int 0]).flatten=shV fun _=>0:=by decide +kernel
def f4(L ag:Addr):List (Str×V):=[("program",.ref L),("given",.ref ag),("taken",.int 0),("at",.int 0)]
theorem ok_rInit{f:Addr}{fd:FuncData}(F:Fun K "__init__" "Run.__init__" sRInit f fd)(T:RnT K mg CC CR):FnOk P w K mg base CX0 1 f fd ["self","program","given"] (spRInit K C CL CC CR):=by
 refine F.ok scRInit (fun vs H Q E h=>by obtain⟨p,dx,L,ag,W,ls,gv,rfl,_⟩:=h;rfl) (fun cdv A outer s0 H vs Q E hr h=>?_)
 obtain⟨p,dx,L,ag,W,ls,gv,rfl,hp,sW,wp,hpr,hg,k⟩:=h
 obtain⟨tn,hn⟩:=T.lt
 refine⟨_,zD (zY (pv 0) (pv 1) rfl) (zD (zY (pv 0) (pv 2) rfl) (zD (zY (pv 0) zI rfl) (zD (zY (pv 0) zI rfl)
  (zD (zY (pv 0) (yQ op_rep (yI (zA zI zG)) (zQ (v:=V.int 26) (by rfl) hn ⟨tn,rfl⟩)) rfl) (zD (zY (pv 0) (yI zG) rfl) (zD (zY (pv 0) (yI zG) rfl) (zE (zY (pv 0) (yI zG) rfl)))))))),?_⟩
 refine⟨_,rfl,_,rfl,p,CR,dx,[],rfl,hp,T.cR,T.nProg,(by show 0<1000;decide),?_⟩
 refine⟨_,rfl,_,rfl,p,CR,dx,_,rfl,zB,T.cR,T.nGiven,(by show 1<1000;decide),?_⟩
 refine⟨_,rfl,p,CR,dx,_,rfl,zB,T.cR,T.nTaken,(by show 2<1000;decide),?_⟩
 refine⟨_,rfl,p,CR,dx,_,rfl,zB,T.cR,T.nAt,(by show 3<1000;decide),?_⟩
 rw[yP,yP,yP]
 have p1:(upd H p (.ins CR dx (f4 L ag))) p=some (.ins CR dx (f4 L ag)):=zB
 have sW1:Same W (upd H p (.ins CR dx (f4 L ag))):=Same.upd' sW wp
 revert p1 sW1
 show _→_→tSeq _ _ _ _ (upd H p (.ins CR dx (f4 L ag)))
 generalize upd H p (.ins CR dx (f4 L ag))=H1
 intro p1 sW1
 refine⟨by show 1≤sizeLine;have:=zP;omega,fun z hz=>⟨z,_,_,rfl,rfl,zB,by decide,by decide,by show 1*26≤sizeLine;have:=zP;omega,fun ash hash=>?_⟩⟩
 rw[sh_rep]
 have nz:p≠z:=zH p1 hz
 have p1':(upd H1 z (.lst [V.int 0])) p=_:=(zF nz).trans p1
 have na:p≠ash:=zH p1' hash
 have sW1':Same W (upd H1 z (.lst [V.int 0])):=Same.upd' sW1 (sW1.free hz)
 refine⟨_,rfl,p,CR,dx,_,rfl,by rw[zF na];exact p1',T.cR,T.nShared,(by show 4<1000;decide),?_⟩
 obtain⟨p3,m3,o3,n3⟩:=al (o:=.lst (shV fun _=>0)) (u:=.ins CR dx (putF "shared" (.ref ash) (f4 L ag))) hash p1'
 have w3:=sW1'.free hash
 have sW3:Same W (upd (upd (upd H1 z (.lst [V.int 0])) ash (.lst (shV fun _=>0))) p (.ins CR dx (putF "shared" (.ref ash) (f4 L ag)))):=Same.upd' (Same.upd' sW1' w3) wp
 clear o3
 revert p3 m3 sW3
 show _→_→_→tSeq _ _ _ _ (upd (upd (upd H1 z (.lst [V.int 0])) ash (.lst (shV fun _=>0))) p (.ins CR dx (putF "shared" (.ref ash) (f4 L ag))))
 generalize upd (upd (upd H1 z (.lst [V.int 0])) ash (.lst (shV fun _=>0))) p (.ins CR dx (putF "shared" (.ref ash) (f4 L ag)))=H3
 intro p3 m3 sW3
 refine⟨Ck.zero_line,fun acl hacl=>⟨_,rfl,p,CR,dx,_,rfl,by rw[zF (zH p3 hacl)];exact p3,T.cR,T.nCalls,(by show 5<1000;decide),?_⟩⟩
 obtain⟨p4,m4,o4,n4⟩:=al (o:=.lst []) (u:=.ins CR dx (putF "calls" (.ref acl) (putF "shared" (.ref ash) (f4 L ag)))) hacl p3
 have w4:=sW3.free hacl
 have sW4:Same W (upd (upd H3 acl (.lst [])) p (.ins CR dx (putF "calls" (.ref acl) (putF "shared" (.ref ash) (f4 L ag))))):=Same.upd' (Same.upd' sW3 w4) wp
 revert p4 m4 o4 sW4
 show _→_→_→_→tSeq _ _ _ _ (upd (upd H3 acl (.lst [])) p (.ins CR dx (putF "calls" (.ref acl) (putF "shared" (.ref ash) (f4 L ag)))))
 generalize upd (upd H3 acl (.lst [])) p (.ins CR dx (putF "calls" (.ref acl) (putF "shared" (.ref ash) (f4 L ag))))=H4
 intro p4 m4 o4 sW4
 refine⟨Ck.zero_line,fun ao hao=>⟨_,rfl,p,CR,dx,_,rfl,by rw[zF (zH p4 hao)];exact p4,T.cR,T.nOut,(by show 6<1000;decide),?_⟩⟩
 obtain⟨p5,m5,o5,n5⟩:=al (o:=.lst []) (u:=.ins CR dx (putF "out" (.ref ao) (putF "calls" (.ref acl) (putF "shared" (.ref ash) (f4 L ag))))) hao p4
 have w5:=sW4.free hao
 have sW5:Same W (upd (upd H4 ao (.lst [])) p (.ins CR dx (putF "out" (.ref ao) (putF "calls" (.ref acl) (putF "shared" (.ref ash) (f4 L ag)))))):=Same.upd' (Same.upd' sW4 w5) wp
 revert p5 m5 o5 sW5
 generalize upd (upd H4 ao (.lst [])) p (.ins CR dx (putF "out" (.ref ao) (putF "calls" (.ref acl) (putF "shared" (.ref ash) (f4 L ag)))))=H5
 intro p5 m5 o5 sW5
 refine⟨Ck.zero_line,fun ar har=>⟨_,rfl,p,CR,dx,_,rfl,by rw[zF (zH p5 har)];exact p5,T.cR,T.nRes,(by show 7<1000;decide),?_⟩⟩
 obtain⟨p6,m6,o6,n6⟩:=al (o:=.lst []) (u:=.ins CR dx (rF L ag (.int 0) (.int 0) ash acl ao (.ref ar))) har p5
 have w6:=sW5.free har
 have sW6:Same W (upd (upd H5 ar (.lst [])) p (.ins CR dx (rF L ag (.int 0) (.int 0) ash acl ao (.ref ar)))):=Same.upd' (Same.upd' sW5 w6) wp
 revert p6 m6 o6 sW6
 show _→_→_→_→Q .non (upd (upd H5 ar (.lst [])) p (.ins CR dx (rF L ag (.int 0) (.int 0) ash acl ao (.ref ar))))
 generalize upd (upd H5 ar (.lst [])) p (.ins CR dx (rF L ag (.int 0) (.int 0) ash acl ao (.ref ar)))=H6
 intro p6 m6 o6 sW6
 have m3_4:=o4 _ _ m3 n3
 have m3_5:=o5 _ _ m3_4 n3
 have m3_6:=o6 _ _ m3_5 n3
 have m4_5:=o5 _ _ m4 n4
 have m4_6:=o6 _ _ m4_5 n4
 have m5_6:=o6 _ _ m5 n5
 have e1:=zH m3 hacl
 have e2:=zH m3_4 hao
 have e3:=zH m4 hao
 refine k H6 ⟨p,dx,L,ag,ash,acl,ao,.ref ar,[],[]⟩ rfl ⟨sW6,hpr,hg,?_,?_,?_,rfl,.nil⟩
 ·intro x hx
  rcases hx with _ | ⟨_,hx⟩
  ·exact p6
  rcases hx with _ | ⟨_,hx⟩
  ·exact m3_6
  rcases hx with _ | ⟨_,hx⟩
  ·exact m4_6
  rcases hx with _ | ⟨_,hx⟩
  ·exact m5_6
  ·cases hx
 ·show [p,ash,acl,ao].Nodup
  simp only[List.nodup_cons,List.mem_cons,List.not_mem_nil,or_false,not_or,not_false_eq_true,List.nodup_nil,and_true]
  exact⟨⟨n3.symm,n4.symm,n5.symm⟩,⟨e1,e2⟩,e3⟩
 ·intro b hb
  change b∈[p,ash,acl,ao]at hb
  simp only[List.mem_cons,List.not_mem_nil,or_false]at hb
  rcases hb with e | e | e | e
  ·rw[e];exact wp
  ·rw[e];exact w3
  ·rw[e];exact w4
  ·rw[e];exact w5
def spMean(K:PySem.W.Frag):Sp:=fun vs H Q _=>∃(n:Nat) (a g:Addr) (b:Ls.Bytes) (gv:List Int),vs=[.int (n:Int),.ref a,.ref g]∧SqL K H a (Ck.vB b)∧b.length≤16500∧SqL K H g (gv.map V.int)∧gv.length≤300000∧∀H' p,Same H H'→H' p=some (.lst ((Mn.meanP n b gv).map V.int))→Q (.ref p) H'
theorem scMean:FnScope ["n","text","given","run","number"] ["n","text","given"] (defScope sMean):=⟨rfl,rfl,rfl,by decide +kernel,rfl,by decide +kernel,by decide +kernel⟩
theorem blkMean:blkC ["n","text","given","run","number"] (defScope sMean) { kind:=.function,names:=[(".0",.local),("number",.local),("in_range",.globalImplicit)],isGenerator:=false,isCoroutine:=false } [("number",4)]=true:=by decide +kernel
theorem ok_mean{f fR fC fP fI fL fT:Addr}{fd fdR fdC fdP fdI fdL fdT:FuncData}(F:Fun K "mean" "mean" sMean f fd)(T:RnT K mg CC CR)(TA:AriT P w K mg aA fA)(hms:∃t,mg "MOST_STEPS"=some (.int 20000 t))(hall:mg "all"=none)(DR:Dn K mg "in_range" sInRange fR fdR ["number"])
  (DC:Dn K mg "check" sCheck fC fdC ["text"])(GC:FnOk P w K mg base CX0 8 fC fdC ["text"] (Ck.spCheck K))(DP:Dn K mg "program_of" sProg fP fdP ["text"])(GP:FnOk P w K mg base CX0 8 fP fdP ["text"] (spProg K C CL))
  (MI:Mk K CR fI)(FI:Fun K "__init__" "Run.__init__" sRInit fI fdI)(bI:Binds K fdI ["self","program","given"] [])
  (ML:Meth K CR "run_lines" fL)(GL:FnOk P w K mg base CX0 5 fL fdL ["self","n"] (spRLines K C CL CC CR))(bL:Binds K fdL ["self","n"] [])
  (MT:Meth K CR "told" fT)(GT:FnOk P w K mg base CX0 5 fT fdT ["self"] (spRTold K C CL CC CR))(bT:Binds K fdT ["self"] []):FnOk P w K mg base CX0 9 f fd ["n","text","given"] (spMean K):=by
 have GR:FnOk P w K mg base CX0 1 fR fdR ["number"] spInR:=ok_inR DR.fn TA
 have GI:FnOk P w K mg base CX0 1 fI fdI ["self","program","given"] (spRInit K C CL CC CR):=ok_rInit FI T
 refine F.ok scMean (fun vs H Q E h=>by obtain⟨n,a,g,b,gv,rfl,_⟩:=h;rfl) (fun cdv A outer s0 H vs Q E hr h=>?_)
 obtain⟨n,a,g,b,gv,rfl,hb,hlen,hg,hgl,k⟩:=h
 obtain⟨ts,hs⟩:=hms
 have hr1:Room 1 _:=hr.mono (by decide)
 have hr2:Room 2 _:=hr.mono (by decide)
 have hr5:Room 5 _:=hr.mono (by decide)
 refine⟨_,zD (zV (pw_or (zK op_gt (pv 0) (zQ (v:=V.int 20000) (by rfl) hs ⟨ts,rfl⟩) (zM _)) (pw_or1 (pt_not (pt_val (zU (cr_all rfl) (by rfl) hall PyProof.Rows.boot_all (zA (pe_lc rfl scMean.nd (pi_list (pv 2)) (blkOk_by (own:=[("number",4)]) blkMean) (fun _ _ _ _ _=>yJ (i:=4) scMean.nd rfl (Or.inl rfl)) (fun _ _ _ _ _=>pts_nil)
    (fun _ _ _ _ _=>zS GR hr1 (by rfl) DR.at_ DR.fn.kp DR.bd .nil pass0 (zA (pv 4) zG))) zG)) (fun _=>rfl))))).pt (zE (zN (yI (zA (pe_un un_neg zI) zG)))) zL)
  (zD (zV (zK (op_neD hr.units) (zS GC hr (by rfl) DC.at_ DC.fn.kp DC.bd .nil pass0 (zA (pv 1) zG)) (yI (zA zI zG)) (zM _)) (zE (zN (yI (zA (pe_un un_neg zI) zG)))) zL)
  (zD (zZ (i:=3) scMean.nd rfl (Or.inl rfl) (pe_make MI GI hr2 (by rfl) T.mgR bI .nil pass0 (zA (zS GP hr (by rfl) DP.at_ DP.fn.kp DP.bd .nil pass0 (zA (pv 1) zG)) (zA (pv 2) zG))))
  (zD (yA (pe_meth (pv 3) T.cR ML GL hr5 bL .nil pass0 (zA (pv 0) zG)))
  (zE (zN (yQ op_cat (pe_meth0 (pv 3) T.cR MT GT hr5 bT .nil pass0) (zJ (pv 3) rfl))))))),?_⟩
 have big:=zP
 have h1:(1:Nat)≤sizeLine:=by omega
 have one:∀(v:Int) (H1:Hp),Same H H1→Mn.meanP n b gv=[v]→∀p,H1 p=none→Q (.ref p) (upd H1 p (.lst [V.int v])):=fun v H1 s1 e p hp=>by
  refine k _ p (Same.upd' s1 (s1.free hp)) ?_
  rw[e]
  exact zB
 refine⟨_,rfl,_,_,rfl,rfl,_,rfl,?_⟩
 by_cases cn:n≤20000
 rotate_left
 ·rw[decide_eq_true (by omega)]
  exact iteT (iteT ⟨_,rfl,h1,one (-3) H (Same.refl H) (by unfold Mn.meanP;rw[if_pos (.inl cn)])⟩)
 rw[decide_eq_false (by omega)]
 refine iteF ⟨_,rfl,g,rfl,⟨_,hg⟩,fun D0 hD=>?_⟩
 refine lc_list (K:=K) (a:=g) (xs:=gv.map V.int) (fun i H'=>Same H H'∧H' D0=some (.lst (((gv.take i).map Ls.inRange).map V.bl))) ⟨Same.upd' (Same.refl _) hD,zB⟩ (fun i H' _ ⟨s3,_⟩=>s3.seq hg) ?_ ?_
 ·rintro i x H' hx ⟨s3,hD3⟩
  rw[List.getElem?_map]at hx
  obtain⟨z,hz,rfl⟩:=Option.map_eq_some_iff.mp hx
  refine⟨rfl,tYes_if' ?_⟩
  refine⟨_,rfl,z,rfl,_,hD3,?_,Same.upd' s3 hD,?_⟩
  ·rw[List.length_map,List.length_map,List.length_take];omega
  ·rw[zB,List.take_succ,hz,List.map_append,List.map_append];rfl
 ·rintro H1 ⟨s1,hD1⟩
  rw[List.length_map,List.take_length]at hD1
  refine⟨D0,_,rfl,SqL.of hD1,_,rfl,?_⟩
  have e4:(gv.map Ls.inRange).all id=gv.all Ls.inRange:=by rw[List.all_map];rfl
  rw[e4]
  cases hall':gv.all Ls.inRange with
  |false=>exact iteT ⟨_,rfl,h1,one (-3) H1 s1 (by unfold Mn.meanP;rw[if_pos (.inr hall')])⟩
  |true=>
   have emean:Mn.meanP n b gv=if Ck.checkP b≠0 then [-9]else
     ((Ls.textState ((Ck.linesW b).map Ck.lineW) (Ls.goText ((Ck.linesW b).map Ck.lineW) n Ls.S.init gv).1 (Ls.goText ((Ck.linesW b).map Ck.lineW) n Ls.S.init gv).2.1).1:Int)::((Ls.textState ((Ck.linesW b).map Ck.lineW) (Ls.goText ((Ck.linesW b).map Ck.lineW) n Ls.S.init gv).1 (Ls.goText ((Ck.linesW b).map Ck.lineW) n Ls.S.init gv).2.1).2:Int)::(Ls.goText ((Ck.linesW b).map Ck.lineW) n Ls.S.init gv).2.2:=by
    unfold Mn.meanP
    rw[if_neg (fun z=>by rcases z with z | z;exact z cn;rw[hall']at z;cases z)]
   refine iteF ⟨_,rfl,a,b,rfl,s1.seq hb,hlen,fun H2 p s2 hp0 hp=>⟨h1,fun q hq=>?_⟩⟩
   have s3:Same H2 (upd H2 q (.lst [V.int 0])):=Same.upd' (Same.refl _) hq
   have hq2:(upd H2 q (.lst [V.int 0])) q=some (.lst [V.int 0]):=zB
   revert s3 hq2
   generalize upd H2 q (.lst [V.int 0])=H3
   intro s3 hq2
   have s03:=(s1.trans s2).trans s3
   refine⟨.list [.int (Ck.checkP b)],.list [.int 0],.lst (SqL.of (s3 _ _ hp)) (.cons (.int _) .nil),.lst (SqL.of hq2) (.cons (.int _) .nil),rfl,rfl,_,rfl,?_⟩
   have ee:PyData.eqv (.list [.int (Ck.checkP b)]) (.list [.int 0])=decide (Ck.checkP b=0):=by
    rw[PyData.eqv,PyData.eqvAll,PyData.eqvAll,PyData.eqv,Bool.and_true]
    by_cases c:Ck.checkP b=0
    ·rw[c];rfl
    ·rw[decide_eq_false c];exact beq_false_of_ne c
   rw[ee]
   by_cases c:Ck.checkP b=0
   rotate_left
   ·rw[decide_eq_false c]
    exact iteT ⟨_,rfl,h1,one (-9) H3 s03 (by rw[emean,if_pos c])⟩
   rw[decide_eq_true c]
   rw[if_neg (by simpa using c)]at emean
   have hb16:b.length≤16384∧Ck.firstP b=0:=by
    unfold Ck.checkP at c
    by_cases d:16384<b.length
    ·rw[if_pos d]at c;cases c
    ·rw[if_neg d]at c;exact⟨by omega,by omega⟩
   have hcnt:=Cc.linesW_cnt (b:=b) (by omega)
   have TX:=Mn.txt_of hb16.2 hcnt
   have hok:=Cc.prog_ok (Ck.linesW b) hcnt
   have hgr:∀z∈gv,Ls.inRange z=true:=fun z hz=>List.all_eq_true.mp hall' z hz
   have run:=Mn.run_eq TX n Ls.S.init gv [] Mn.ri_init hgr
   rw[emean]at k
   revert run k
   generalize Ls.goText ((Ck.linesW b).map Ck.lineW) n Ls.S.init gv=r
   intro k run
   obtain⟨er,Rr,_,hrl⟩:=run
   rw[List.nil_append]at er
   refine iteF ⟨_,rfl,a,b,rfl,s03.seq hb,by omega,hb16.2,fun H4 L W4 s4 sW4 hPg=>?_⟩
   refine⟨_,rfl,fun x dx hx hdx ne=>?_⟩
   have hmk:∀b' o,H4 b'=some o→(upd (upd H4 dx (.own x)) x (.ins CR dx [])) b'=some o∧b'≠x:=fun b' o e=>⟨by rw[zF (zH e hx),zF (zH e hdx)];exact e,zH e hx⟩
   have hPW:ProgW C CL H4 L (Cc.progP (Ck.linesW b)):=by
    obtain⟨as,x1,x2,x3⟩:=hPg
    refine⟨as,x1,x2,fun i a' l ha hl=>?_⟩
    obtain⟨dx',st',so',y1,y2,y3⟩:=x3 i a' l ha hl
    exact⟨dx',st',so',y1,y2.mono sW4,y3.mono sW4⟩
   refine⟨x,dx,L,g,H4,_,gv,rfl,zB,fun b' o e=>(hmk b' o e).1,hx,hPW,(s03.trans s4).seq hg,fun H5 G5 ep5 I5=>⟨rfl,?_⟩⟩
   have hst5:∀l∈Cc.progP (Ck.linesW b),l.steps.length≤16500:=fun l hl=>(hok.all l hl).few
   have hob5:=I5.ob
   rw[ep5]at hob5
   refine⟨_,rfl,x,G5.dx,_,rfl,hob5,rF_lines,_,rfl,G5,H4,_,gv,_,_,n,by rw[ep5];rfl,I5,Mn.ri_init,TX,hst5,hgr,Nat.zero_le _,rfl,cn,fun W6 H6 G6 tk6 sW6 ep6 ht6 hd6 I6=>?_⟩
   change gv.drop tk6=(Mn.rlP ((Ck.linesW b).map Ck.lineW) (Cc.progP (Ck.linesW b)) n (Ls.S.init,gv,[])).2.1 at hd6
   change RnAt K C CL CC CR W6 H6 G6 _ gv ⟨(Mn.rlP ((Ck.linesW b).map Ck.lineW) (Cc.progP (Ck.linesW b)) n (Ls.S.init,gv,[])).1,tk6,(Mn.rlP ((Ck.linesW b).map Ck.lineW) (Cc.progP (Ck.linesW b)) n (Ls.S.init,gv,[])).2.2⟩at I6
   rw[er]at hd6 I6
   have hob6:=I6.ob
   rw[ep6,ep5]at hob6
   refine⟨_,rfl,x,G6.dx,_,rfl,hob6,rF_told,G6,W6,_,gv,_,_,by rw[ep6,ep5];rfl,I6,Rr,TX,hst5,ht6,fun H7 G7 p7 ep7 I7 hp7=>?_⟩
   have hob7:=I7.ob
   rw[ep7,ep6,ep5]at hob7
   refine⟨_,rfl,x,CR,G7.dx,_,_,rfl,hob7,T.cR,T.nOut,rF_out ..,p7,G7.ao,_,_,rfl,rfl,hp7,I7.ou,by rw[List.length_map];show 2+r.2.2.length≤_;omega,fun p8 hp8=>?_⟩
   have sH7:Same H H7:=((s03.trans s4).trans sW6).trans I7.sub
   refine k _ p8 (Same.upd' sH7 (sH7.free hp8)) ?_
   rw[zB]
   change some (HO.lst ([V.int (((Ls.textState ((Ck.linesW b).map Ck.lineW) r.1 (gv.drop tk6)).1:Nat):Int),V.int (((Ls.textState ((Ck.linesW b).map Ck.lineW) r.1 (gv.drop tk6)).2:Nat):Int)]++r.2.2.map V.int))=_
   rw[hd6]
   rfl
end
end Rn
namespace Pg
open PySem L2 Ck Ins Cc R
theorem nmT_mk{K:PySem.W.Frag}{h:Heap}{mg:Str→Option Value}{t1 t2 t3 t4 t5 t6:Tok}(X:K.In h)(G:h.Ns mainGlobals mg)(g1:PySem.W.nsIn K mainGlobals "PUSH"=some (some (.int 1 t1)))(g2:PySem.W.nsIn K mainGlobals "LOAD"=some (some (.int 2 t2)))(g3:PySem.W.nsIn K mainGlobals "STORE"=some (some (.int 3 t3)))
  (g4:PySem.W.nsIn K mainGlobals "LOADL"=some (some (.int 4 t4)))(g5:PySem.W.nsIn K mainGlobals "STOREL"=some (some (.int 5 t5)))(g6:PySem.W.nsIn K mainGlobals "FIRST_LETTER"=some (some (.int 97 t6))):NmT K mg:=
 ⟨⟨t1,PySem.W.mg_of X G g1⟩,⟨t2,PySem.W.mg_of X G g2⟩,⟨t3,PySem.W.mg_of X G g3⟩,⟨t4,PySem.W.mg_of X G g4⟩,⟨t5,PySem.W.mg_of X G g5⟩,⟨t6,PySem.W.mg_of X G g6⟩⟩
theorem pgT_mk{K:PySem.W.Frag}{h:Heap}{mg:Str→Option Value}{CL CB:Addr}(X:K.In h)(G:h.Ns mainGlobals mg)(gL:PySem.W.nsIn K mainGlobals "Line"=some (some (.ref CL)))(gB:PySem.W.nsIn K mainGlobals "Builder"=some (some (.ref CB)))
  (pg:PySem.W.plainGet K CL Str.empty=true)(hd:PySem.W.hasDictIn K CL=true)(po:PySem.W.plainOver K CL=true)(sa:PySem.W.findIn K (.ref CL) "__setattr__"=some (some (.builtin "object.__setattr__")))
  (pg2:PySem.W.plainGet K CB Str.empty=true)(hd2:PySem.W.hasDictIn K CB=true)(po2:PySem.W.plainOver K CB=true)(sa2:PySem.W.findIn K (.ref CB) "__setattr__"=some (some (.builtin "object.__setattr__")))
  (n1:PySem.W.findIn K (.ref CL) "number"=some none)(n2:PySem.W.findIn K (.ref CL) "kind"=some none)(n3:PySem.W.findIn K (.ref CL) "steps"=some none)(n4:PySem.W.findIn K (.ref CL) "store"=some none)(n5:PySem.W.findIn K (.ref CL) "target"=some none)(n6:PySem.W.findIn K (.ref CL) "amount"=some none)
  (m1:PySem.W.findIn K (.ref CB) "procedures"=some none)(m2:PySem.W.findIn K (.ref CB) "lines"=some none)(m3:PySem.W.findIn K (.ref CB) "heads"=some none)(m4:PySem.W.findIn K (.ref CB) "parameters"=some none):PgT K mg CL CB:=
 ⟨⟨pg,hd,po,sa⟩,⟨pg2,hd2,po2,sa2⟩,n1,n2,n3,n4,n5,n6,m1,m2,m3,m4,PySem.W.mg_of X G gL,PySem.W.mg_of X G gB⟩
theorem opn_mk{P:Program}{w:World}{K:PySem.W.Frag}{a:Addr}(z:(a==sysModules)=false)(c1:dictTAt K a=some (tabL K a))(c2:(tabL K a).map (·.1)=(tabL K a).map (fun x=>(tupleKind (mixKind P w)).hash (x.2.2.1.map Sum.inl)))(c3:((tabL K a).map fun x=>(x.2.2.1,x.2.2.2))=OPN.map fun p=>(p.1.map fun c=>(c.toNat:Int),V.int (p.2:Int))):ModD P w K a opnKV:=
 mod_tab z c1 c2 c3 (by decide)
end Pg
namespace Rn
open PySem L2 Ins Pg R Ar
abbrev rw3:=PySem.Challenge.rw_linewords_s03_mean
theorem within3{n:Int}{l g:List Int}{u:Unit}(hw:PySem.W.Codec.withinAll rw3.args (n,l,g,u)=true):0≤n∧l.length≤16500∧(∀x∈l,0≤x∧x≤255)∧g.length≤5000:=by
 have h:(PySem.W.Codec.inInt 0 4294967295 n&&((PySem.W.Codec.inNat 0 16500 l.length&&l.all (PySem.W.Codec.inInt 0 255))&&((PySem.W.Codec.inNat 0 5000 g.length&&g.all (PySem.W.Codec.inInt (-18446744073709551615) 18446744073709551615))&&true)))=true:=hw
 simp only[Bool.and_eq_true,PySem.W.Codec.inInt_iff,PySem.W.Codec.inNat_iff,List.all_eq_true]at h
 exact⟨h.1.1,h.2.1.1.2,h.2.1.2,h.2.2.1.1.2⟩
theorem walk{q:Program}{loose:List Str}{XP:(Str→Option Value)→Heap→Prop}{YP:World→Heap→Prop}{d:DefRec}{K:PySem.Params→PySem.W.Frag}(said:rw3.wellSaid=true)(hdf:d.params.defaults=[])
  (hY:∀(w:World) (h:Heap),YP w h→(K w.params).In h)
  (F:∀(w:World) (mg:Str→Option Value) (fa:Addr) (h:Heap),(K w.params).In h→h.Ns mainGlobals mg→mg d.name=some (.ref fa)→
   ∃fd:FuncData,Binds (K w.params) fd ["n","text","given"] []∧∀base:Heap,FnOk rw3.prog w (K w.params) mg base CX0 9 fa fd ["n","text","given"] (spMean (K w.params))):
  PySem.W.WalkOS q loose XP YP rw3 d [] (fun f vs=>PySem.call f vs):=by
 refine L2.walk_os (r:=rw3) (k:=9) (K:=K) (sp:=spMean) (args:=fun(a:Int×List Int×List Int×Unit)=>[.int a.1,.ints a.2.1,.ints a.2.2.1]) (ans:=fun(a:Int×List Int×List Int×Unit)=>PyWqaywc.mean a.1 a.2.1 a.2.2.1) said hdf ⟨rfl,by decide,by decide⟩ (fun _=>rfl) (fun _=>rfl) ?_ hY ?_ ?_
 ·rintro⟨n,l,g,u⟩ hw ns hm
  obtain⟨_,h2,_,h4⟩:=within3 hw
  have e:ns=l∨ns=g:=by simpa using hm
  have:=zP
  rcases e with e | e
  ·subst e;omega
  ·subst e;omega
 ·intro w mg fa h KX G hmg
  obtain⟨fd,hb,hF⟩:=F w mg fa h KX G hmg
  exact⟨fd,_,hb,fun _=>rfl,fun base _ _=>hF base⟩
 ·intro K ⟨n,l,g,u⟩ H vs hw _ hv
  obtain⟨h1,h2,h3,h4⟩:=within3 hw
  cases hv with
  |cons a1 r1=>
  cases r1 with
  |cons a2 r2=>
  cases r2 with
  |cons a3 r3=>
   cases r3
   have a1':_=V.int n:=a1
   subst a1'
   obtain⟨a,rfl,hs⟩:=a2
   obtain⟨b,rfl,hg⟩:=a3
   have eb:l.map V.int=Ck.vB (LsNeutral.text l):=by
    unfold Ck.vB
    rw[show(fun c:UInt8=>V.int (c.toNat:Int))=V.int∘(fun c:UInt8=>(c.toNat:Int)) from rfl,←List.map_map,Sh.text_back h3]
   have hl:(LsNeutral.text l).length≤16500:=by
    have:(Ck.vB (LsNeutral.text l)).length=l.length:=by rw[←eb,List.length_map]
    rw[Ck.vB_len]at this
    omega
   refine⟨n.toNat,a,b,LsNeutral.text l,g,by rw[Int.toNat_of_nonneg h1],by rw[←eb];exact hs,hl,hg,by omega,fun H' p _ hp=>⟨p,rfl,?_⟩⟩
   show SqL K H' p ((PyWqaywc.mean n l g).map V.int)
   rw[Mn.mean_eq]
   exact SqL.of hp
def pick(l:List Addr)(n:Nat):Addr:=l.getD n 0
theorem ari_mk{P:Program}{w:World}{K:PySem.W.Frag}{mg:Str→Option Value}{aA f1 f2 f3 f4 f5 f6 f7:Addr}{d1 d2 d3 d4 d5 d6 d7:FuncData}
  (D1:Dn K mg "plus" sPlus f1 d1 ["a","b"])(D2:Dn K mg "minus" sMinus f2 d2 ["a","b"])(D3:Dn K mg "times" sTimes f3 d3 ["a","b"])(D4:Dn K mg "quotient" sQuo f4 d4 ["a","b"])(D5:Dn K mg "remainder" sRem f5 d5 ["a","b"])(D6:Dn K mg "less" sLess f6 d6 ["a","b"])(D7:Dn K mg "equal" sEqual f7 d7 ["a","b"])
  (hab:mg "abs"=none)(ops:mg nAri=some (.ref aA))(c1:∃t,mg "ADD"=some (.int 6 t))(c2:∃t,mg "DIV"=some (.int 9 t))(c3:∃t,mg "MOD"=some (.int 10 t))(c4:∃t,mg "LEAST_NUMBER"=some (.int (-9223372036854775808) t))(c5:∃t,mg "MOST_NUMBER"=some (.int 9223372036854775807 t))(c6:∃t,mg "BY_ZERO"=some (.int 2 t))(c7:∃t,mg "OUT_OF_RANGE"=some (.int 1 t))(c8:∃t,mg "GOES_ON"=some (.int 7 t))
  (tb:tabAt K aA=some ((List.range 7).map fun n=>V.ref (pick [f1,f2,f3,f4,f5,f6,f7] n))):AriT P w K mg aA (pick [f1,f2,f3,f4,f5,f6,f7]):=
 ⟨ops,tab_sq tb (by rw[List.length_map,List.length_range];decide),fun base o ho=>match o,ho with
  |0,_=>⟨d1,ok_plus D1.fn,D1.fn.kp,D1.bd⟩
  |1,_=>⟨d2,ok_minus D2.fn,D2.fn.kp,D2.bd⟩
  |2,_=>⟨d3,ok_times D3.fn,D3.fn.kp,D3.bd⟩
  |3,_=>⟨d4,ok_quo D4.fn hab,D4.fn.kp,D4.bd⟩
  |4,_=>⟨d5,ok_rem D5.fn hab,D5.fn.kp,D5.bd⟩
  |5,_=>⟨d6,ok_less D6.fn,D6.fn.kp,D6.bd⟩
  |6,_=>⟨d7,ok_equal D7.fn,D7.fn.kp,D7.bd⟩
  |o+7,h=>absurd h (by omega),c1,c2,c3,c4,c5,c6,c7,c8⟩
theorem rnT_mk{K:PySem.W.Frag}{h:Heap}{mg:Str→Option Value}{CC CR:Addr}(X:K.In h)(G:h.Ns mainGlobals mg)(c0:∃t,mg "ENDED"=some (.int 0 t))(c1:∃t,mg "TOO_MANY_CALLS"=some (.int 3 t))(c2:∃t,mg "FULL_STACK"=some (.int 5 t))(c3:∃t,mg "WAITING"=some (.int 6 t))(c4:∃t,mg "GOES_ON"=some (.int 7 t))(c5:∃t,mg "MOST_CALLS"=some (.int 200 t))(c6:∃t,mg "LETTERS"=some (.int 26 t))(c7:∃t,mg "PUSH"=some (.int 1 t))(c8:∃t,mg "LOAD"=some (.int 2 t))(c9:∃t,mg "LOADL"=some (.int 4 t))(c10:∃t,mg "STOREL"=some (.int 5 t))(c11:∃t,mg "NOT"=some (.int 13 t))
  (p1:PySem.W.plainGet K CC Str.empty=true)(q1:PySem.W.hasDictIn K CC=true)(r1:PySem.W.plainOver K CC=true)(t1:PySem.W.findIn K (.ref CC) "__setattr__"=some (some (.builtin "object.__setattr__")))(n1:PySem.W.findIn K (.ref CC) "back"=some none)(n2:PySem.W.findIn K (.ref CC) "own"=some none)
  (p2:PySem.W.plainGet K CR Str.empty=true)(q2:PySem.W.hasDictIn K CR=true)(r2:PySem.W.plainOver K CR=true)(t2:PySem.W.findIn K (.ref CR) "__setattr__"=some (some (.builtin "object.__setattr__")))(m0:PySem.W.findIn K (.ref CR) "program"=some none)(m1:PySem.W.findIn K (.ref CR) "given"=some none)(m2:PySem.W.findIn K (.ref CR) "taken"=some none)(m3:PySem.W.findIn K (.ref CR) "at"=some none)(m4:PySem.W.findIn K (.ref CR) "shared"=some none)(m5:PySem.W.findIn K (.ref CR) "calls"=some none)(m6:PySem.W.findIn K (.ref CR) "out"=some none)(m7:PySem.W.findIn K (.ref CR) "results"=some none)
  (gC:PySem.W.nsIn K mainGlobals "Call"=some (some (.ref CC)))(gR:PySem.W.nsIn K mainGlobals "Run"=some (some (.ref CR)))(gl:PySem.W.nsIn K mainGlobals "len"=some none)(gr:PySem.W.nsIn K mainGlobals "range"=some none):RnT K mg CC CR:=
 ⟨c0,c1,c2,c3,c4,c5,c6,c7,c8,c9,c10,c11,⟨p1,q1,r1,t1⟩,n1,n2,⟨p2,q2,r2,t2⟩,m0,m1,m2,m3,m4,m5,m6,m7,PySem.W.mg_of X G gC,PySem.W.mg_of X G gR,PySem.W.mg_none_of X G gl,PySem.W.mg_none_of X G gr⟩
theorem prog_mk'{P:Program}{w:World}{K:PySem.W.Frag}{mg:Str→Option Value}{aB aC aO aN aW C CL CB:Addr}{wA:Nat→Addr}{e1 e2 e3 e4 e5 e6 g1 g2 g3 g4 g5 g6 g7 g8 h2 h3 h4 h5 h6:Addr}{d1 d2 d3 d4 d5 d6 k1 k2 k3 k4 k5 k6 k7 k8 l2 l3 l4 l5 l6:FuncData}
  (M:Ck.LnT P w K mg aB aC aO)(TI:InsC K mg C aW wA)(T:PgT K mg CL CB)(NT:NmT K mg)(hN:mg "OPERATION_NUMBERS"=some (.ref aN))(hD:ModD P w K aN opnKV)(hrg:mg "range"=none)(hrv:mg "reversed"=none)
  (MI:Mt K C "__init__" "Instruction.__init__" sInit e1 d1 ["self","number","operands"])(mk:PySem.W.makesIn K C=true)(kc:PySem.W.keepIn K (.ref C)=true)
  (ML:Mt K CL "__init__" "Line.__init__" sLnInit e2 d2 ["self","number","kind"])(mkL:PySem.W.makesIn K CL=true)(kcL:PySem.W.keepIn K (.ref CL)=true)
  (MB:Mt K CB "__init__" "Builder.__init__" sBdInit e3 d3 ["self","procedures"])(mkB:PySem.W.makesIn K CB=true)(kcB:PySem.W.keepIn K (.ref CB)=true)
  (MT:Mt K CB "take" "Builder.take" sTake e4 d4 ["self","words"])(MF:Mt K CB "fill" "Builder.fill" sFill e5 d5 ["self","line","words"])(MC:Mt K CB "close" "Builder.close" sClose e6 d6 ["self","line"])
  (D1:Dn K mg "split_lines" sLines g1 k1 ["text"])(D2:Dn K mg "split_words" sWords g2 k2 ["line"])(D3:Dn K mg "is_variable" sIsVar g3 k3 ["word"])(D5:Dn K mg "are_digits" sDigits g4 k4 ["signs"])(D6:Dn K mg "is_number" sIsNum g5 k5 ["word"])(D7:Dn K mg "operands_wanted" sOps g6 k6 ["word"])(D9:Dn K mg "line_kind" sKind g7 k7 ["words"])
  (DV:Dn K mg "number_value" sValue g8 k8 ["word"])(DVI:Dn K mg "variable_instruction" sVarIns h2 l2 ["word","parameters","own","shared"])(DWI:Dn K mg "word_instruction" sWordIns h3 l3 ["word","parameters"])(DES:Dn K mg "expression_steps" sSteps h4 l4 ["words","parameters"])
  (DPo:Dn K mg "procedures_of" sProcs h5 l5 ["rows"])(DPr:Dn K mg "program_of" sProg h6 l6 ["text"]):∃C CL CB aW wA f fd,InsC K mg C aW wA∧PgT K mg CL CB∧Dn K mg "program_of" sProg f fd ["text"]∧∀base:Heap,FnOk P w K mg base CX0 8 f fd ["text"] (spProg K C CL):=by
 refine⟨C,CL,CB,aW,wA,h6,l6,TI,T,DPr,fun base=>?_⟩
 have J:InsMk P w K mg C aW wA e1 d1:=⟨TI,⟨mk,MI.me.at_,MI.me.fn,kc⟩,MI.fn,MI.bd⟩
 have GV:FnOk P w K mg base CX0 3 h2 l2 ["word","parameters","own","shared"] (spVarIns C):=ok_varIns DVI J NT
 have GW:FnOk P w K mg base CX0 4 h3 l3 ["word","parameters"] (spWordIns C):=ok_wordIns DWI M J NT hN hD D3 DVI DV
 have GS:FnOk P w K mg base CX0 5 h4 l4 ["words","parameters"] (spSteps C):=ok_steps (f4:=h4) (fW:=h3) (fd4:=l4) DES M D3 D6 D5 D7 DWI GW hrg hrv
 have GF6:FnOk P w K mg base CX0 6 e5 d5 ["self","line","words"] (spFill C CL CB):=ok_fill MF.fn T NT DES GS DVI GV
 have GT:FnOk P w K mg base CX0 7 e4 d4 ["self","words"] (spTake C CL CB):=ok_take MT.fn T M D9 ⟨mkL,ML.me.at_,ML.me.fn,kcL⟩ ML.fn ML.bd MF.me GF6 MF.bd MC.me MC.fn MC.bd
 exact ok_prog DPr T M D1 D2 DPo D9 ⟨mkB,MB.me.at_,MB.me.fn,kcB⟩ MB.fn MB.bd MT.me GT MT.bd
theorem all_mk{w:World}{K:PySem.W.Frag}{mg:Str→Option Value}{aB aC aO aA aW C CL CB CC CR fa fF fP:Addr}{fdF fdP:FuncData}{wA fA:Nat→Addr}{g1 g2 g3 g4 g5 g6 g7 e0 e1 e2 e3 e4 e5 e6 e7 ec:Addr}{l1 l2 l3 l4 l5 l6 l7 d0 d1 d2 d3 d4 d5 d6 d7 dc:FuncData}
  (hfa:mg "mean"=some (.ref fa))(M:Ck.LnT rw3.prog w K mg aB aC aO)(TI:InsC K mg C aW wA)(TP:PgT K mg CL CB)(DF:Dn K mg "first_wrong_line" sFirst fF fdF ["text"])(GF:∀base:Heap,FnOk rw3.prog w K mg base CX0 7 fF fdF ["text"] (Ck.spFirst K))(DP:Dn K mg "program_of" sProg fP fdP ["text"])(GP:∀base:Heap,FnOk rw3.prog w K mg base CX0 8 fP fdP ["text"] (spProg K C CL))
  (T:RnT K mg CC CR)(TA:AriT rw3.prog w K mg aA fA)(hmb:∃t,mg "MOST_BYTES"=some (.int 16384 t))(hms:∃t,mg "MOST_STEPS"=some (.int 20000 t))(hall:mg "all"=none)
  (DTl:Dn K mg "standing_and_line" sTellS g1 l1 ["standing","line"])(DR:Dn K mg "in_range" sInRange g2 l2 ["number"])(DIV:Dn K mg "inverse" sInv g3 l3 ["a"])(DST:Dn K mg "operation_standing" sOpStd g4 l4 ["number","a","b"])(DRE:Dn K mg "operation_result" sOpRes g5 l5 ["number","a","b"])(DCk:Dn K mg "check" sCheck g6 l6 ["text"])(D:Dn K mg "mean" sMean g7 l7 ["n","text","given"])
  (MC:Mt K CC "__init__" "Call.__init__" sCallInit ec dc ["self","back","own"])(mkC:PySem.W.makesIn K CC=true)(kcC:PySem.W.keepIn K (.ref CC)=true)
  (M0:Mt K CR "__init__" "Run.__init__" sRInit e0 d0 ["self","program","given"])(mkR:PySem.W.makesIn K CR=true)(kcR:PySem.W.keepIn K (.ref CR)=true)
  (M1:Mt K CR "work_out" "Run.work_out" sRWork e1 d1 ["self","steps"])(M2:Mt K CR "look_at_line" "Run.look_at_line" sRLook e2 d2 ["self"])(M3:Mt K CR "store_value" "Run.store_value" sRStore e3 d3 ["self","instruction","value"])(M4:Mt K CR "run_line" "Run.run_line" sRLine e4 d4 ["self"])
  (M5:Mt K CR "place_behind" "Run.place_behind" sRBehind e5 d5 ["self","line"])(M6:Mt K CR "run_lines" "Run.run_lines" sRLines e6 d6 ["self","n"])(M7:Mt K CR "told" "Run.told" sRTold e7 d7 ["self"]):
  ∃fd:FuncData,Binds K fd ["n","text","given"] []∧∀base:Heap,FnOk rw3.prog w K mg base CX0 9 fa fd ["n","text","given"] (spMean K):=by
 have e:=hfa.symm.trans D.at_
 cases e
 refine⟨l7,D.bd,fun base=>?_⟩
 have GS:FnOk rw3.prog w K mg base CX0 2 g4 l4 ["number","a","b"] spStd:=ok_std DST.fn TA DR
 have GR:FnOk rw3.prog w K mg base CX0 2 g5 l5 ["number","a","b"] spRes:=ok_res DRE.fn TA
 have GW:FnOk rw3.prog w K mg base CX0 3 e1 d1 ["self","steps"] (spWork K C CL CC CR):=ok_work M1.fn T TI DST GS DRE GR DIV
 have GL:FnOk rw3.prog w K mg base CX0 4 e2 d2 ["self"] (spLook K C CL CC CR):=ok_look M2.fn T TP M1.me GW M1.bd
 have GRL:FnOk rw3.prog w K mg base CX0 3 e4 d4 ["self"] (spRLine K C CL CC CR):=ok_rLine M4.fn T TP TI M3 M5 ⟨mkC,MC.me.at_,MC.me.fn,kcC⟩ MC.fn MC.bd
 have GLS:FnOk rw3.prog w K mg base CX0 5 e6 d6 ["self","n"] (spRLines K C CL CC CR):=ok_rLines M6.fn T M2.me GL M2.bd M4.me GRL M4.bd
 have GT:FnOk rw3.prog w K mg base CX0 5 e7 d7 ["self"] (spRTold K C CL CC CR):=ok_rTold M7.fn T TA.outr DTl M2.me GL M2.bd
 exact ok_mean D.fn T TA hms hall DR DCk (Ck.ok_check DCk M hmb DF (GF base)) DP (GP base) ⟨mkR,M0.me.at_,M0.me.fn,kcR⟩ M0.fn M0.bd M6.me GLS M6.bd M7.me GT M7.bd
end Rn
namespace PySem.W.Fast
def tw14578762464992684315:=()
def tw1917816666666426674:=()
def tw8860612669002330929:=()
def tw11722640594798553983:=()
def tw4617714573265584738:=()
def tw18231815986522355153:=()
def tw12609230888096551474:=()
def tw12988880683619249602:=()
def tw12460365588023998737:=()
def tw7072643727750456394:=()
def tw17194791697847177265:=()
def tw14810016819147690670:=()
def tw16686653548116403002:=()
def tw13720737587865932407:=()
def tw8845518316146915717:=()
def tw4933134722644662584:=()
def tw18231926407733649806:=()
def tw52622164120070360:=()
def tw8995214858730859951:=()
def tw16799441214542949506:=()
def tw5352312370235330853:=()
def tw14923564536039412252:=()
def tw677301178608189825:=()
def tw2743350437783389579:=()
def tw7453144209175419586:=()
def tw546077073053683588:=()
def tw10765801100790539324:=()
def tw6064687355698139667:=()
def tw12398734933419344976:=()
def tw18220408193110461707:=()
def tw14014679914043432998:=()
def tw4995851939424224753:=()
def tw15158816399376586257:=()
def tw11926385763796316888:=()
def tw13766145363346913740:=()
def tw1871530997376679158:=()
def tw11490701767499029765:=()
def tw8949386634040370828:=()
def tw326022533484192202:=()
def tw10304942641934235171:=()
def tw1065883427523464005:=()
def tw13766771376865332643:=()
def tw14334953175913436201:=()
def tw15553662391223222422:=()
def tw6920801805161523911:=()
def tw12105072779835368788:=()
def tw5801964611466818376:=()
def tw12148176720712637490:=()
def tw14833510405802590470:=()
def tw17335320466895271087:=()
def tw6130718501720996860:=()
def tw4479296265638608116:=()
def tw9004549888875986316:=()
def tw14419282976849422111:=()
def tw8932025585986636259:=()
def tw14930272763073820674:=()
def tw9764942849951712302:=()
def tw2093111711562209968:=()
def tw14193797991607001070:=()
def tw11795631127235994558:=()
def tw8084873908830697807:=()
def tw10475821624882824864:=()
def tw9703504386378108606:=()
def tw10648561227989886492:=()
def tw3734206578745743374:=()
def tw15805399203836489493:=()
def tw3810149366834015577:=()
def tw5759569367096763755:=()
def tw11363134697796993521:=()
def tw28084577980307609:=()
def tw7345310246057025026:=()
def tw12830748901491814958:=()
def tw4573744238174777315:=()
def tw10417715343191621259:=()
def tw16824619106347343697:=()
def tw9454400607538355892:=()
def tw3861333503698046113:=()
def tw13648230451484660700:=()
def tw10320338684563500128:=()
def tw14056446388040666450:=()
def tw7604670357903687676:=()
def tw6727499891340562386:=()
def tw13885807582503632693:=()
def tw11572873878089588700:=()
def tw6753379385438709032:=()
def tw4345060276731053001:=()
def tw14317248821484695930:=()
def tw756703502709208712:=()
def tw3838818173878457178:=()
def tw15672052752115423048:=()
def tw17073868991557844237:=()
def tw5707307588526834740:=()
def tw17756612727019615051:=()
def tw11600428086227861723:=()
def tw12844390221432513441:=()
def tw17492548935114942470:=()
def tw12520236489411809764:=()
def tw8084059620552031670:=()
def tw4710391301897301252:=()
def tw1568463958929512138:=()
def tw4652174115063575079:=()
def tw540799250749334594:=()
def tw15227769315942013008:=()
def tw12750416515496601010:=()
def tw16044099295039385619:=()
def tw4998674047300865084:=()
def tw6759359562392735157:=()
def tw2910133677565851177:=()
def tw11418734086388141705:=()
def tw14981164168483656963:=()
def tw1981500795386284652:=()
def tw5060485032371766431:=()
def tw15343339867704047267:=()
def tw12239551417867469251:=()
def tw6045417700604508265:=()
def tw12898409857249005469:=()
def tw16510470270211654692:=()
def tw10445186338897436547:=()
def tw14430442297859048433:=()
def tw12923480021086663649:=()
def tw6637951780285948729:=()
def tw7680684599265643831:=()
def tw17973337637558243307:=()
def tw16966819031781851437:=()
def tw15087195047823074842:=()
def tw16352991249190152285:=()
def tw5054749864176768930:=()
def tw13243930731052153380:=()
def tw128735132038331394:=()
def tw6017171261655338830:=()
def tw3300832080046515474:=()
def tw3010120396143572243:=()
def tw13867543620471478143:=()
def tw13074276050604024917:=()
def tw5589228577734000287:=()
def tw5127191884000531188:=()
def tw1358984849381047348:=()
def tw10803639583657094404:=()
def tw6935703458264849515:=()
def tw12077913502962152814:=()
def tw2618903108710909710:=()
def tw1548002256540465314:=()
def tw8239557999253653665:=()
def tw13286728737918344865:=()
def tw13423993271859321431:=()
def tw2336380234583021911:=()
def tw17035599249011116348:=()
def tw9820932001121123707:=()
def tw9505051963821708560:=()
def tw2943061141159868473:=()
def tw2116901367820291856:=()
def tw5239872278244312212:=()
def tw9390114024074852098:=()
def tw5721525107867213779:=()
def tw1180783263374376685:=()
def tw16557077151597072291:=()
def tw10075039395496074870:=()
def tw13494198715786020055:=()
def tw11093736522464376706:=()
def tw13618751606574169342:=()
def tw3892089730017391810:=()
def tw17038446715249481266:=()
def tw3920848298886511169:=()
def tw1299358835973664552:=()
def tw12229881438557240540:=()
def tw12037441979814229219:=()
def tw17623787998431786980:=()
def tw7799082261132528040:=()
def tw8058956110866697789:=()
def tw13611011546017220809:=()
def tw942651480063307623:=()
def tw17338184623962278289:=()
def tw9028111188902360536:=()
def tw17657389054288279644:=()
def tw6751399340665212114:=()
def tw749056342318236196:=()
def tw14739859229849096604:=()
def tw9382516595517509856:=()
def tw14371382964565315823:=()
def tw9124194217961951123:=()
def tw10190071475143738789:=()
def tw10778489993453848196:=()
def tw4335693097467932252:=()
def tw16440904115356234793:=()
def tw14948906551919374693:=()
def tw12326648108123038187:=()
def tw9590457350247446382:=()
def tw14677895041328037335:=()
def tw15984333638591844182:=()
def tw17426116374936946032:=()
def tw7248058894822405782:=()
def tw5875348845496587550:=()
def tw6489048087483262927:=()
def tw10796811024176702069:=()
def tw8108637335274316017:=()
def tw10310507047015659283:=()
def tw14162028630421173894:=()
def tw15944889768032491462:=()
def tw7407332115763416789:=()
def tw1382474954942902367:=()
def tw13484308465628518609:=()
def tw1645415586847873767:=()
def tw2232816893236764425:=()
def tw17393299714531235941:=()
def tw9686988365893075147:=()
def tw10352967514012724262:=()
def tw15525097104031872177:=()
def tw7177487467158302144:=()
def tw6145335961983226343:=()
def tw11410164008097212400:=()
def tw16238772261022745636:=()
def tw10162989406684249484:=()
def tw4707035989122828830:=()
def tw7602257008763846120:=()
def tw12663408482543377476:=()
def tw16523734135809838826:=()
def tw466197732825383321:=()
def tw7573313227537873351:=()
def tw9618195811867476327:=()
def tw11445232508091249596:=()
def tw7582439287847760382:=()
def tw10964545152986287838:=()
def tw3613097584701230051:=()
def tw17487681806151268314:=()
def tw1312293823515273532:=()
def tw9347561951813426545:=()
def tw677157572173709790:=()
def tw4827681014074561219:=()
def tw15902634058510040897:=()
def tw13040514270432818157:=()
def tw5174806646441977852:=()
def tw12304958697904684861:=()
def tw4067825455551971111:=()
def tw6317426775119662752:=()
def tw14844896266703172237:=()
def tw16578238514144214656:=()
def tw1307557252956433384:=()
def tw15200340922719890356:=()
def tw2158295202232345439:=()
def tw14540048208746093248:=()
def tw712823376874137757:=()
def tw5211540510909887573:=()
def tw12013595476172911525:=()
def tw17869451834292865801:=()
def tw8186209126993532360:=()
def tw5583168075203602083:=()
def tw14823692120421546237:=()
def tw4361139495625623229:=()
def tw16764206096295768148:=()
def tw7714386670457138170:=()
def tw15139413031166595616:=()
def tw14965204715637287117:=()
def tw5354709384095002313:=()
def tw8809874827111575477:=()
def tw12567200475754407553:=()
def tw11127183618234679913:=()
def tw13621835025822694998:=()
def tw4609015714174889856:=()
def tw10306169021301184041:=()
def tw14842701218896829337:=()
def tw17672604275007492073:=()
def tw5405174400380536000:=()
def tw12534929366384974931:=()
def tw13296452210136960509:=()
def tw5752306269041201229:=()
def tw8922969877412277077:=()
def tw13768076809882914482:=()
def tw9176426532194973184:=()
def tw16754575428860875201:=()
def tw11049855129095354829:=()
def tw8357328039501251357:=()
def tw11378483188893046776:=()
def tw12937781717281663324:=()
def tw10560921847879971494:=()
def tw15998806336417569693:=()
def tw11690947968074416265:=()
def tw2820962895208573709:=()
def tw9385135743836159100:=()
def tw13993268593962991037:=()
def tw1511983422993453031:=()
def tw11106177502930015560:=()
def tw9769706537693613491:=()
def tw6893160040877311779:=()
def tw10010268765199498071:=()
def tw50876730842989461:=()
def tw1966875604685750810:=()
def tw10592563498906148601:=()
def tw1475575814205423501:=()
def tw6221762666027476956:=()
def tw2655498976128602843:=()
def tw13585402913536940643:=()
def tw6866392346487269804:=()
def tw7818001566956468458:=()
def tw2371272446412177942:=()
def tw14550140020962313436:=()
def tw15978381663468849069:=()
def tw10479000473172216151:=()
def tw7352642501168218683:=()
def tw7700890473488966850:=()
def tw2056418185902550689:=()
def tw5040375595020437749:=()
def tw16800551216692439111:=()
def tw13763283772386050618:=()
def tw12513967693862448674:=()
def tw13330443394784476738:=()
def tw18047292177288614901:=()
def tw16165938358612480836:=()
def tw3928386644215369982:=()
def tw1454734699522128966:=()
def tw616572430037121981:=()
def tw7605193061920480301:=()
def tw16097242594437903249:=()
def tw15206010662193957762:=()
def tw16550758492653840840:=()
def tw4668924013506267719:=()
def tw12660575023705156760:=()
def tw1680414854956985921:=()
def tw6539139084747407345:=()
def tw7163760970783564055:=()
def tw14846216486410011539:=()
def tw9971357912182165312:=()
def tw5181708735134397378:=()
def tw16171801574473664005:=()
def tw15695368649373724270:=()
def tw7663895567441236479:=()
def tw5868398341604526833:=()
def tw5294857484454641025:=()
def tw6827031352028786605:=()
def tw15636458701509028734:=()
def tw17398312172376517610:=()
def tw13678638796732717331:=()
def tw17682435203902066301:=()
def tw14183827081926160421:=()
def tw16647296884384427651:=()
def tw16830114234674164026:=()
def tw992284815247374507:=()
def tw3660291088904259773:=()
def tw13439544143391062947:=()
def tw3289753008749012:=()
def tw11066212162020137992:=()
def tw3034954397024026020:=()
def tw5771725853875869433:=()
def tw2657634139764506500:=()
def tw12307019549820883233:=()
def tw123393311032736736:=()
def tw7262001827132949997:=()
def tw4953197465122132951:=()
def tw17997242963891072567:=()
def tw3638493232028107688:=()
def tw14244665013628438796:=()
def tw3715984084448255497:=()
def tw13768533410514314332:=()
def tw14397645994960514649:=()
def tw14777204396338947491:=()
def tw8243907155591308888:=()
def tw15436451873844355560:=()
def tw12924828991267568200:=()
def tw14992103454075475800:=()
def tw10730772091049210322:=()
def tw16230697144553205593:=()
def tw12267892199228950897:=()
def tw7051414750342405778:=()
def tw14483303923640236692:=()
def tw10916813704045032542:=()
def tw14840985893199915427:=()
def tw945620683688367248:=()
def tw6313209156130399189:=()
def tw5808485703269241575:=()
def tw10183041437375904857:=()
def tw12451944942913416602:=()
def tw8877780188743407257:=()
def tw15664977400438333454:=()
def tw6001545072017379451:=()
def tw13299444813367961872:=()
def tw11794274119664029585:=()
def tw16894399928001455795:=()
def tw14494912618412541283:=()
def tw3521706594339447668:=()
def tw16573271615234456057:=()
def tw3545792263292005317:=()
def tw2164861755931340638:=()
def tw15460476391126022144:=()
def tw6496549766322026095:=()
def tw5951696537288444493:=()
def tw11074583370113147661:=()
def tw17862387995207347150:=()
def tw14305113288219101575:=()
def tw4985158455330691698:=()
def tw11465926659731446717:=()
def tw13118503670114419505:=()
def tw16337862647595308684:=()
def tw14974293527326785044:=()
def tw3022593692092361234:=()
def tw1222951338865227516:=()
def tw12474341696252808014:=()
def tw4279262993893335898:=()
def tw8307808279761204743:=()
def tw16690055077740933931:=()
def tw12688710316096692790:=()
def tw7157353474149808807:=()
def tw11633123274812215983:=()
def tw4716489218089650916:=()
def tw1487013742110204938:=()
def tw440703301023360662:=()
def tw5132596957464289306:=()
def tw17021110653694408381:=()
def tw12005552550944770956:=()
def tw4072975084282728907:=()
def tw13782912454983333308:=()
def tw5618282024638342600:=()
def tw15992473447159806044:=()
def tw14631039354232180255:=()
def tw17454219358091661606:=()
def tw7602560063126170287:=()
def tw7872255827002707295:=()
def tw17563036026536127567:=()
def tw1237393107311048166:=()
def tw5657425292817290805:=()
def tw17916112594149194498:=()
def tw17337903114784827969:=()
def tw12442621657576308589:=()
def tw10714972888213435223:=()
def tw707246804675751984:=()
def tw2758353231003379564:=()
def tw14616010563907686604:=()
def tw1980604893288731571:=()
def tw14114723703307293303:=()
def tw14716170067607604436:=()
def tw542702836656214197:=()
def tw13149380045589915374:=()
def tw1264641230963472930:=()
def tw11030430220363334181:=()
def tw9341134083667457057:=()
def tw6437058625374215540:=()
def tw15950906848175626467:=()
def tw18054026993793708563:=()
def tw11185119015270718798:=()
def tw7139938847682604197:=()
def tw10564359621816355719:=()
def tw7566220798785523453:=()
def tw14800833676275154293:=()
def tw18215943689254588329:=()
def tw12115628444231379218:=()
def tw31619468009284005:=()
def tw16868470846029628106:=()
def tw9877334549483332063:=()
def tw9862037316470457871:=()
def tw9995464933882669892:=()
def tw1566725474986589819:=()
def tw2701797526373479116:=()
def tw10622322236220193194:=()
def tw4963772612286780871:=()
def tw9503069824049102980:=()
def tw14781220294996830607:=()
def tw10028863756110265875:=()
def tw5438745448253760797:=()
def tw9922601614354372531:=()
def tw13058764227320556912:=()
def tw15444268020694195458:=()
def tw10787260766046705975:=()
def tw1088359593864182622:=()
def tw15025565431872100826:=()
def tw6782563127721056701:=()
def tw15688542142746381426:=()
def tw1525490647005175106:=()
def tw8703072551050455535:=()
def tw9175276777883534816:=()
def tw15075537004997493296:=()
def tw576694407641358392:=()
def tw3926575858979254914:=()
def tw12192060803297127333:=()
def tw4528411243061451697:=()
def tw7277518828785643629:=()
def tw10136718334785078636:=()
def tw12601921190620548713:=()
def tw14065390809602691151:=()
def tw8226058003808864343:=()
def tw6960782959034791316:=()
def tw15763220327876426416:=()
def tw1287084397739176139:=()
def tw9544768384051366663:=()
def tw14954411373777493390:=()
def tw17690497900941513107:=()
def tw15302252659632357192:=()
end PySem.W.Fast
open PySem PySem.W PyProof.Rows
set_option maxRecDepth 100000 in
set_option maxHeartbeats 0 in
theorem PySem.Challenge.cw_linewords_s03_mean_holds : PySem.Challenge.rw_linewords_s03_mean.Holds := by
 w_on; k_headS; (case hw=>exact ⟨[.int 0,.list [],.list []],by decide +kernel,by decide +kernel⟩)
 k_fillS
 refine Rn.walk (by decide +kernel) rfl (fun w h Y=>PySem.W.kIn_of Y) ?F
 case F =>
  intro w mg fa h KX G hmg
  have M : ∃ aB aC aO,Ck.LnT Rn.rw3.prog w (L2.KOf KX) mg aB aC aO:=by
   dsimp only [L2.KOf]
   refine' ⟨_,_,_,Ck.lnT_mk KX G (Ck.wdT_mk KX G ?_ ?_ ?_ ?_ ?_ ?_ ?_ ?_) ?_ ?_ ?_ ?_ ?_ ?_ ?_ ?_ ?_ ?_ ?_ ?_ ?_ ?_ ?_ ?_ ?_ ?_⟩
   all_goals try first
    |k_is
    |kernel_rfl
  obtain ⟨aB,aC,aO,M⟩ := M
  have DF : ∃ f fd,L2.Dn (L2.KOf KX) mg "first_wrong_line" R.sFirst f fd ["text"]:=by
   dsimp only [L2.KOf]
   refine' ⟨_,_,L2.dn_mk KX G ?_ ?_ ?_ ?_ ?_⟩
   all_goals try first
    |k_is
    | (intro _ _ _ _ _ _ us hl; match us,hl with | [_],_=>rfl)
  obtain ⟨fF,fdF,DF⟩ := DF
  have GF : ∀ base : Heap,L2.FnOk Rn.rw3.prog w (L2.KOf KX) mg base L2.CX0 7 fF fdF ["text"] (Ck.spFirst (L2.KOf KX)):=by
   intro base
   dsimp only [L2.KOf]
   refine' Ck.first_mk M (Ck.plT_mk KX G ?_ ?_ ?_ ?_ ?_ ?_ ?_) (L2.dn_mk KX G ?_ ?_ ?_ ?_ ?_) (L2.dn_mk KX G ?_ ?_ ?_ ?_ ?_) (L2.dn_mk KX G ?_ ?_ ?_ ?_ ?_) (L2.dn_mk KX G ?_ ?_ ?_ ?_ ?_) (L2.dn_mk KX G ?_ ?_ ?_ ?_ ?_) (L2.dn_mk KX G ?_ ?_ ?_ ?_ ?_) (L2.dn_mk KX G ?_ ?_ ?_ ?_ ?_) (L2.dn_mk KX G ?_ ?_ ?_ ?_ ?_) (L2.dn_mk KX G ?_ ?_ ?_ ?_ ?_) (L2.dn_mk KX G ?_ ?_ ?_ ?_ ?_) (L2.dn_mk KX G ?_ ?_ ?_ ?_ ?_) (L2.dn_mk KX G ?_ ?_ ?_ ?_ ?_) (L2.dn_mk KX G ?_ ?_ ?_ ?_ ?_) (L2.mt_mk ?_ ?_ ?_ ?_ ?_ ?_) (L2.mt_mk ?_ ?_ ?_ ?_ ?_ ?_) (L2.mt_mk ?_ ?_ ?_ ?_ ?_ ?_) ?_ ?_ DF
   all_goals try first
    |k_is
    |kernel_rfl
    | (intro _ _ _ _ _ _ us hl; match us,hl with | [_],_=>rfl)
    | (intro _ _ _ _ _ _ us hl; match us,hl with | [_,_],_=>rfl)
  have TA : ∃ aA fA,Ar.AriT Rn.rw3.prog w (L2.KOf KX) mg aA fA:=by
   dsimp only [L2.KOf]
   refine' ⟨_,_,Rn.ari_mk (L2.dn_mk KX G ?_ ?_ ?_ ?_ ?_) (L2.dn_mk KX G ?_ ?_ ?_ ?_ ?_) (L2.dn_mk KX G ?_ ?_ ?_ ?_ ?_) (L2.dn_mk KX G ?_ ?_ ?_ ?_ ?_) (L2.dn_mk KX G ?_ ?_ ?_ ?_ ?_) (L2.dn_mk KX G ?_ ?_ ?_ ?_ ?_) (L2.dn_mk KX G ?_ ?_ ?_ ?_ ?_) (PySem.W.mg_none_of KX G ?_) (PySem.W.mg_of KX G ?_) (L2.int_mk KX G ?_) (L2.int_mk KX G ?_) (L2.int_mk KX G ?_) (L2.int_mk KX G ?_) (L2.int_mk KX G ?_) (L2.int_mk KX G ?_) (L2.int_mk KX G ?_) (L2.int_mk KX G ?_) ?_⟩
   all_goals try first
    |k_is
    |kernel_rfl
    | (intro _ _ _ _ _ _ us hl; match us,hl with | [_],_=>rfl)
    | (intro _ _ _ _ _ _ us hl; match us,hl with | [_,_],_=>rfl)
  obtain ⟨aA,fA,TA⟩ := TA
  have PR : ∃ C CL CB aW wA f fd,Ins.InsC (L2.KOf KX) mg C aW wA∧Pg.PgT (L2.KOf KX) mg CL CB∧L2.Dn (L2.KOf KX) mg "program_of" R.sProg f fd ["text"]∧∀ base : Heap,L2.FnOk Rn.rw3.prog w (L2.KOf KX) mg base L2.CX0 8 f fd ["text"] (Pg.spProg (L2.KOf KX) C CL):=by
   dsimp only [L2.KOf]
   refine' Rn.prog_mk' M (Ins.insC_mk KX G ?_ ?_ ?_ ?_ ?_ ?_ ?_ ?_ ?_ ?_ ?_ ?_) (Pg.pgT_mk KX G ?_ ?_ ?_ ?_ ?_ ?_ ?_ ?_ ?_ ?_ ?_ ?_ ?_ ?_ ?_ ?_ ?_ ?_ ?_ ?_) (Pg.nmT_mk KX G ?_ ?_ ?_ ?_ ?_ ?_) (PySem.W.mg_of KX G ?_) (Pg.opn_mk ?_ ?_ ?_ ?_) (PySem.W.mg_none_of KX G ?_) (PySem.W.mg_none_of KX G ?_) (L2.mt_mk ?_ ?_ ?_ ?_ ?_ ?_) ?_ ?_ (L2.mt_mk ?_ ?_ ?_ ?_ ?_ ?_) ?_ ?_ (L2.mt_mk ?_ ?_ ?_ ?_ ?_ ?_) ?_ ?_ (L2.mt_mk ?_ ?_ ?_ ?_ ?_ ?_) (L2.mt_mk ?_ ?_ ?_ ?_ ?_ ?_) (L2.mt_mk ?_ ?_ ?_ ?_ ?_ ?_) (L2.dn_mk KX G ?_ ?_ ?_ ?_ ?_) (L2.dn_mk KX G ?_ ?_ ?_ ?_ ?_) (L2.dn_mk KX G ?_ ?_ ?_ ?_ ?_) (L2.dn_mk KX G ?_ ?_ ?_ ?_ ?_) (L2.dn_mk KX G ?_ ?_ ?_ ?_ ?_) (L2.dn_mk KX G ?_ ?_ ?_ ?_ ?_) (L2.dn_mk KX G ?_ ?_ ?_ ?_ ?_) (L2.dn_mk KX G ?_ ?_ ?_ ?_ ?_) (L2.dn_mk KX G ?_ ?_ ?_ ?_ ?_) (L2.dn_mk KX G ?_ ?_ ?_ ?_ ?_) (L2.dn_mk KX G ?_ ?_ ?_ ?_ ?_) (L2.dn_mk KX G ?_ ?_ ?_ ?_ ?_) (L2.dn_mk KX G ?_ ?_ ?_ ?_ ?_)
   all_goals try first
    |k_is
    |kernel_rfl
    | (intro _ _ _ _ _ _ us hl; match us,hl with | [_],_=>rfl)
    | (intro _ _ _ _ _ _ us hl; match us,hl with | [_,_],_=>rfl)
    | (intro _ _ _ _ _ _ us hl; match us,hl with | [_,_,_],_=>rfl)
    | (intro _ _ _ _ _ _ us hl; match us,hl with | [_,_,_,_],_=>rfl)
  obtain ⟨C,CL,CB,aW,wA,fP,fdP,TI,TP,DP,GP⟩ := PR
  refine' Rn.all_mk hmg M TI TP DF GF DP GP (Rn.rnT_mk KX G (L2.int_mk KX G ?_) (L2.int_mk KX G ?_) (L2.int_mk KX G ?_) (L2.int_mk KX G ?_) (L2.int_mk KX G ?_) (L2.int_mk KX G ?_) (L2.int_mk KX G ?_) (L2.int_mk KX G ?_) (L2.int_mk KX G ?_) (L2.int_mk KX G ?_) (L2.int_mk KX G ?_) (L2.int_mk KX G ?_) ?_ ?_ ?_ ?_ ?_ ?_ ?_ ?_ ?_ ?_ ?_ ?_ ?_ ?_ ?_ ?_ ?_ ?_ ?_ ?_ ?_ ?_) TA (L2.int_mk KX G ?_) (L2.int_mk KX G ?_) (PySem.W.mg_none_of KX G ?_) (L2.dn_mk KX G ?_ ?_ ?_ ?_ ?_) (L2.dn_mk KX G ?_ ?_ ?_ ?_ ?_) (L2.dn_mk KX G ?_ ?_ ?_ ?_ ?_) (L2.dn_mk KX G ?_ ?_ ?_ ?_ ?_) (L2.dn_mk KX G ?_ ?_ ?_ ?_ ?_) (L2.dn_mk KX G ?_ ?_ ?_ ?_ ?_) (L2.dn_mk KX G ?_ ?_ ?_ ?_ ?_) (L2.mt_mk ?_ ?_ ?_ ?_ ?_ ?_) ?_ ?_ (L2.mt_mk ?_ ?_ ?_ ?_ ?_ ?_) ?_ ?_ (L2.mt_mk ?_ ?_ ?_ ?_ ?_ ?_) (L2.mt_mk ?_ ?_ ?_ ?_ ?_ ?_) (L2.mt_mk ?_ ?_ ?_ ?_ ?_ ?_) (L2.mt_mk ?_ ?_ ?_ ?_ ?_ ?_) (L2.mt_mk ?_ ?_ ?_ ?_ ?_ ?_) (L2.mt_mk ?_ ?_ ?_ ?_ ?_ ?_) (L2.mt_mk ?_ ?_ ?_ ?_ ?_ ?_)
  all_goals try first
   |k_is
   |kernel_rfl
   | (intro _ _ _ _ _ _ us hl; match us,hl with | [_],_=>rfl)
   | (intro _ _ _ _ _ _ us hl; match us,hl with | [_,_],_=>rfl)
   | (intro _ _ _ _ _ _ us hl; match us,hl with | [_,_,_],_=>rfl)
